"""Closurize: programs of functions turned into code of procedures, and a machine that runs it."""
