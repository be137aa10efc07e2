"""What a program means: its end, and the ends that are seen when what came out is called."""

from closurize.program_steps import program_blocks
from closurize.worker import FUNCTION_OUT, NUMBER_OUT, Worker


def ends_of(program, allowed, numbers):
    worker = Worker(program_blocks(program))
    outcome = worker.run_main(allowed)
    ends = [end_seen(worker, outcome)]
    place = 0
    while outcome == FUNCTION_OUT and place + 1 < len(numbers):
        outcome = worker.call_out(numbers[place], numbers[place + 1])
        ends.append(end_seen(worker, outcome))
        place = place + 2
    return ends


def end_seen(worker, outcome):
    if outcome == NUMBER_OUT:
        return [NUMBER_OUT, worker.out, worker.calls, worker.cells]
    if outcome == FUNCTION_OUT:
        return [FUNCTION_OUT, 0, worker.calls, worker.cells]
    return [outcome, 0, 0, 0]
