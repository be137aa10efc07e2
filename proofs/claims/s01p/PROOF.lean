import PyProof.Rows.All
import Wide.All
import OpenK.AllK
import Wide.FinOn
import PyProof.EqAt
import PyProof.EqKinds
import PyProof.TupleCall
import KE.BitLaws
import Open.SpecLaws
import KE.OsHead
import KE.OsGo
import PyProof.StationsW
import PyProof.RulesAs
import PyProof.PassesOwn
import PyProof.InstStoreFacts
import PyProof.ExcInit
import PyProof.ExcBaseAll.Exception
import PyProof.ExcAttrAll.Exception
import PySem.Challenge.RW_closurize_s01_answers
set_option Elab.async false
set_option linter.all false
set_option maxRecDepth 100000
set_option maxHeartbeats 4000000
theorem ye:type_of% @decide_eq_false:=@decide_eq_false
theorem E8:type_of% @beq_eq_false_iff_ne:=@beq_eq_false_iff_ne
theorem bT:type_of% @if_pos:=@if_pos
theorem bz:type_of% @if_neg:=@if_neg
theorem j7:type_of% @Option.some.inj:=@Option.some.inj
theorem iW:type_of% @PySem.Heap.lt_size:=@PySem.Heap.lt_size
theorem mY:type_of% @Nat.lt_of_lt_of_le:=@Nat.lt_of_lt_of_le
theorem zK:type_of% @Nat.lt_irrefl:=@Nat.lt_irrefl
theorem pn:type_of% @Nat.ne_of_lt:=@Nat.ne_of_lt
theorem i3:type_of% @Nat.le_trans:=@Nat.le_trans
theorem iO:type_of% @List.mem_cons_self:=@List.mem_cons_self
theorem gz:type_of% @List.mem_cons_of_mem:=@List.mem_cons_of_mem
theorem dG:type_of% @List.mem_cons:=@List.mem_cons
theorem bC:type_of% @Ne.symm:=@Ne.symm
theorem fN:type_of% @List.mem_append:=@List.mem_append
theorem yf:type_of% @List.mem_append_left:=@List.mem_append_left
theorem gn:type_of% @List.getElem?_eq_some_iff:=@List.getElem?_eq_some_iff
theorem mH:type_of% @PySem.wpAny_mono:=@PySem.wpAny_mono
theorem oA:type_of% @congrArg:=@congrArg
theorem fO:type_of% @PySem.wpAny_bind:=@PySem.wpAny_bind
theorem E9:type_of% @PySem.wpAny_passesOwn:=@PySem.wpAny_passesOwn
theorem oB:type_of% @Bool.false_ne_true:=@Bool.false_ne_true
theorem kJ:type_of% @PySem.wpAny_pure:=@PySem.wpAny_pure
theorem ph:type_of% @PySem.Heap.get?_push_of_some:=@PySem.Heap.get?_push_of_some
theorem vW:type_of% @PySem.Heap.get?_push_size:=@PySem.Heap.get?_push_size
theorem dW:type_of% @Nat.le_refl:=@Nat.le_refl
theorem r9:type_of% @List.mem_append_right:=@List.mem_append_right
theorem jV:type_of% @Nat.zero_le:=@Nat.zero_le
theorem gU:type_of% @PySem.sizeLine_eq:=@PySem.sizeLine_eq
theorem mj:type_of% @List.size_toArray:=@List.size_toArray
theorem c9:type_of% @List.length_cons:=@List.length_cons
theorem j6:type_of% @List.map_cons:=@List.map_cons
theorem cA:type_of% @List.length_map:=@List.length_map
theorem wU:type_of% @PySem.Heap.size_push:=@PySem.Heap.size_push
theorem yg:type_of% @PySem.W.kia_one:=@PySem.W.kia_one
theorem zI:type_of% @List.append_nil:=@List.append_nil
theorem Lb:type_of% @PySem.wpAny_Call_Name_kw:=@PySem.wpAny_Call_Name_kw
theorem um:type_of% @List.nodup_cons:=@List.nodup_cons
theorem u0:type_of% @List.length_take:=@List.length_take
theorem uo:type_of% @PySem.mem_of_lookup:=@PySem.mem_of_lookup
theorem q3:type_of% @List.getElem?_append_right:=@List.getElem?_append_right
theorem sd:type_of% @List.getElem?_append_left:=@List.getElem?_append_left
theorem h8:type_of% @List.getElem?_map:=@List.getElem?_map
theorem jc:type_of% @List.mem_of_getElem?:=@List.mem_of_getElem?
theorem g8:type_of% @List.length_append:=@List.length_append
theorem uq:type_of% @Int.toNat_natCast:=@Int.toNat_natCast
theorem oE:type_of% @List.length_drop:=@List.length_drop
theorem jA:type_of% @Bool.and_eq_true:=@Bool.and_eq_true
theorem k7:type_of% @PySem.F.slot_list_append:=@PySem.F.slot_list_append
theorem Oa:type_of% @List.length_singleton:=@List.length_singleton
theorem Fb:type_of% @PySem.F.slot_list_extend:=@PySem.F.slot_list_extend
theorem vX:type_of% @PySem.F.slot_list_pop:=@PySem.F.slot_list_pop
theorem zJ:type_of% @List.all_eq_true:=@List.all_eq_true
theorem gA:type_of% @List.getElem?_eq_getElem:=@List.getElem?_eq_getElem
theorem Fc:type_of% @List.lookup_cons:=@List.lookup_cons
theorem Fd:type_of% @List.getElem?_eq_none:=@List.getElem?_eq_none
theorem vY:type_of% @List.mem_map:=@List.mem_map
theorem tB:type_of% @decide_eq_true_eq:=@decide_eq_true_eq
theorem ur:type_of% @Option.map_some:=@Option.map_some
theorem j8:type_of% @Option.bind_some:=@Option.bind_some
theorem oF:type_of% @Nat.add_assoc:=@Nat.add_assoc
theorem iy:type_of% @Option.map_eq_some_iff:=@Option.map_eq_some_iff
theorem jL:type_of% @Option.bind_eq_some_iff:=@Option.bind_eq_some_iff
theorem Lc:type_of% @List.filter_append:=@List.filter_append
theorem gB:type_of% @List.map_append:=@List.map_append
theorem Fe:type_of% @List.append_assoc:=@List.append_assoc
theorem Dc:type_of% @Nat.sub_self:=@Nat.sub_self
theorem mZ:type_of% @List.getD_eq_getElem?_getD:=@List.getD_eq_getElem?_getD
theorem Dd:type_of% @List.flatMap_cons:=@List.flatMap_cons
theorem Ld:type_of% @List.forall_mem_cons:=@List.forall_mem_cons
theorem De:type_of% @List.forall_mem_append:=@List.forall_mem_append
theorem tC:type_of% @Option.some.injEq:=@Option.some.injEq
theorem u3:type_of% @Prod.mk.injEq:=@Prod.mk.injEq
theorem Ff:type_of% @Nat.lt_or_ge:=@Nat.lt_or_ge
theorem yh:type_of% @List.length_nil:=@List.length_nil
theorem tD:type_of% @Nat.succ_pos:=@Nat.succ_pos
theorem tE:type_of% @List.length_reverse:=@List.length_reverse
theorem Bl:type_of% @decide_eq_true:=@decide_eq_true
theorem Fg:type_of% @List.contains_cons:=@List.contains_cons
theorem Df:type_of% @PySem.wpAny_loadPart_at:=@PySem.wpAny_loadPart_at
theorem Le:type_of% @PySem.wpAny_isSubtype_exc:=@PySem.wpAny_isSubtype_exc
theorem m3:type_of% @PySem.boot_len:=@PySem.boot_len
theorem gZ:type_of% @PySem.F.plainAttrs_list:=@PySem.F.plainAttrs_list
theorem wV:type_of% @PySem.F.type_list_pop:=@PySem.F.type_list_pop
theorem uu:type_of% @List.dropLast_concat:=@List.dropLast_concat
theorem lA:type_of% @PySem.F.type_list_append:=@PySem.F.type_list_append
theorem zL:type_of% @List.reverse_cons:=@List.reverse_cons
theorem vZ:type_of% @List.getElem?_of_mem:=@List.getElem?_of_mem
theorem Bm:type_of% @List.take_length:=@List.take_length
theorem Lf:type_of% @PySem.F.type_list_extend:=@PySem.F.type_list_extend
theorem Fi:type_of% @Int.natCast_add:=@Int.natCast_add
theorem z{a:A}:a=a:=rfl
open Array (append_assoc toList)
open Bool (noConfusion)
open List (all_cons any_cons drop_drop find?_cons flatMap_map getElem?_drop getElem?_range getElem?_set_self idxOf_cons map_map map_nil map_set mem_filter mem_filterMap mem_map_of_mem mem_singleton nodup_append of_mem_zip range replicate reverse_append reverse_reverse take_add_one)
open Nat (add_comm le_add_right le_of_eq le_of_lt le_of_succ_le mod_lt one_pos succ_le_succ)
open Option (bind_none getD_none)
open PySem.F (attr_Exception)
open PySem.W (Frag WRecords WalkOS any_some callWith_K callWith_K0 cellsFrom_some check_slot clsIn codeIn emptyDict findIn findObj_own fnOf funFrames_hide handedIn hasDictIn hideAll hideAll_get hideAll_none instObj kIn_of keepIn kitOne kitx_dict kitx_list lookIn makesIn methodCall_KW methodObj mg_of mroIn notCls nsIn nsOkIn of_hideAll osa_eq plainGet plainGet_of plainOver set_plain specialIn takerIn takesIn typeIn)
namespace bF
open PySem PySem.Spec PyProof.Rows
abbrev kK:=Sum Int Str
def AE:kK->Value->Bool
 |.inl k,v=>Value.isInt k v
 |.inr x,v=>Value.isStrOf x v
def alN(w:World):kK->Int
 |.inl k=>hashInt k
 |.inr x=>hashStr w x
theorem zb:∀{k:kK}{v:Value},AE k v=true->(∃i t,k=Sum.inl i/\v=Value.int i t)\/(∃x t,k=Sum.inr x/\v=Value.str x t)
 |.inl i,v,h=>by
  obtain⟨t,e⟩:=Value.isInt_shape (k:=i) (v:=v) h;exact .inl ⟨i,t,z,e⟩
 |.inr x,v,h=>by
  obtain⟨t,e⟩:=Value.isStrOf_shape (x:=x) (v:=v) h;exact .inr ⟨x,t,z,e⟩
theorem Rb(i:Int)(t:Tok):AE (.inl i) (.int i t)=true:=by simp[AE,Value.isInt]
theorem alO(x:Str)(t:Tok):AE (.inr x) (.str x t)=true:=by simp[AE,Value.isStrOf]
theorem alP(a b:Int):decide ((Sum.inl a:kK)=Sum.inl b)=(a==b):=by
 by_cases e:a=b
 .subst e;simp
 .have h:¬(Sum.inl a:kK)=Sum.inl b:=fun q=>e (Sum.inl.inj q);rw[ye h];exact(E8.mpr e).symm
theorem alS(a b:Str):decide ((Sum.inr a:kK)=Sum.inr b)=decide (a=b):=by
 by_cases e:a=b
 .subst e;simp
 .have h:¬(Sum.inr a:kK)=Sum.inr b:=fun q=>e (Sum.inr.inj q);rw[ye h,ye e]
theorem alQ(a:Int)(b:Str):decide ((Sum.inl a:kK)=Sum.inr b)=false:=ye (fun q=>nomatch q)
theorem alR(a:Str)(b:Int):decide ((Sum.inr a:kK)=Sum.inl b)=false:=ye (fun q=>nomatch q)
def xK(prog:Program)(w:World):PySem.KeyKind prog w kK where
 is:=AE
 hash:=alN w
 inj:=fun v a b cC ae=>by
  rcases zb cC with⟨i,t,rfl,rfl⟩|⟨x,t,rfl,rfl⟩
  .rcases zb ae with⟨j,u,rfl,e⟩|⟨y,u,rfl,e⟩
   .injection e with ay _;rw[ay]
   .exact nomatch e
  .rcases zb ae with⟨j,u,rfl,e⟩|⟨y,u,rfl,e⟩
   .exact nomatch e
   .injection e with ay _;rw[ay]
 byValue:=fun k v h=>by
  rcases zb h with⟨i,t,rfl,rfl⟩|⟨x,t,rfl,rfl⟩<;>rfl
 pyHash:=fun a6 h=>by
  rcases zb a6 with⟨i,t,rfl,rfl⟩|⟨x,t,rfl,rfl⟩
  .exact wpAny_pyHash_int h
  .exact wpAny_pyHash_str h
 eqBool:=fun ck a6 h=>by
  rcases zb ck with⟨i,t,rfl,rfl⟩|⟨x,t,rfl,rfl⟩
  .rcases zb a6 with⟨j,u,rfl,rfl⟩|⟨y,u,rfl,rfl⟩
   .rw[alP]at h;exact wpAny_eqBool_int h
   .rw[alQ]at h;exact SeqAt.EqAt.int_str i t y u _ _ _ _ h
  .rcases zb a6 with⟨j,u,rfl,rfl⟩|⟨y,u,rfl,rfl⟩
   .rw[alR]at h;exact SeqAt.EqAt.str_int x t j u _ _ _ _ h
   .rw[alS]at h;exact wpAny_eqBool_str h
 «strs»:=fun k x t v h=>by
  rcases zb h with⟨i,u,rfl,e⟩|⟨y,u,rfl,e⟩
  .exact nomatch e
  .injection e with ay _
   subst ay;cases v<;>rfl
theorem anh(prog:Program)(w:World)(i:Int)(t:Tok):(xK prog w).is (.inl i) (.int i t)=true:=Rb i t
theorem ani(prog:Program)(w:World)(x:Str)(t:Tok):(xK prog w).is (.inr x) (.str x t)=true:=alO x t
inductive aa where
 |b9|av (b:Bool)|int (i:Int)|str (x:Str)|p8 (b:Array UInt8)|jn (b:UInt64)|ref (a:Addr)|jx (n:String)
 deriving DecidableEq
def RelV:aa->Value->Prop
 |.b9,u=>u=Value.none
 |.av b,u=>u=Value.bool b
 |.int i,u=>∃t,u=Value.int i t
 |.str x,u=>∃t,u=Value.str x t
 |.p8 b,u=>∃t,u=Value.bytes b t
 |.jn b,u=>∃t,u=Value.float b t
 |.ref a,u=>u=Value.ref a
 |.jx n,u=>u=Value.type n
abbrev eS:List aa->List Value->Prop:=Paired RelV
theorem eS.length{xs:List aa}{us:List Value}(r:eS xs us):xs.length=us.length:=Paired.length r
theorem eS.get:∀{xs:List aa}{us:List Value}{i:Nat}{x:aa},eS xs us->xs[i]?=some x->∃u,us[i]?=some u/\RelV x u
 |_,_,_,_,.nil,e=>by simp at e
 |_,_,0,_,.cons r _,e=>by simp at e;subst e;exact⟨_,z,r⟩
 |_,_,i+1,x,.cons _ t,e=>by
  obtain⟨u,ai,aj⟩:=eS.get (i:=i) (x:=x) t (by simpa using e);exact⟨u,by simpa using ai,aj⟩
theorem eS.set{x:aa}{u:Value}(r:RelV x u):∀{xs:List aa}{us:List Value}(i:Nat),eS xs us->eS (xs.set i x) (us.set i u)
 |_,_,_,.nil=>.nil
 |_,_,0,.cons _ t=>.cons r t
 |_,_,i+1,.cons q t=>.cons q (eS.set r i t)
theorem eS.append:∀{xs ys:List aa}{us ah:List Value},eS xs us->eS ys ah->eS (xs++ys) (us++ah)
 |_,_,_,_,.nil,s=>s
 |_,_,_,_,.cons r t,s=>.cons r (eS.append t s)
theorem eS.take:∀{xs:List aa}{us:List Value}(n:Nat),eS xs us->eS (xs.take n) (us.take n)
 |_,_,0,_=>.nil
 |_,_,_+1,.nil=>.nil
 |_,_,n+1,.cons r t=>.cons r (eS.take n t)
theorem eS.drop:∀{xs:List aa}{us:List Value}(n:Nat),eS xs us->eS (xs.drop n) (us.drop n)
 |_,_,0,r=>r
 |_,_,_+1,.nil=>.nil
 |_,_,n+1,.cons _ t=>eS.drop n t
def rj:Option aa->Option Value->Prop
 |some v,some u=>RelV v u
 |none,none=>True
 |_,_=>False
def z7{nS:Type}:List (nS×aa)->List (nS×Value)->Prop:=Paired fun(p:nS×aa)(q:nS×Value)=>p.1=q.1/\RelV p.2 q.2
def oZ:kK->aa
 |.inl i=>.int i
 |.inr x=>.str x
inductive cI where
 |ak (xs:List aa)
 |dD (xs:List aa)
 |vo (kvs:List (kK×aa))|xm (kvs:List (List kK×aa))
 |set (S:Int->Bool) (n:Nat)
 |au (C dx:Addr) (bA:List (Str×aa))
 |own (x:Addr)
 |pW (bA:List (Str×aa))
 |MH (f x:Addr)
 |Nr (lo aF:Int)
 |mO (o:Obj) (u:cI)
 |xZ (ps:Array Value)
 |ext (zM:Heap->Prop)
abbrev aA:=Addr->Option cI
def V(H:aA)(a:Addr)(o:cI):aA:=fun b=>if b=a then some o else H b
theorem aP{H:aA}{a:Addr}{o:cI}:V H a o a=some o:=by unfold V;rw[bT z]
theorem aK{H:aA}{a b:Addr}{o:cI}(h:b≠a):V H a o b=H b:=by unfold V;rw[bz h]
theorem jz{H:aA}{a:Addr}{o u:cI}:V (V H a o) a u=V H a u:=by
 funext b;unfold V;split<;>rfl
theorem fQ{H:aA}{a b:Addr}{o u:cI}(h:H a=some o)(h':H b=some u)(d:o≠u):a≠b:=by
 intro e;subst e;rw[h]at h';exact d (j7 h')
theorem eI{H:aA}{a b:Addr}{o:cI}(h:H a=some o)(h':H b=none):a≠b:=by
 intro e;subst e;rw[h]at h';cases h'
section
variable(P:Program)(w:World)
def jP(H:aA)(h:Heap)(a:Addr):cI->Prop
 |.ak xs=>xs.length<=sizeLine/\∃(bK:List Value)(n:Nat),eS xs bK/\h.get? a=some {cls:=.type "list",data:=.seq bK.toArray n}
 |.dD xs=>xs.length<=sizeLine/\∃bK:List Value,eS xs bK/\IsTup h a bK.toArray
 |.vo kvs=>kvs.length<=sizeLine/\(a==sysModules)=false/\∃vs,z7 kvs vs/\h.DictOf (xK P w) a vs
 |.xm kvs=>kvs.length<=sizeLine/\(a==sysModules)=false/\∃xs:List (List kK×Addr×Value),
   Paired (fun(p:List kK×aa)(q:List kK×Addr×Value)=>p.1=q.1/\H q.2.1=some (.dD (p.1.map oZ))/\RelV p.2 q.2.2) kvs xs/\
   ∃o bX ig,h.get? a=some o/\o.ExactDict/\o.data=.dict bX ig/\bX.toList=xs.map (entryOfKey (tupleKind (xK P w)))/\(xs.map (·.1)).Nodup
 |.set S n=>h.SetOf (intKind P w) a S n
 |.au C dx bA=>H dx=some (.own a)/\bA.length<=1000/\dx≠a/\h.get? a=some (instObj C dx)/\
   ∃iK,h.Ns1 dx iK/\(∀f,rj (bA.lookup f) (iK f))/\PySem.Within iK (bA.map (·.1))
 |.own _=>∃o,h.get? a=some o
 |.pW bA=>∃iK,h.Ns1 a iK/\∀f,rj (bA.lookup f) (iK f)
 |.Nr lo aF=>∃t u v,h.get? a=some {cls:=.type "range",data:=.fields #[.int lo t,.int aF u,.int 1 v]}
 |.mO o u=>h.get? a=some o/\jP H h a u
 |.xZ ps=>h.get? a=some {cls:=.none,data:=.fields ps}
 |.MH f x=>h.get? a=some (methodObj (.ref f) (.ref x))
 |.ext zM=>zM h/\(∃o,h.get? a=some o)/\∀ai aj:Heap,zM ai->(∀o,ai.get? a=some o->aj.get? a=some o)->zM aj
def jW(H:aA)(h:Heap):Prop:=∀a o,H a=some o->jP P w H h a o
end
section
variable{P:Program}{w:World}{H H':aA}{h h':Heap}{a:Addr}{o:cI}
theorem jP.lt(x:jP P w H h a o):a<h.objs.size:=by
 cases o with
 |ak xs=>obtain⟨_,_,_,_,e⟩:=x;exact iW e
 |dD xs=>obtain⟨_,_,_,p⟩:=x;exact p.lt
 |vo kvs=>obtain⟨_,_,_,_,o,_,_,e,_⟩:=x;exact iW e
 |xm kvs=>obtain⟨_,_,_,_,o,_,_,e,_⟩:=x;exact iW e
 |set S n=>obtain⟨o,_,_,_,e,_⟩:=x;exact iW e
 |au C dx bA=>obtain⟨_,_,_,e,_⟩:=x;exact iW e
 |own y=>obtain⟨_,e⟩:=x;exact iW e
 |pW bA=>obtain⟨_,⟨_,_,_,e,_⟩,_⟩:=x;exact iW e
 |Nr lo aF=>obtain⟨_,_,_,e⟩:=x;exact iW e
 |mO cD u=>obtain⟨e,_⟩:=x;exact iW e
 |xZ ps=>exact iW (show h.get? a=some _ from x)
 |MH f y=>exact iW (show h.get? a=some _ from x)
 |ext zM=>obtain⟨_,⟨_,e⟩,_⟩:=x;exact iW e
theorem Paired.Rp{cL ik:Type}{F G:cL->ik->Prop}:∀{l₁:List cL}{Ke:List ik},Paired F l₁ Ke->(∀a b,F a b->G a b)->Paired G l₁ Ke
 |_,_,.nil,_=>.nil
 |_,_,.cons r t,f=>.cons (f _ _ r) (Paired.Rp t f)
theorem Paired.nI{cL ik:Type}{F G:cL->ik->Prop}(f:∀a b,F a b->G a b){l₁:List cL}{Ke:List ik}(r:Paired F l₁ Ke):Paired G l₁ Ke:=Paired.Rp r f
theorem jP.uh(x:jP P w H h a o)(k:∀b u,(b=a\/H b=some (.own a))->h.get? b=some u->h'.get? b=some u)
  (aT:∀b,H b=some (.own a)->H' b=some (.own a))(bO:∀b xs,H b=some (.dD xs)->H' b=some (.dD xs)):jP P w H' h' a o:=by
 induction o with
 |ak xs=>obtain⟨I,bK,n,r,e⟩:=x;exact⟨I,bK,n,r,k _ _ (.inl z) e⟩
 |dD xs=>obtain⟨I,bK,r,cD,e,c⟩:=x;exact⟨I,bK,r,cD,k _ _ (.inl z) e,c⟩
 |vo kvs=>obtain⟨I,y,vs,r,cD,bX,ig,e,c⟩:=x;exact⟨I,y,vs,r,cD,bX,ig,k _ _ (.inl z) e,c⟩
 |xm kvs=>
  obtain⟨I,y,xs,r,cD,bX,ig,e,c⟩:=x;exact⟨I,y,xs,Paired.Rp r fun p q I=>⟨I.1,bO _ _ I.2.1,I.2.2⟩,cD,bX,ig,k _ _ (.inl z) e,c⟩
 |set S n=>obtain⟨cD,bX,ig,t,e,c⟩:=x;exact⟨cD,bX,ig,t,k _ _ (.inl z) e,c⟩
 |au C dx bA=>
  obtain⟨d,I,fB,e,iK,⟨iX,bX,ig,aq,c⟩,r⟩:=x;exact⟨aT _ d,I,fB,k _ _ (.inl z) e,iK,⟨iX,bX,ig,k _ _ (.inr d) aq,c⟩,r⟩
 |own y=>obtain⟨cD,e⟩:=x;exact⟨cD,k _ _ (.inl z) e⟩
 |pW bA=>obtain⟨iK,⟨iX,bX,ig,e,c⟩,r⟩:=x;exact⟨iK,⟨iX,bX,ig,k _ _ (.inl z) e,c⟩,r⟩
 |Nr lo aF=>obtain⟨t,u,v,e⟩:=x;exact⟨t,u,v,k _ _ (.inl z) e⟩
 |mO cD u eL=>obtain⟨e,q⟩:=x;exact⟨k _ _ (.inl z) e,eL q⟩
 |xZ ps=>
  have e:h.get? a=some {cls:=.none,data:=.fields ps}:=x;show h'.get? a=some {cls:=.none,data:=.fields ps};exact k a _ (.inl z) e
 |MH f y=>
  have e:h.get? a=some (methodObj (.ref f) (.ref y)):=x;show h'.get? a=some (methodObj (.ref f) (.ref y));exact k a _ (.inl z) e
 |ext zM=>obtain⟨p,⟨o,e⟩,st⟩:=x;exact⟨st _ _ p fun o q=>k _ _ (.inl z) q,⟨o,k _ _ (.inl z) e⟩,st⟩
theorem jW.lt(x:jW P w H h)(e:H a=some o):a<h.objs.size:=(x a o e).lt
theorem jW.fresh(x:jW P w H h)(e:h.objs.size<=a):H a=none:=by
 cases q:H a with
 |none=>rfl
 |some u=>exact absurd (mY (x.lt q) e) (zK _)
theorem jW.kept(x:jW P w H h)(k:∀b u,h.get? b=some u->h'.get? b=some u):jW P w H h':=fun a o e=>
 (x a o e).uh (fun b u _ q=>k b u q) (fun _ q=>q) fun _ _ q=>q
theorem jW.i9(x:jW P w H h)(k:∀b u,h.get? b=some u->h'.get? b=some u)(aN:h.objs.size<=a)(new:jP P w (V H a o) h' a o):jW P w (V H a o) h':=fun b u e=>by
 have br:=x.fresh aN;by_cases ae:b=a
 .subst ae;rw[aP]at e;cases e;exact new
 .rw[aK ae]at e;exact(x b u e).uh (fun c v _ q=>k c v q) (fun c q=>by rw[aK (eI q br)];exact q) fun c xs q=>by rw[aK (eI q br)];exact q
end
def Ds(H:aA)(a:Addr)(u:cI):Prop:=H a=some u\/∃o,H a=some (.mO o u)
theorem Ds.ok{P:Program}{w:World}{H:aA}{h:Heap}{a:Addr}{u:cI}(r:Ds H a u)(x:jW P w H h):jP P w H h a u:=by
 rcases r with r|⟨o,r⟩
 .exact x a u r
 .obtain⟨_,q⟩:=x a _ r;exact q
def Ll:Option cI->Prop
 |some (.ak _)=>True
 |some (.vo _)=>True
 |some (.xm _)=>True
 |some (.set _ _)=>True
 |some (.au _ _ _)=>True
 |some (.ext _)=>True
 |_=>False
section
variable{P:Program}{w:World}{H:aA}{h h':Heap}{x e:Addr}{fm:cI}
theorem jW.zG(ok:jW P w H h)(l0:Ll (H x))(cz:e=x\/H e=some (.own x))(k:∀b u,b≠e->h.get? b=some u->h'.get? b=some u)(DU:∃u,h'.get? e=some u)
  (new:jP P w (V H x fm) h' x fm):jW P w (V H x fm) h':=fun b u q=>by
 have Z1:∀c y,H c=some (.own y)->c≠x:=fun c y r I=>by subst I;rw[r]at l0;exact l0
 have an2:∀c xs,H c=some (.dD xs)->c≠x:=fun c xs r I=>by subst I;rw[r]at l0;exact l0
 by_cases ae:b=x
 .subst ae;rw[aP]at q;cases q;exact new
 .rw[aK ae]at q;by_cases B8:b=e
  .have eW:H b=some (.own x):=by
    rcases cz with I|I
    .exact absurd (B8.trans I) ae
    .rw[B8];exact I
   rw[q]at eW;cases eW;obtain⟨v,a6⟩:=DU;exact⟨v,by rw[B8];exact a6⟩
  .refine(ok b u q).uh (fun c v aB r=>k c v ?_ r) (fun c r=>by rw[aK (Z1 c b r)];exact r) fun c xs r=>by rw[aK (an2 c xs r)];exact r
   rcases aB with rfl|aB
   .exact B8
   .rintro rfl;rcases cz with I|I
    .exact Z1 c b aB I
    .rw[aB]at I;cases I;exact ae z
end
structure kc(bA ex:List Addr)(H H':aA)(h h':Heap):Prop where
 keep:∀b o,h.get? b=some o->H b=none->b∉bA->b∉ex->h'.get? b=some o
 slot:∀b o,h.get? b=some o->H b=none->b∈bA->b∉ex->∃b7,h'.get? b=some {o with slots:=b7}
 free:∀b o,h.get? b=some o->H b=none->b∉ex->H' b=none
 there:∀b o,h.get? b=some o->b∉ex->∃fm,h'.get? b=some fm
 pV:∀b xs,H b=some (.dD xs)->H' b=some (.dD xs)
 oS:∀b o u,H b=some (.mO o u)->H' b=some (.mO o u)
 pU:∀b ps,H b=some (.xZ ps)->∃more,H' b=some (.xZ (ps++more))
section
variable{bA Js ex Wb:List Addr}{H aI a7:aA}{h ai aj h':Heap}{a x e:Addr}{o:cI}
theorem kc.any(u:kc bA ex H aI h ai){b:Addr}{cD:Obj}(q:h.get? b=some cD)(n:H b=none)(Y:b∉ex):∃b7,ai.get? b=some {cD with slots:=b7}:=by
 by_cases ae:b∈bA
 .exact u.slot b cD q n ae Y
 .exact⟨cD.slots,u.keep b cD q n ae Y⟩
theorem kc.trans(a:kc bA ex H aI h ai)(b:kc bA ex aI a7 ai aj):kc bA ex H a7 h aj where
 keep:=fun c cD q n aB Y=>b.keep c cD (a.keep c cD q n aB Y) (a.free c cD q n Y) aB Y
 slot:=fun c cD q n aB Y=>by
  obtain⟨b7,ay⟩:=a.slot c cD q n aB Y;obtain⟨ug,aq⟩:=b.slot c _ ay (a.free c cD q n Y) aB Y;exact⟨ug,aq⟩
 free:=fun c cD q n Y=>by
  obtain⟨fm,ay⟩:=a.there c cD q Y;exact b.free c fm ay (a.free c cD q n Y) Y
 there:=fun c cD q Y=>by
  obtain⟨fm,ay⟩:=a.there c cD q Y;exact b.there c fm ay Y
 pV:=fun c xs q=>b.pV c xs (a.pV c xs q)
 oS:=fun c cD xs q=>b.oS c cD xs (a.oS c cD xs q)
 pU:=fun c ps q=>by
  obtain⟨fz,ay⟩:=a.pU c ps q;obtain⟨gw,aq⟩:=b.pU c _ ay;exact⟨fz++gw,by rw[aq,append_assoc]⟩
theorem kc.kept(k:∀b u,h.get? b=some u->h'.get? b=some u):kc bA ex H H h h':=
 ⟨fun b cD q _ _ _=>k b cD q,fun b cD q _ _ _=>⟨cD.slots,k b cD q⟩,fun _ _ _ n _=>n,fun b cD q _=>⟨cD,k b cD q⟩,fun _ _ q=>q,fun _ _ _ q=>q,fun _ ps q=>⟨#[],by rw[q];simp⟩⟩
theorem kc.refl:kc bA ex H H h h:=kc.kept fun _ _ q=>q
theorem kc.i9(k:∀b u,h.get? b=some u->h'.get? b=some u)(aN:h.objs.size<=a)(br:H a=none):kc bA ex H (V H a o) h h' where
 keep:=fun b u q _ _ _=>k b u q
 slot:=fun b u q _ _ _=>⟨u.slots,k b u q⟩
 free:=fun b u q n _=>by rw[aK (pn (mY (iW q) aN))];exact n
 there:=fun b u q _=>⟨u,k b u q⟩
 pV:=fun b xs q=>by rw[aK (eI q br)];exact q
 oS:=fun b u xs q=>by rw[aK (eI q br)];exact q
 pU:=fun b ps q=>⟨#[],by rw[aK (eI q br),q];simp⟩
theorem kc.zG(l0:Ll (H x))(cz:e=x\/H e=some (.own x))(k:∀b u,b≠e->h.get? b=some u->h'.get? b=some u)(DU:∃u,h'.get? e=some u):kc bA ex H (V H x o) h h':=by
 have Y:∀b,H b=none->b≠x:=fun b n I=>by subst I;rw[n]at l0;exact l0
 have ae:∀b,H b=none->b≠e:=fun b n I=>by
  subst I;rcases cz with r|r
  .exact Y b n r
  .rw[n]at r;cases r
 have aM:∀b u,H b=some u->¬Ll (some u)->b≠x:=fun b u q nm I=>by subst I;rw[q]at l0;exact nm l0
 refine⟨fun b u q n _ _=>k b u (ae b n) q,fun b u q n _ _=>⟨u.slots,k b u (ae b n) q⟩,fun b u q n _=>by rw[aK (Y b n)];exact n,fun b u q _=>?_,
  fun b xs q=>by rw[aK (aM b _ q fun I=>I)];exact q,fun b u xs q=>by rw[aK (aM b _ q fun I=>I)];exact q,fun b ps q=>⟨#[],by rw[aK (aM b _ q fun I=>I),q];simp⟩⟩
 by_cases B8:b=e
 .subst B8;exact DU
 .exact⟨u,k b u B8 q⟩
end
def x6(h:Heap)(H:aA):List Addr:=(range h.objs.size).filter fun a=>(H a).isSome
def yS(h:Heap)(H:aA):Heap:=hideAll h (x6 h H)
theorem akg(h:Heap)(H:aA):(yS h H).objs.size=h.objs.size:=PySem.W.hideAll_size _ _
theorem akf{h:Heap}{H:aA}{b:Addr}{o:Obj}(e:h.get? b=some o)(n:H b=none):(yS h H).get? b=some o:=
 hideAll_get _ e fun aM=>by
  have q:(H b).isSome=true:=(mem_filter.mp aM).2;rw[n]at q;simp at q
theorem an8{h:Heap}{H:aA}{b:Addr}{o:Obj}(e:(yS h H).get? b=some o):h.get? b=some o/\H b=none:=by
 have c5:h.get? b=some o:=of_hideAll (x6 h H) e;refine⟨c5,?_⟩;cases q:H b with
 |none=>rfl
 |some x=>
  have aM:b∈x6 h H:=mem_filter.mpr ⟨List.mem_range.mpr (iW c5),by simp[q]⟩;have I:(yS h H).get? b=none:=hideAll_none (x6 h H) aM;rw[I]at e;cases e
structure Mod(K:Frag)(az:Str->Option Value)(base:Heap):Prop where
 Eh:K.In base
 yL:base.Ns mainGlobals az
 BD:∃AG,base.Ns builtinsNs AG/\∀x:Str,x≠"__name__"->AG x=bootBuiltins x
 nolimit:base.NoLimit
structure cQ where
 prog:Program
 w:World
 K:Frag
 az:Str->Option Value
 base:Heap
 A:Around
 N:List Str
 jw:Shared
 ym:aA
 env:Env
 outer:List Env
 stack:List Env
 ex:List Addr
 fn:Str->Bool
 calm:Bool
 ef:List (Addr×Obj)
 fJ:Value->Shared->Prop
def iI(l:List Env):List Addr:=l.filterMap (·.frame)
abbrev cQ.bA(X:cQ):List Addr:=iI X.outer
def FO(sc:Scope)(x:Str):Prop:=sc.names.lookup x=some .local\/sc.names.lookup x=some .cell\/sc.names.lookup x=some .free
def m4(sc:Scope)(x:Str):Prop:=sc.names.lookup x=some .local\/sc.names.lookup x=some .cell
def aev(env:Env)(h:Heap)(m:Str->Option Value)(x:Str)(u:Value):Prop:=
 (env.kindOf x=some .local/\m x=some u)\/((env.kindOf x=some .cell\/env.kindOf x=some .free)/\∃c,env.cells.lookup x=some c/\h.IsCell c (some u))
structure cQ.ux(X:cQ):Prop where
 mod:Mod X.K X.az X.base
 kind:X.env.scope.kind=.function
 yL:X.env.globals=mainGlobals
 BD:X.env.builtins=builtinsNs
 above:X.jw.heap.objs.size<=X.env.locals
 inj:∀x y c,X.env.cells.lookup x=some c->X.env.cells.lookup y=some c->x=y
 has:∀x,(X.env.kindOf x=some .cell\/X.env.kindOf x=some .free)->∃c,X.env.cells.lookup x=some c
 DB:∀x c,X.fn x=true->X.env.cells.lookup x=some c->X.jw.heap.objs.size<=c
 aG:X.calm=true->X.A.handled=none
 frames:X.A.frames=some X.stack
 qp:X.stack=X.outer\/(X.stack=X.env::X.outer/\X.env.frame=some X.env.locals)
 HJ:∀b∈X.ex,b≠X.env.locals/\∀x c,X.env.cells.lookup x=some c->c≠b
 bs:∀b o,X.base.get? b=some o->X.jw.heap.get? b=some o/\X.ym b=none
 wh:X.base.objs.size<=X.jw.heap.objs.size
 Ex:∀b o,X.base.get? b=some o->b∉X.ex
 DL:∀b∈X.ex,b∉X.bA
 qd:X.jw.heap.FunFrames X.base X.outer
 Aq:∀b∈X.bA,X.ym b=none
structure Inv(X:cQ)(ao:List (Addr×Obj))(O:List (Option aa))(H:aA)(s:Shared):Prop where
 ok:X.ux
 os:s.os=X.jw.os
 jY:AllBare s.gens
 base:kc X.bA X.ex X.ym H X.jw.heap s.heap
 nL:∃m,s.heap.Ns X.env.locals m/\∀(i:Nat)(x:Str)(v:aa),X.N[i]?=some x->O[i]?=some (some v)->FO X.env.scope x->∃u,RelV v u/\aev X.env s.heap m x u
 cell:∀x c,X.env.cells.lookup x=some c->∃v,s.heap.IsCell c v
 free:H X.env.locals=none
 rC:∀x c,X.env.cells.lookup x=some c->H c=none
 pR:∀p∈X.ef++ao,s.heap.get? p.1=some p.2/\H p.1=none/\p.1≠X.env.locals/\p.1∉X.bA/\∀v,p.2.data≠.cell v
 cG:jW X.prog X.w H s.heap
 len:O.length=X.N.length
section
variable{X:cQ}{ao:List (Addr×Obj)}{O:List (Option aa)}{H H':aA}{s:Shared}{h':Heap}
theorem cQ.ux.anS(ok:X.ux){b:Addr}{o:Obj}(e:X.base.get? b=some o):b∉X.bA:=fun ae=>by
 have:=(ok.qd.mem ae).1;rw[e]at this;cases this
theorem Inv.bs(J:Inv X ao O H s):∀b o,X.base.get? b=some o->s.heap.get? b=some o/\H b=none:=fun b o e=>
 ⟨J.base.keep b o (J.ok.bs b o e).1 (J.ok.bs b o e).2 (J.ok.anS e) (J.ok.Ex b o e),J.base.free b o (J.ok.bs b o e).1 (J.ok.bs b o e).2 (J.ok.Ex b o e)⟩
theorem Inv.bV(J:Inv X ao O H s):∀b o,X.base.get? b=some o->s.heap.get? b=some o:=fun b o e=>(J.bs b o e).1
theorem Inv.mod(J:Inv X ao O H s):Mod X.K X.az X.base:=J.ok.mod
theorem Inv.iU(J:Inv X ao O H s):X.K.In s.heap:=J.ok.mod.Eh.keeps J.bV
theorem Inv.d9(J:Inv X ao O H s):∃m,Fr X.base X.env.locals s.heap m:=
 let⟨m,br,_⟩:=J.nL
 ⟨m,br,J.bV,i3 J.ok.wh J.ok.above⟩
theorem Inv.lt(J:Inv X ao O H s):X.env.locals<s.heap.objs.size:=let⟨_,br,_⟩:=J.nL;br.lt
theorem Inv.qq(J:Inv X ao O H s):X.jw.heap.objs.size<=s.heap.objs.size:=i3 J.ok.above (le_of_lt J.lt)
theorem Inv.anU(J:Inv X ao O H s){a:Addr}(h:s.heap.objs.size<=a):a∉X.bA:=fun ae=>by
 obtain⟨_,o,aT,_⟩:=J.ok.qd.mem ae;exact absurd (mY (iW aT) (i3 J.qq h)) (zK _)
theorem Inv.jZ(J:Inv X ao O H s):∀x c,X.env.cells.lookup x=some c->c≠X.env.locals:=fun x c e I=>by
 obtain⟨v,o,aT,aG⟩:=J.cell x c e;obtain⟨m,⟨fm,bX,ig,tW,gP,_⟩,_⟩:=J.nL;rw[I,tW]at aT;cases aT;rw[gP]at aG;cases aG
theorem Inv.qd(J:Inv X ao O H s):s.heap.FunFrames X.base X.outer:=by
 have all:∀(l:List Env),(∀b∈iI l,b∈X.bA)->X.jw.heap.FunFrames X.base l->s.heap.FunFrames X.base l:=by
  intro l
  induction l with
  |nil=>intro _ _;trivial
  |cons env r eL=>
   intro aL aD;obtain⟨aJ,⟨L,o,bq,br,aT,aG⟩,aO⟩:=aD;have jp:L∈X.bA:=aL L (by unfold iI;rw[List.filterMap_cons,bq];exact iO);obtain⟨b7,e⟩:=J.base.slot L o aT (J.ok.Aq L jp) jp fun I=>J.ok.DL L I jp;exact⟨aJ,⟨L,_,bq,br,e,aG⟩,eL (fun b ae=>aL b (by unfold iI;rw[List.filterMap_cons,bq];exact gz _ ae)) aO⟩
 exact all X.outer (fun _ ae=>ae) J.ok.qd
theorem Inv.stack(J:Inv X ao O H s):s.heap.FunFrames X.base X.stack:=by
 rcases J.ok.qp with e|⟨e,bq⟩
 .rw[e];exact J.qd
 .rw[e];obtain⟨m,br,_⟩:=J.nL;refine .cons (by rw[J.ok.kind];decide) bq br ?_ J.qd;exact Heap.get?_none_of_le (i3 J.ok.wh J.ok.above)
theorem Inv.EP(J:Inv X ao O H s):∀b∈iI X.stack,b∈X.env.locals::X.bA:=fun b ae=>by
 rcases J.ok.qp with e|⟨e,bq⟩
 .rw[e]at ae;exact gz _ ae
 .rw[e]at ae;unfold iI at ae;rw[List.filterMap_cons,bq]at ae;exact ae
theorem Inv.NR(J:Inv X ao O H s):∀b∈iI X.stack,H b=none:=fun b ae=>by
 rcases dG.mp (J.EP b ae)with e|ae
 .rw[e];exact J.free
 .obtain⟨_,o,aT,_⟩:=J.ok.qd.mem ae;exact J.base.free b o aT (J.ok.Aq b ae) fun I=>J.ok.DL b I ae
theorem Inv.step{g':Array GenState}{t':Nat}{d':Drawn}{ch:List Addr}(J:Inv X ao O H s)
  (xy:∀b∈ch,(b∈X.ex\/X.jw.heap.objs.size<=b)/\b≠X.env.locals/\(∀x c,X.env.cells.lookup x=some c->c≠b)/\∀p∈X.ef++ao,p.1≠b)
  (keep:∀b o,b≠X.env.locals->b∉X.bA->b∉ch->s.heap.get? b=some o->H b=none->h'.get? b=some o)
  (slot:∀b o,b≠X.env.locals->b∈X.bA->b∉ch->s.heap.get? b=some o->H b=none->∃b7,h'.get? b=some {o with slots:=b7})(free:∀b o,b∉ch->s.heap.get? b=some o->H b=none->H' b=none)
  (there:∀b o,b∉ch->s.heap.get? b=some o->∃fm,h'.get? b=some fm)
  (pV:∀b xs,H b=some (.dD xs)->H' b=some (.dD xs))(oS:∀b o u,H b=some (.mO o u)->H' b=some (.mO o u))(pU:∀b ps,H b=some (.xZ ps)->∃more,H' b=some (.xZ (ps++more)))
  (ns:∀m,s.heap.Ns X.env.locals m->h'.Ns X.env.locals m)(cG:jW X.prog X.w H' h')(dz:AllBare g'):
  Inv X ao O H' {s with heap:=h',gens:=g',drawn:=d',toks:=t'}:=by
 have ZN:∀b o,X.jw.heap.get? b=some o->b≠X.env.locals:=fun b o e=>pn (mY (iW e) J.ok.above);have MS:∀b o,X.jw.heap.get? b=some o->b∉X.ex->b∉ch:=fun b o e Y ae=>by
  rcases(xy b ae).1 with I|I
  .exact Y I
  .exact absurd (mY (iW e) I) (zK _)
 have Vy:∀x c,X.env.cells.lookup x=some c->∀v,s.heap.IsCell c v->h'.IsCell c v:=fun x c e v⟨o,aT,aG⟩=>by
  have Ks:c∉ch:=fun I=>(xy c I).2.2.1 x c e z;by_cases aB:c∈X.bA
  .obtain⟨b7,q⟩:=slot c o (J.jZ x c e) aB Ks aT (J.rC x c e);exact⟨_,q,aG⟩
  .exact⟨o,keep c o (J.jZ x c e) aB Ks aT (J.rC x c e),aG⟩
 refine⟨J.ok,J.os,dz,⟨fun b o e n ae Y=>?_,fun b o e n ae Y=>?_,fun b o e n Y=>?_,fun b o e Y=>?_,fun b xs e=>pV b xs (J.base.pV b xs e),fun b o xs e=>oS b o xs (J.base.oS b o xs e),fun b ps e=>?_⟩,?_,fun x c e=>?_,?_,fun x c e=>?_,fun p aN=>?_,cG,J.len⟩
 .exact keep b o (ZN b o e) ae (MS b o e Y) (J.base.keep b o e n ae Y) (J.base.free b o e n Y)
 .obtain⟨b7,ay⟩:=J.base.slot b o e n ae Y;obtain⟨ug,aq⟩:=slot b _ (ZN b o e) ae (MS b o e Y) ay (J.base.free b o e n Y);exact⟨ug,aq⟩
 .obtain⟨fm,ay⟩:=J.base.there b o e Y;exact free b fm (MS b o e Y) ay (J.base.free b o e n Y)
 .obtain⟨fm,ay⟩:=J.base.there b o e Y;exact there b fm (MS b o e Y) ay
 .obtain⟨fz,ay⟩:=J.base.pU b ps e;obtain⟨gw,aq⟩:=pU b _ ay;exact⟨fz++gw,by rw[aq,append_assoc]⟩
 .obtain⟨m,br,aD⟩:=J.nL;refine⟨m,ns m br,fun i x v ay aq bB=>?_⟩;obtain⟨u,r,l⟩:=aD i x v ay aq bB;refine⟨u,r,?_⟩;rcases l with l|⟨k,c,e,I⟩
  .exact .inl l
  .exact .inr ⟨k,c,e,Vy x c e _ I⟩
 .obtain⟨v,I⟩:=J.cell x c e;exact⟨v,Vy x c e v I⟩
 .obtain⟨m,⟨o,_,_,aT,_⟩,_⟩:=J.nL;exact free _ o (fun I=>(xy _ I).2.1 rfl) aT J.free
 .obtain⟨v,o,aT,aG⟩:=J.cell x c e;exact free c o (fun I=>(xy c I).2.2.1 x c e z) aT (J.rC x c e)
 .obtain⟨e,n,fB,mS,d⟩:=J.pR p aN;have Ks:p.1∉ch:=fun I=>(xy p.1 I).2.2.2 p aN z;exact⟨keep p.1 p.2 fB mS Ks e n,free p.1 p.2 Ks e n,fB,mS,d⟩
theorem Inv.fu{t':Nat}(J:Inv X ao O H s)(u:kc X.bA [] H H' s.heap h')(cG:jW X.prog X.w H' h'):Inv X ao O H' {s with heap:=h',toks:=t'}:=by
 obtain⟨m,⟨o,bX,ig,aT,r⟩,_⟩:=id J.nL;obtain⟨b7,jp⟩:=u.any aT J.free (by simp);exact J.step (g':=s.gens) (d':=s.drawn) (ch:=[]) (fun _ I=>nomatch I) (fun b o _ ae _ e n=>u.keep b o e n ae (by simp)) (fun b o _ ae _ e n=>u.slot b o e n ae (by simp)) (fun b o _ e n=>u.free b o e n (by simp)) (fun b o _ e=>u.there b o e (by simp)) u.pV u.oS u.pU (fun dB aM=>by
  obtain⟨fm,LP,Pn,tW,g7⟩:=aM;rw[aT]at tW;cases tW;exact⟨_,LP,Pn,jp,g7⟩) cG J.jY
theorem Inv.call{g':Array GenState}{t':Nat}{d':Drawn}{ch:List Addr}(J:Inv X ao O H s)(u:kc (iI X.stack) ch H H' s.heap h')(cG:jW X.prog X.w H' h')(dz:AllBare g')
  (xy:∀b∈ch,(b∈X.ex\/X.jw.heap.objs.size<=b)/\b≠X.env.locals/\(∀x c,X.env.cells.lookup x=some c->c≠b)/\∀p∈X.ef++ao,p.1≠b):
  Inv X ao O H' {s with heap:=h',gens:=g',drawn:=d',toks:=t'}:=by
 obtain⟨m,⟨o,bX,ig,aT,r⟩,_⟩:=id J.nL;obtain⟨b7,jp⟩:=u.any aT J.free fun I=>(xy _ I).2.1 rfl;exact J.step (ch:=ch) xy (fun b o jp ae aB e n=>u.keep b o e n (fun I=>(dG.mp (J.EP b I)).elim jp ae) aB) (fun b o _ _ aB e n=>u.any e n aB) (fun b o aB e n=>u.free b o e n aB) (fun b o aB e=>u.there b o e aB) u.pV u.oS u.pU (fun dB aM=>by
  obtain⟨fm,LP,Pn,tW,g7⟩:=aM;rw[aT]at tW;cases tW;exact⟨_,LP,Pn,jp,g7⟩) cG dz
theorem Inv.Bb{t':Nat}{fZ:Addr}(J:Inv X ao O H s)(k:∀b o,b≠fZ->s.heap.get? b=some o->h'.get? b=some o)(br:H fZ=none)(jp:fZ≠X.env.locals)
  (ai:fZ∈X.ex\/X.jw.heap.objs.size<=fZ)(aj:∀x c,X.env.cells.lookup x=some c->c≠fZ)(bN:∀p∈X.ef++ao,p.1≠fZ):Inv X ao O H {s with heap:=h',toks:=t'}:=by
 have AQ:∀b u,H b=some u->b≠fZ:=fun b u e I=>by rw[I,br]at e;cases e
 refine J.step (g':=s.gens) (d':=s.drawn) (ch:=[fZ]) (fun b ae=>?_) (fun b o _ _ aB e _=>k b o (fun I=>aB (by simp[I])) e) (fun b o _ _ aB e _=>⟨o.slots,k b o (fun I=>aB (by simp[I])) e⟩) (fun _ _ _ _ n=>n)
  (fun b o aB e=>⟨o,k b o (fun I=>aB (by simp[I])) e⟩) (fun _ _ e=>e) (fun _ _ _ e=>e) (fun b ps e=>⟨#[],by rw[e];simp⟩) (fun m aM=>?_) (fun b u e=>?_) J.jY
 .have e:b=fZ:=by simpa using ae
  subst e;exact⟨ai,jp,aj,bN⟩
 .obtain⟨o,bX,ig,aT,r⟩:=aM;exact⟨o,bX,ig,k _ o (bC jp) aT,r⟩
 .refine(J.cG b u e).uh (fun c v aB q=>k c v ?_ q) (fun _ q=>q) fun _ _ q=>q;rcases aB with I|I
  .rw[I];exact AQ b u e
  .exact AQ c _ I
theorem Inv.qt(J:Inv X ao O H s)(t:Nat):Inv X ao O H {s with toks:=t}:=J.fu (h':=s.heap) (t':=t) kc.refl J.cG
theorem Inv.kept{t':Nat}(J:Inv X ao O H s)(k:∀b u,s.heap.get? b=some u->h'.get? b=some u):Inv X ao O H {s with heap:=h',toks:=t'}:=J.fu (kc.kept k) (J.cG.kept k)
theorem Inv.i9{a:Addr}{o:cI}{t':Nat}(J:Inv X ao O H s)(k:∀b u,s.heap.get? b=some u->h'.get? b=some u)(aN:s.heap.objs.size<=a)(new:jP X.prog X.w (V H a o) h' a o):
  Inv X ao O (V H a o) {s with heap:=h',toks:=t'}:=J.fu (kc.i9 k aN (J.cG.fresh aN)) (J.cG.i9 k aN new)
theorem Inv.zG{x e:Addr}{o:cI}{t':Nat}(J:Inv X ao O H s)(l0:Ll (H x))(cz:e=x\/H e=some (.own x))(k:∀b u,b≠e->s.heap.get? b=some u->h'.get? b=some u)(DU:∃u,h'.get? e=some u)
  (new:jP X.prog X.w (V H x o) h' x o):Inv X ao O (V H x o) {s with heap:=h',toks:=t'}:=J.fu (kc.zG l0 cz k DU) (J.cG.zG l0 cz k DU new)
theorem Inv.E6{cB:List (Option aa)}(J:Inv X ao O H s)(aD:cB.length=O.length)(w:∀(i:Nat)v,cB[i]?=some (some v)->O[i]?=some (some v)):Inv X ao cB H s:=
 ⟨J.ok,J.os,J.jY,J.base,let⟨m,br,uK⟩:=J.nL;⟨m,br,fun i x v ay aq bB=>uK i x v ay (w i v aq) bB⟩,J.cell,J.free,J.rC,J.pR,J.cG,aD.trans J.len⟩
theorem Inv.aaS{Sq:List (Addr×Obj)}(J:Inv X ao O H s)(h:∀p∈Sq,s.heap.get? p.1=some p.2/\H p.1=none/\p.1≠X.env.locals/\p.1∉X.bA/\∀v,p.2.data≠.cell v):Inv X Sq O H s:=
 ⟨J.ok,J.os,J.jY,J.base,J.nL,J.cell,J.free,J.rC,fun p aN=>(fN.mp aN).elim (fun I=>J.pR p (yf _ I)) (h p),J.cG,J.len⟩
theorem RP{N:List Str}(h7:N.Nodup){i j:Nat}{x:Str}(a:N[i]?=some x)(b:N[j]?=some x):i=j:=by
 obtain⟨ai,ay⟩:=gn.mp a;obtain⟨aj,aq⟩:=gn.mp b;exact(List.getElem_inj h7).mp (ay.trans aq.symm)
theorem Tr{M:Model}{A:Around}{E:Value->Shared->Prop}{i:Nat}{x:Str}{v:aa}{u:Value}{Q:Unit->Shared->Prop}(J:Inv X ao O H s)(h7:X.N.Nodup)(aF:X.N[i]?=some x)(Y:m4 X.env.scope x)(r:RelV v u)
  (h:∀aZ,Inv X ao (O.set i (some v)) H aZ->(∃a,Heap.SameBut a s.heap aZ.heap/\(a=X.env.locals\/X.env.cells.lookup x=some a))->Q () aZ)(bq:X.fn x=true\/X.env.scope.names.lookup x=some .local:=by first|exact .inl rfl|exact .inr rfl|assumption):wpAny M A (storeName X.env x u) Q E s:=by
 obtain⟨m,br,aD⟩:=id J.nL;have aj0:(X.env.scope.kind==.class||(X.env.scope.kind==.module&&X.env.locals !=X.env.globals))=false:=by rw[J.ok.kind];rfl
 have XS:i<O.length:=by rw[J.len];exact(gn.mp aF).1
 have jZ:=J.jZ;have adD:∀{a:Addr}{h':Heap},(∃o,s.heap.get? a=some o/\H a=none)->Heap.SameBut a s.heap h'->jW X.prog X.w H h':=fun{a h'}cC aL b cD e=>by
  obtain⟨_,_,DV⟩:=cC;refine(J.cG b cD e).uh (fun c zF aB q=>(aL.2 c ?_).trans q) (fun _ q=>q) fun _ _ q=>q;rintro rfl;rcases aB with rfl|aB
  .rw[DV]at e;cases e
  .rw[DV]at aB;cases aB
 rcases Y with aJ|aJ
 .refine wpAny_storeName_local aJ br (fun h' Mh aL=>?_) aj0;obtain⟨an6,_,_,akL,_⟩:=id br;refine h _ ⟨J.ok,J.os,J.jY,⟨fun b o e n ae Y=>?_,fun b o e n ae Y=>?_,J.base.free,fun b o e Y=>?_,J.base.pV,J.base.oS,J.base.pU⟩,⟨_,Mh,fun j y EV ay aq bB=>?_⟩,fun y c e=>?_,J.free,J.rC,fun p aN=>?_,adD ⟨an6,akL,J.free⟩ aL,by simpa using J.len⟩ ⟨_,aL,.inl z⟩
  .exact(aL.2 b (pn (mY (iW e) J.ok.above))).trans (J.base.keep b o e n ae Y)
  .obtain⟨b7,ay⟩:=J.base.slot b o e n ae Y;exact⟨b7,(aL.2 b (pn (mY (iW e) J.ok.above))).trans ay⟩
  .obtain⟨fm,ay⟩:=J.base.there b o e Y;exact⟨fm,(aL.2 b (pn (mY (iW e) J.ok.above))).trans ay⟩
  .by_cases bQ:j=i
   .subst bQ;rw[aF]at ay;cases ay;rw[getElem?_set_self XS]at aq;cases aq;exact⟨u,r,.inl ⟨aJ,by simp⟩⟩
   .rw[List.getElem?_set_ne (bC bQ)]at aq;obtain⟨zD,g7,q⟩:=aD j y EV ay aq bB;refine⟨zD,g7,?_⟩;rcases q with⟨k,e⟩|⟨k,c,e,I⟩
    .refine .inl ⟨k,?_⟩;have:y≠x:=fun e=>bQ (RP h7 ay (e▸aF));simp[this,e]
    .exact .inr ⟨k,c,e,I.sameBut aL (jZ y c e)⟩
  .obtain⟨zF,I⟩:=J.cell y c e;exact⟨zF,I.sameBut aL (jZ y c e)⟩
  .obtain⟨e,n,fB,mS,d⟩:=J.pR p aN;exact⟨(aL.2 p.1 fB).trans e,n,fB,mS,d⟩
 .have qH:X.fn x=true:=by
   rcases bq with I|I
   .exact I
   .rw[I]at aJ;cases aJ
  obtain⟨c,aB⟩:=J.ok.has x (.inl aJ);obtain⟨zF,I⟩:=J.cell x c aB;refine wpAny_storeName_cell J.ok.kind aJ aB I (fun h' DR aL=>?_);obtain⟨gq,JS,akM⟩:=id I;refine h {s with heap:=h'} ⟨J.ok,J.os,J.jY,⟨fun b o e n ae Y=>?_,fun b o e n ae Y=>?_,J.base.free,fun b o e Y=>?_,J.base.pV,J.base.oS,J.base.pU⟩,⟨m,br.sameBut aL (bC (jZ x c aB)),fun j y EV ay aq bB=>?_⟩,fun y c' e=>?_,J.free,J.rC,fun p aN=>?_,adD ⟨gq,JS,J.rC x c aB⟩ aL,by simpa using J.len⟩ ⟨c,aL,.inr aB⟩
  .exact(aL.2 b (pn (mY (iW e) (J.ok.DB x c qH aB)))).trans (J.base.keep b o e n ae Y)
  .obtain⟨b7,ay⟩:=J.base.slot b o e n ae Y;exact⟨b7,(aL.2 b (pn (mY (iW e) (J.ok.DB x c qH aB)))).trans ay⟩
  .obtain⟨fm,ay⟩:=J.base.there b o e Y;exact⟨fm,(aL.2 b (pn (mY (iW e) (J.ok.DB x c qH aB)))).trans ay⟩
  .by_cases bQ:j=i
   .subst bQ;rw[aF]at ay;cases ay;rw[getElem?_set_self XS]at aq;cases aq;exact⟨u,r,.inr ⟨.inl aJ,c,aB,DR⟩⟩
   .rw[List.getElem?_set_ne (bC bQ)]at aq;obtain⟨zD,g7,q⟩:=aD j y EV ay aq bB;refine⟨zD,g7,?_⟩;rcases q with q|⟨k,c',e,qv⟩
    .exact .inl q
    .refine .inr ⟨k,c',e,qv.sameBut aL ?_⟩;rintro rfl;exact bQ (RP h7 ay (J.ok.inj _ _ _ e aB▸aF))
  .by_cases XH:c'=c
   .subst XH;exact⟨_,DR⟩
   .obtain⟨r7,gb⟩:=J.cell y c' e;exact⟨r7,gb.sameBut aL XH⟩
  .obtain⟨e,n,fB,mS,d⟩:=J.pR p aN;refine⟨(aL.2 p.1 ?_).trans e,n,fB,mS,d⟩;intro q;rw[q,JS]at e;have eW:gq=p.2:=j7 e;exact d zF (by rw[<-eW];exact akM)
theorem adj{M:Model}{A:Around}{E:Value->Shared->Prop}{i:Nat}{x:Str}{v:aa}{u:Value}{Q:Unit->Shared->Prop}(J:Inv X ao O H s)(h7:X.N.Nodup)(aF:X.N[i]?=some x)(Y:m4 X.env.scope x)(r:RelV v u)
  (h:∀aZ,Inv X ao (O.set i (some v)) H aZ->Q () aZ)(bq:X.fn x=true\/X.env.scope.names.lookup x=some .local:=by first|exact .inl rfl|exact .inr rfl|assumption):wpAny M A (storeName X.env x u) Q E s:=
 Tr J h7 aF Y r (fun aZ pC _=>h aZ pC) bq
theorem Inv.Vv{aZ:Shared}{ch:List Addr}(J:Inv X ao O H s)(aT:aZ.os=s.os)(u:kc (iI X.stack) ch H H' s.heap aZ.heap)(cG:jW X.prog X.w H' aZ.heap)(dz:AllBare aZ.gens)
  (xy:∀b∈ch,(b∈X.ex\/X.jw.heap.objs.size<=b)/\b≠X.env.locals/\(∀x c,X.env.cells.lookup x=some c->c≠b)/\∀p∈X.ef++ao,p.1≠b):Inv X ao O H' aZ:=by
 obtain⟨h',g',d',t',fm⟩:=aZ;have e:fm=s.os:=aT;subst e;exact J.call (g':=g') (t':=t') (d':=d') u cG dz xy
end
abbrev jQ:=Value->Option Addr->aA->Prop
abbrev St:=List (Option aa)
abbrev gc:=aa->aA->Prop
abbrev eB:=St->aA->gc->Prop
abbrev lB:=St->aA->(Bool->aA->Prop)->Prop
abbrev nY:=St->aA->(List aa->aA->Prop)->Prop
structure dR where
 dF:St->aA->Prop
 A5:gc
 bV:St->aA->Prop:=fun _ _=>False
 k9:St->aA->Prop:=fun _ _=>False
abbrev g5:=dR->St->aA->Prop
def nU(X:cQ)(ao:List (Addr×Obj))(O:St)(Q:gc)(u:Value)(aZ:Shared):Prop:=∃v H',Inv X ao O H' aZ/\RelV v u/\Q v H'
def Ls(X:cQ)(ao:List (Addr×Obj))(O:St)(Q:Bool->aA->Prop)(b:Bool)(aZ:Shared):Prop:=∃H',Inv X ao O H' aZ/\Q b H'
def se(X:cQ)(ao:List (Addr×Obj))(O:St)(Q:List aa->aA->Prop)(us:List Value)(aZ:Shared):Prop:=∃vs H',Inv X ao O H' aZ/\eS vs us/\Q vs H'
def tK(X:cQ)(ao:List (Addr×Obj))(D:dR)(f:Flow)(aZ:Shared):Prop:=
 match f with
 |.next=>∃cB H',Inv X ao cB H' aZ/\D.dF cB H'
 |.brk=>∃cB H',Inv X ao cB H' aZ/\D.bV cB H'
 |.cont=>∃cB H',Inv X ao cB H' aZ/\D.k9 cB H'
 |.ret u=>∃v cB H',Inv X ao cB H' aZ/\RelV v u/\D.A5 v H'
def dS(X:cQ)(e:Expr)(t:eB):Prop:=
 ∀(ao:List (Addr×Obj))(s:Shared)(O:St)(H:aA)(Q:gc),Inv X ao O H s->t O H Q->wpAny (model X.prog X.w) X.A (eval e X.env) (nU X ao O Q) X.fJ s
def tJ(X:cQ)(e:Expr)(t:lB):Prop:=
 ∀(ao:List (Addr×Obj))(s:Shared)(O:St)(H:aA)(Q:Bool->aA->Prop),Inv X ao O H s->t O H Q->wpAny (model X.prog X.w) X.A (isTrue e X.env (eval e X.env)) (Ls X ao O Q) X.fJ s
def Ac(X:cQ)(e:Expr)(t:lB):Prop:=
 ∀(whole:Sem Value)(ao:List (Addr×Obj))(s:Shared)(O:St)(H:aA)(Q:Bool->aA->Prop),Inv X ao O H s->t O H Q->wpAny (model X.prog X.w) X.A (isTrue e X.env whole) (Ls X ao O Q) X.fJ s
theorem Ac.s9{X:cQ}{e:Expr}{t:lB}(h:Ac X e t):tJ X e t:=h _
def tI(X:cQ)(bX:List Expr)(t:nY):Prop:=
 ∀(pos:Pos)(ao:List (Addr×Obj))(s:Shared)(O:St)(H:aA)(Q:List aa->aA->Prop),Inv X ao O H s->t O H Q->wpAny (model X.prog X.w) X.A (spliced (backTo pos (starEach bX X.env))) (se X ao O Q) X.fJ s
def ri(X:cQ)(st:Stmt)(t:g5):Prop:=
 ∀(ao:List (Addr×Obj))(s:Shared)(O:St)(H:aA)(D:dR),Inv X ao O H s->t D O H->wpAny (model X.prog X.w) X.A (exec st X.env) (tK X ao D) X.fJ s
def sr(X:cQ)(st:List Stmt)(t:g5):Prop:=
 ∀(ao:List (Addr×Obj))(s:Shared)(O:St)(H:aA)(D:dR),Inv X ao O H s->t D O H->wpAny (model X.prog X.w) X.A (execs st X.env) (tK X ao D) X.fJ s
theorem eJ{cL:Type}{t:Sem cL}{Q Ae:cL->Shared->Prop}{M:Model}{A:Around}{E:Value->Shared->Prop}{s:Shared}(h:wpAny M A t Q E s)(B5:∀a s,Q a s->Ae a s):wpAny M A t Ae E s:=mH h B5 fun _ _ x=>x
section
variable{X:cQ}
theorem LB{a b:Expr}{eR gk:eB}(cC:dS X a eR)(ae:dS X b gk){ao:List (Addr×Obj)}{s:Shared}{O:St}{H:aA}{R:aa->aa->aA->Prop}(J:Inv X ao O H s)(h:eR O H fun x aI=>gk O aI fun y a7=>R x y a7)
  {cL:Type}{Q:cL->Shared->Prop}{f:Value->Value->Sem cL}
  (bq:∀v u bD x y a7,Inv X ao O a7 bD->RelV x v->RelV y u->R x y a7->wpAny (model X.prog X.w) X.A (f v u) Q X.fJ bD):
  wpAny (model X.prog X.w) X.A (eval a X.env) (fun v gJ=>wpAny (model X.prog X.w) X.A (eval b X.env) (fun u uV=>wpAny (model X.prog X.w) X.A (f v u) Q X.fJ uV) X.fJ gJ) X.fJ s:=by
 refine eJ (cC ao s O H _ J h) fun v aU⟨x,aI,bY,fE,aW⟩=>?_;refine eJ (ae ao aU O aI _ bY aW) fun u bD⟨y,a7,fy,gQ,bf⟩=>?_;exact bq v u bD x y a7 fy fE gQ bf
def TG(i:Nat):eB:=fun O H Q=>∃v,O[i]?=some (some v)/\Q v H
def ER(v:aa):eB:=fun _ H Q=>Q v H
theorem ape{i:Nat}{x:Str}{pos:Pos}(h7:X.N[i]?=some x)(a6:FO X.env.scope x)(aG:(x==("__debug__":Str))=false:=by decide)(lI:(x==("__classdict__":Str))=false:=by decide):dS X (.Name x pos) (TG i):=by
 intro ao s O H Q J h;obtain⟨v,e,h⟩:=h;obtain⟨m,br,aD⟩:=J.nL;obtain⟨u,r,l⟩:=aD i x v h7 e a6;have fin:nU X ao O Q u s:=⟨v,H,J,r,h⟩;rcases l with⟨aJ,aM⟩|⟨aJ,c,aB,XJ⟩
 .exact wpAny_Name (wpAny_loadName_local J.ok.kind aJ br aM fin) aG
 .rcases aJ with aJ|aJ
  .exact wpAny_Name (wpAny_loadName_cell J.ok.kind aJ aB XJ fin) aG
  .exact wpAny_Name (wpAny_loadName_free J.ok.kind aJ aB XJ fin lI) aG
theorem dc{i j pos}:dS X (.Constant (.int i) j pos) (ER (.int i)):=fun _ _ _ H _ J h=>wpAny_Constant_int ⟨.int i,H,J.qt _,⟨_,z⟩,h⟩
theorem M7{b j pos}:dS X (.Constant (.bool b) j pos) (ER (.av b)):=fun _ _ _ H _ J h=>Constant_bool ⟨.av b,H,J,z,h⟩
theorem EF{j pos}:dS X (.Constant .none j pos) (ER .b9):=fun _ _ _ H _ J h=>Constant_none ⟨.b9,H,J,z,h⟩
def qw(X:cQ)(x:Str):Prop:=X.env.kindOf x=some .globalImplicit
theorem zd{E:Value->Shared->Prop}{ao:List (Addr×Obj)}{s:Shared}{O:St}{H:aA}{x:Str}{u:Value}{pos:Pos}{Q:Value->Shared->Prop}(J:Inv X ao O H s)(dz:qw X x)(aM:X.az x=some u)(h:Q u s)
  (aG:(x==("__debug__":Str))=false:=by decide):wpAny (model X.prog X.w) X.A (eval (.Name x pos) X.env) Q E s:=
 Calls.Name_function_global J.ok.kind dz (Calls.loadGlobal_global (by rw[J.ok.yL];exact J.mod.yL.keeps J.bV) aM h) aG
theorem Kc{E:Value->Shared->Prop}{ao:List (Addr×Obj)}{s:Shared}{O:St}{H:aA}{x:Str}{u:Value}{pos:Pos}{Q:Value->Shared->Prop}(J:Inv X ao O H s)(dz:qw X x)(aM:X.az x=none)(a6:bootBuiltins x=some u)(h:Q u s)
  (br:x≠"__name__":=by decide)(aG:(x==("__debug__":Str))=false:=by decide):wpAny (model X.prog X.w) X.A (eval (.Name x pos) X.env) Q E s:=by
 obtain⟨AG,ai,aj⟩:=J.mod.BD;exact Calls.Name_function_global J.ok.kind dz (Calls.loadGlobal_builtin (by rw[J.ok.yL];exact J.mod.yL.keeps J.bV) aM (by rw[J.ok.BD];exact ai.keeps J.bV) ((aj x br).trans a6) h) aG
theorem CJ{x:Str}{v:aa}{u:Value}{pos:Pos}(dz:qw X x)(aM:X.az x=some u)(r:RelV v u)(aG:(x==("__debug__":Str))=false:=by decide):dS X (.Name x pos) (ER v):=
 fun _ _ _ H _ J h=>zd J dz aM ⟨v,H,J,r,h⟩ aG
theorem CI{x:Str}{v:aa}{u:Value}{pos:Pos}(dz:qw X x)(aM:X.az x=none)(a6:bootBuiltins x=some u)(r:RelV v u)(br:x≠"__name__":=by decide)(aG:(x==("__debug__":Str))=false:=by decide):dS X (.Name x pos) (ER v):=
 fun _ _ _ H _ J h=>Kc J dz aM a6 ⟨v,H,J,r,h⟩ br aG
variable{a b:Expr}{eR gk:eB}{pos:Pos}
def UC(X:cQ)(op:CmpOp)(a b:Expr)(t:eB):Prop:=
 ∀(ao:List (Addr×Obj))(s:Shared)(O:St)(H:aA)(Q:gc),Inv X ao O H s->t O H Q->
  wpAny (model X.prog X.w) X.A (eval a X.env) (fun v gJ=>wpAny (model X.prog X.w) X.A (eval b X.env) (fun u uV=>wpAny (model X.prog X.w) X.A (compareOp op v u) (nU X ao O Q) X.fJ uV) X.fJ gJ) X.fJ s
def adq(t:eB):lB:=fun O H Q=>t O H fun x aI=>∃c,x=.av c/\Q c aI
theorem Sx{op:CmpOp}{t:eB}(h:UC X op a b t)(ai:behindInMarks op b=false:=by first|exact au6 _ (by decide) (by decide)|rfl):tJ X (.Compare a [op] [b] pos) (adq t):=by
 intro ao s O H Q J hw;refine wpAny_isTrue_Compare1 (eJ (h ao s O H _ J hw) fun v aU ai=>eJ ai fun u bD aj=>eJ aj fun c b4⟨x,aI,bY,fE,aW⟩=>?_) ai;obtain⟨d,rfl,q⟩:=aW;cases fE;exact wpAny_truthy_bool ⟨aI,bY,q⟩
theorem vM{e:Expr}{t:eB}(h:dS X e t)(cz:∀whole,isTrue e X.env whole=(do let v<-whole;standAt e.pos;holding [v] (truthy v)):=by intro _;rfl):tJ X e (adq t):=by
 intro ao s O H Q J hw;refine isTrue_plain (eJ (h ao s O H _ J hw) fun v aU⟨x,aI,bY,fE,aW⟩=>?_) (cz _);obtain⟨d,rfl,q⟩:=aW;cases fE;exact wpAny_truthy_bool ⟨aI,bY,q⟩
variable{vR NS:lB}{rest:List Expr}
def asD(t u:lB):lB:=fun O H Q=>t O H fun c aI=>if c=true then u O aI Q else Q false aI
def asR(t u:lB):lB:=fun O H Q=>t O H fun c aI=>if c=true then Q true aI else u O aI Q
def asQ(t:lB):lB:=fun O H Q=>t O H fun c aI=>Q (!c) aI
theorem SA(cC:tJ X a vR):Ac X (.BoolOp .And [a] pos) vR:=by
 intro K8 ao s O H Q J h;refine isTrue_and (eJ (cC ao s O H Q J h) fun c aU e=>?_);cases c with
 |true=>exact isTrue_and_nil e
 |false=>exact e
theorem KO(cC:tJ X a vR):Ac X (.BoolOp .Or [a] pos) vR:=by
 intro K8 ao s O H Q J h;refine isTrue_or (eJ (cC ao s O H Q J h) fun c aU e=>?_);cases c with
 |false=>exact isTrue_or_nil e
 |true=>exact e
theorem Sz(cC:tJ X a vR)(ae:Ac X (.BoolOp .And (b::rest) pos) NS):Ac X (.BoolOp .And (a::b::rest) pos) (asD vR NS):=by
 intro K8 ao s O H Q J h;refine isTrue_and (eJ (cC ao s O H _ J h) fun c aU⟨aI,bY,aW⟩=>?_);cases c with
 |true=>exact ae K8 ao aU O aI Q bY aW
 |false=>exact⟨aI,bY,aW⟩
theorem KN(cC:tJ X a vR)(ae:Ac X (.BoolOp .Or (b::rest) pos) NS):Ac X (.BoolOp .Or (a::b::rest) pos) (asR vR NS):=by
 intro K8 ao s O H Q J h;refine isTrue_or (eJ (cC ao s O H _ J h) fun c aU⟨aI,bY,aW⟩=>?_);cases c with
 |true=>exact⟨aI,bY,aW⟩
 |false=>exact ae K8 ao aU O aI Q bY aW
theorem Nh(cC:tJ X a vR):tJ X (.UnaryOp .Not a pos) (asQ vR):=by
 intro ao s O H Q J h;exact isTrue_not (cC ao s O H (fun c aI=>Q (!c) aI) J h)
def asL(t:lB)(eR gk:eB):eB:=fun O H Q=>t O H fun c aI=>if c=true then eR O aI Q else gk O aI Q
theorem AX{c:Expr}(aB:tJ X c vR)(cC:dS X a eR)(ae:dS X b gk):dS X (.IfExp c a b pos) (asL vR eR gk):=by
 intro ao s O H Q J h;refine wpAny_IfExp (eJ (aB ao s O H _ J h) fun d aU⟨aI,bY,aW⟩=>?_);cases d with
 |true=>exact cC ao aU O aI Q bY aW
 |false=>exact ae ao aU O aI Q bY aW
end
def bj(K:Frag)(H:aA)(a:Addr)(xs:List aa):Prop:=
 Ds H a (.ak xs)\/
  ∃(o:Obj)(bK:Array Value)(n:Nat),K.lookup a=some o/\o.cls=.type "list"/\o.dict=none/\o.data=.seq bK n/\bK.size<=sizeLine/\eS xs bK.toList
def je(K:Frag)(H:aA)(a:Addr)(xs:List aa):Prop:=
 Ds H a (.dD xs)\/
  ∃(o:Obj)(bK:Array Value)(n:Nat),K.lookup a=some o/\o.cls=.type "tuple"/\o.data=.seq bK n/\bK.size<=sizeLine/\eS xs bK.toList
def ae2:Value->Option aa
 |.none=>some .b9
 |.bool b=>some (.av b)
 |.int i _=>some (.int i)
 |.str x _=>some (.str x)
 |.bytes b _=>some (.p8 b)
 |.float b _=>some (.jn b)
 |.ref a=>some (.ref a)
 |.type n=>some (.jx n)
 |_=>none
theorem RelV.UN{x:aa}{u:Value}(r:RelV x u):ae2 u=some x:=by
 cases x with
 |b9=>cases r;rfl
 |av _=>cases r;rfl
 |int _=>obtain⟨t,rfl⟩:=r;rfl
 |str _=>obtain⟨t,rfl⟩:=r;rfl
 |p8 _=>obtain⟨t,rfl⟩:=r;rfl
 |jn _=>obtain⟨t,rfl⟩:=r;rfl
 |ref _=>cases r;rfl
 |jx _=>cases r;rfl
theorem RelV.inj{x y:aa}{u:Value}(r:RelV x u)(q:RelV y u):x=y:=j7 (r.UN.symm.trans q.UN)
theorem eS.inj:∀{xs ys:List aa}{us:List Value},eS xs us->eS ys us->xs=ys
 |_,_,_,.nil,.nil=>rfl
 |_,_,_,.cons r t,.cons g7 t'=>by rw[r.inj g7,eS.inj t t']
section
variable{X:cQ}{ao:List (Addr×Obj)}{O:St}{H:aA}{s:Shared}{a:Addr}{xs ys:List aa}
theorem bj.bM{K:Frag}(h:H a=some (.ak xs)):bj K H a xs:=.inl (.inl h)
theorem je.bM{K:Frag}(h:H a=some (.dD xs)):je K H a xs:=.inl (.inl h)
theorem Inv.list(J:Inv X ao O H s)(h:bj X.K H a xs):∃bK:List Value,eS xs bK/\PlainL s.heap a bK.toArray/\xs.length<=sizeLine:=by
 rcases h with h|⟨o,bK,n,aJ,aB,aG,aL,bR,r⟩
 .obtain⟨I,bK,n,r,e⟩:=h.ok J.cG;exact⟨bK,r,⟨_,n,e,z,z,z⟩,I⟩
 .refine⟨bK.toList,r,⟨o,n,J.iU a o aJ,aB,aG,by simpa using aL⟩,?_⟩;have e:=r.length;simp only[Array.length_toList]at e;omega
theorem Inv.tuple(J:Inv X ao O H s)(h:je X.K H a xs):∃bK:List Value,eS xs bK/\IsTup s.heap a bK.toArray/\xs.length<=sizeLine:=by
 rcases h with h|⟨o,bK,n,aJ,aB,aL,bR,r⟩
 .obtain⟨I,bK,r,p⟩:=h.ok J.cG;exact⟨bK,r,p,I⟩
 .refine⟨bK.toList,r,⟨o,J.iU a o aJ,aB,n,by simpa using aL⟩,?_⟩;have e:=r.length;simp only[Array.length_toList]at e;omega
theorem Inv.Rg(J:Inv X ao O H s)(h:bj X.K H a xs)(h':bj X.K H a ys):xs=ys:=by
 obtain⟨bK,r,⟨o,n,e,_,_,d⟩,_⟩:=J.list h;obtain⟨its',g7,⟨fm,kW,c5,_,_,d'⟩,_⟩:=J.list h';rw[e]at c5;cases c5;rw[d]at d';injection d' with lE _
 have:bK=its':=by simpa using oA toList lE
 subst this;exact r.inj g7
theorem Inv.ate(J:Inv X ao O H s)(h:je X.K H a xs)(h':je X.K H a ys):xs=ys:=by
 obtain⟨bK,r,⟨o,e,_,n,d⟩,_⟩:=J.tuple h;obtain⟨its',g7,⟨fm,c5,_,kW,d'⟩,_⟩:=J.tuple h';rw[e]at c5;cases c5;rw[d]at d';injection d' with lE _
 have:bK=its':=by simpa using oA toList lE
 subst this;exact r.inj g7
end
section
variable{X:cQ}{st:Stmt}{rest:List Stmt}{t u:g5}{e:Expr}{te:eB}{pos:Pos}
def asO:g5:=fun D O H=>D.dF O H
def asW(t u:g5):g5:=fun D O H=>t {D with dF:=u D} O H
theorem fH:sr X [] asO:=fun _ _ O H _ J h=>wpAny_execs_nil ⟨O,H,J,h⟩
theorem bh(ai:ri X st t)(aj:sr X rest u):sr X (st::rest) (asW t u):=by
 intro ao s O H D J h;refine wpAny_execs_cons (eJ (ai ao s O H {D with dF:=u D} J h) fun f aU q=>?_);cases f with
 |next=>
  obtain⟨cB,H',pC,q⟩:=q;exact aj ao aU cB H' D pC q
 |ret v=>exact q
 |brk=>exact q
 |cont=>exact q
theorem bl(ai:ri X st t):sr X [st] t:=by
 intro ao s O H D J h;refine wpAny_execs_cons (eJ (ai ao s O H D J h) fun f aU q=>?_);cases f with
 |next=>exact wpAny_execs_nil q
 |ret v=>exact q
 |brk=>exact q
 |cont=>exact q
theorem Inv.quiet{ao:List (Addr×Obj)}{O:St}{H:aA}{s:Shared}(J:Inv X ao O H s):interactive X.env=false:=by simp[interactive,J.ok.kind]
def asJ(te:eB):g5:=fun D O H=>te O H fun _ aI=>D.dF O aI
theorem fD(cz:dS X e te)(aL:swapsWith e none pos.line X.env=pure false:=by rfl):ri X (.Expr e pos) (asJ te):=by
 intro ao s O H D J h;exact wpAny_Expr_any (eJ (cz ao s O H _ J h) fun v aU⟨x,aI,bY,fE,aW⟩=>⟨O,aI,bY,aW⟩) J.quiet aL
def asV(te:eB):g5:=fun D O H=>te O H D.A5
theorem di(cz:dS X e te):ri X (.Return (some e) pos) (asV te):=by
 intro ao s O H D J h;exact wpAny_Return_some (eJ (cz ao s O H _ J h) fun v aU⟨x,aI,bY,fE,aW⟩=>⟨x,O,aI,bY,fE,aW⟩)
def asM(c:lB)(t u:g5):g5:=fun D O H=>c O H fun b aI=>if b=true then t D O aI else u D O aI
theorem d7{c:Expr}{a b:List Stmt}{zC:lB}(aB:tJ X c zC)(cC:sr X a t)(ae:sr X b u):ri X (.If c a b pos) (asM zC t u):=by
 intro ao s O H D J h;refine wpAny_If (eJ (aB ao s O H _ J h) fun d aU⟨aI,bY,aW⟩=>?_);cases d with
 |true=>exact cC ao aU O aI D bY aW
 |false=>exact ae ao aU O aI D bY aW
end
abbrev nD:=aa->St->aA->(St->aA->Prop)->Prop
abbrev Ag:=List aa->St->aA->(St->aA->Prop)->Prop
def w7(X:cQ)(ES:Expr)(t:nD):Prop:=
 ∀(ao:List (Addr×Obj))(s:Shared)(O:St)(H:aA)(v:aa)(u:Value)(Q:St->aA->Prop),Inv X ao O H s->RelV v u->t v O H Q->
  wpAny (model X.prog X.w) X.A (assign ES X.env u) (fun _ aZ=>∃cB H',Inv X ao cB H' aZ/\Q cB H') X.fJ s
def FH(X:cQ)(b8:List Expr)(t:Ag):Prop:=
 ∀(ao:List (Addr×Obj))(s:Shared)(O:St)(H:aA)(vs:List aa)(us:List Value)(Q:St->aA->Prop),Inv X ao O H s->eS vs us->t vs O H Q->
  wpAny (model X.prog X.w) X.A (assignInOrder ((assignEach b8 X.env).map (·.2)) us) (fun _ aZ=>∃cB H',Inv X ao cB H' aZ/\Q cB H') X.fJ s
abbrev OB:=aa->aa->aa->aA->(aA->Prop)->Prop
def UE(X:cQ)(t:OB):Prop:=
 ∀(ao:List (Addr×Obj))(s:Shared)(O:St)(H:aA)(o i v:aa)(lq sY u:Value)(Q:aA->Prop),Inv X ao O H s->RelV o lq->RelV i sY->RelV v u->t o i v H Q->
  wpAny (model X.prog X.w) X.A (setItem lq sY u) (fun _ aZ=>∃H',Inv X ao O H' aZ/\Q H') X.fJ s
section
variable{X:cQ}{pos:Pos}
def BU(i:Nat):nD:=fun v O H Q=>Q (O.set i (some v)) H
theorem mF{i:Nat}{x:Str}(h7:X.N.Nodup)(aF:X.N[i]?=some x)(Y:m4 X.env.scope x)(bq:X.fn x=true\/X.env.scope.names.lookup x=some .local:=by first|exact .inl rfl|exact .inr rfl|assumption):w7 X (.Name x pos) (BU i):=by
 intro ao s O H v u Q J r h;exact wpAny_assign_Name (adj J h7 aF Y r (fun aZ pC=>⟨_,H,pC,h⟩) bq)
def aiY:Ag:=fun vs O H Q=>vs=[]/\Q O H
def aiX(t:nD)(u:Ag):Ag:=fun vs O H Q=>∃v r,vs=v::r/\t v O H fun cB H'=>u r cB H' Q
theorem Nb:FH X [] aiY:=by
 intro ao s O H vs us Q J r h;obtain⟨e,h⟩:=h;subst e;cases r;exact assignInOrder_nil ⟨O,H,J,h⟩
theorem AY{e:Expr}{bX:List Expr}{t:nD}{u:Ag}(ai:w7 X e t)(aj:FH X bX u)
  (aL:(assignEach (e::bX) X.env).map (·.2)=assign e X.env::(assignEach bX X.env).map (·.2):=by rfl):FH X (e::bX) (aiX t u):=by
 intro ao s O H vs us Q J r h;obtain⟨v,adM,ay,h⟩:=h;subst ay;cases r with
 |cons r CQ=>
  rw[aL];refine assignInOrder_cons (eJ (ai ao s O H _ _ _ J r h) fun _ aU⟨Fj,aI,bY,aW⟩=>?_);exact aj ao aU Fj aI _ _ Q bY CQ aW
def Xf(K:Frag)(n:Nat)(t:Ag):nD:=fun v O H Q=>∃a xs,v=.ref a/\je K H a xs/\xs.length=n/\t xs O H Q
theorem So{bX:List Expr}{k:Nat}{t:Ag}{n:Nat}(aB:X.calm=true)(h:FH X bX t)
  (br:(assignEach bX X.env).length=n:=by rfl)(iR:(assignEach bX X.env).findIdx? (·.1)=none:=by rfl):w7 X (.Tuple bX k pos) (Xf X.K n t):=by
 intro ao s O H v u Q J r hw;obtain⟨a,xs,ay,a9,aD,hw⟩:=hw;subst ay;cases r;obtain⟨bK,ia,bO,bR⟩:=J.tuple a9;refine assign_Tuple_tuple (J.ok.aG aB) bO (by simp[br,<-aD,ia.length]) iR fun h' Y=>?_;have bY:Inv X ao O H {s with heap:=h'}:=J.kept (t':=s.toks) fun b o e=>Y b o (pn (iW e)) e;exact h ao _ O H xs _ Q bY (by simpa using ia) hw
def aiZ(lz vS:eB)(t:OB):nD:=fun v O H Q=>lz O H fun o aI=>vS O aI fun i a7=>t o i v a7 fun bI=>Q O bI
theorem aaN{o i:Expr}{lz vS:eB}{t:OB}(aT:dS X o lz)(aF:dS X i vS)(aL:UE X t)
  (cC:∀v,assign (.Subscript o i pos) X.env v=(do
   let lq<-holding [v] (eval o X.env)
   let sY<-holding [v,lq] (eval i X.env)
   standAt pos
   holding [v,lq,sY] (setItem lq sY v)
   release [v,lq,sY] []):=by intro _;rfl):w7 X (.Subscript o i pos) (aiZ lz vS t):=by
 intro ao s O H v u Q J r h;rw[cC];refine fO (wpAny_holding (eJ (aT ao s O H _ J h) fun lq aU⟨x,aI,bY,fE,aW⟩=>?_));refine fO (wpAny_holding (eJ (aF ao aU O aI _ bY aW) fun sY bD⟨y,a7,fy,gQ,bf⟩=>?_));refine fO (wpAny_standAt (fO (wpAny_holding (eJ (aL ao bD O a7 x y v lq sY u _ fy fE gQ r bf) fun _ b4⟨bI,lS,df⟩=>?_))));exact wpAny_release ⟨O,bI,lS,df⟩
def Tu(te:eB)(g:nD):g5:=fun D O H=>te O H fun x aI=>g x O aI D.dF
theorem aaZ{gR e:Expr}{te:eB}{g:nD}(cz:dS X e te)(dz:w7 X gR g)(aL:swapsWithSole [gR] e pos.line X.env=pure false:=by rfl)(hw:swappedStores [gR] e X.env=pure none:=by rfl)
  (ai:(assignEach [gR] X.env).map (·.2)=[assign gR X.env]:=by rfl):ri X (.Assign [gR] e pos) (Tu te g):=by
 intro ao s O H D J h;refine wpAny_Assign_stores (eJ (cz ao s O H _ J h) fun v aU⟨x,aI,bY,fE,aW⟩=>?_) aL hw;rw[ai];exact eJ (dz ao aU O aI x v _ bY fE aW) fun _ bD q=>q
theorem dU{i:Nat}{x:Str}{e:Expr}{te:eB}{uR:Pos}(h7:X.N.Nodup)(aF:X.N[i]?=some x)(Y:m4 X.env.scope x)(cz:dS X e te)(aL:swapsWith e (some (.Name x uR)) pos.line X.env=pure false:=by rfl)(bq:X.fn x=true\/X.env.scope.names.lookup x=some .local:=by first|exact .inl rfl|exact .inr rfl|assumption):
  ri X (.Assign [.Name x uR] e pos) (Tu te (BU i)):=by
 intro ao s O H D J h;refine wpAny_Assign_Name (eJ (cz ao s O H _ J h) fun v aU⟨y,aI,bY,fE,aW⟩=>?_) aL;exact adj bY h7 aF Y fE (fun bD fy=>⟨_,aI,fy,aW⟩) bq
end
section
variable{X:cQ}{pos:Pos}
def as3(c:lB)(gk:g5):g5:=fun D O H=>∃W:Nat->St->aA->Prop,(∃m,W m O H)/\∀m O H,W m O H->
 c O H fun b aI=>if b=true then ∃N:St->aA->Prop,(∀cB H',N cB H'->∃dB,dB<m/\W dB cB H')/\gk {D with dF:=N,k9:=N,bV:=D.dF} O aI else D.dF O aI
theorem A0{c:Expr}{body:List Stmt}{zC:lB}{gk:g5}(aN:PassesOwn (model X.prog X.w) X.A X.env X.fJ)(aB:tJ X c zC)(ae:sr X body gk):ri X (.While c body [] pos) (as3 zC gk):=by
 intro ao s O H D J h;obtain⟨W,⟨uO,E4⟩,x7⟩:=h;refine wpAny_While (codeAny_whileLoop (fun n aZ=>∃cB H',Inv X ao cB H' aZ/\W n cB H') ?_ uO ⟨O,H,J,E4⟩);rintro n aU ⟨Fj,aI,bY,ou⟩;refine E9 aN (eJ (aB ao aU Fj aI _ bY (x7 n Fj aI ou)) fun b bD⟨a7,fy,bf⟩=>?_);cases b with
 |true=>
  obtain⟨N,h7,bf⟩:=bf;rw[bT z];refine E9 aN (eJ (ae ao bD Fj a7 _ fy bf) fun f b4 df=>?_);cases f with
  |next=>
   obtain⟨wW,bI,lS,ql⟩:=df;obtain⟨dB,aM,wQ⟩:=h7 wW bI ql;exact⟨dB,aM,wW,bI,lS,wQ⟩
  |cont=>
   obtain⟨wW,bI,lS,ql⟩:=df;obtain⟨dB,aM,wQ⟩:=h7 wW bI ql;exact⟨dB,aM,wW,bI,lS,wQ⟩
  |brk=>exact df
  |ret v=>exact df
 |false=>
  rw[bz oB];exact wpAny_execs_nil ⟨Fj,a7,fy,bf⟩
end
structure w5 where
 go:Nat->aA->Prop
 wR:Nat->aA->aa->aA->Prop
 tu:Nat->aA->Prop
def vc(X:cQ)(ao:List (Addr×Obj))(H:aA)(b:Addr):Prop:=
 H b=none/\b≠X.env.locals/\b∉X.bA/\(b∈X.ex\/X.jw.heap.objs.size<=b)/\(∀x c,X.env.cells.lookup x=some c->c≠b)/\∀p∈X.ef++ao,p.1≠b
theorem Inv.Jo{X:cQ}{ao:List (Addr×Obj)}{O:St}{H H':aA}{s:Shared}{b:Addr}(J:Inv X ao O H s)(ae:s.heap.objs.size<=b)(br:H' b=none):vc X ao H' b:=by
 refine⟨br,Nat.ne_of_gt (mY J.lt ae),J.anU ae,.inr (i3 J.qq ae),fun x c e I=>?_,fun p aN I=>?_⟩
 .obtain⟨v,q⟩:=J.cell x c e;exact absurd (mY q.lt (by rw[I];exact ae)) (zK _)
 .exact absurd (mY (iW (J.pR p aN).1) (by rw[I];exact ae)) (zK _)
structure FM(P:Program)(w:World)(K:Frag)(gR:Expr)(cX:w5)(cM:List Addr)(fZ:Addr)(qs:Nat->Heap->Prop):Prop where
 mem:fZ∈cM
 obj:∀i h,qs i h->∀b∈cM,∃o,h.get? b=some o/\∀v,o.data≠.cell v
 keep:∀i h h',qs i h->(∀b∈cM,∀o,h.get? b=some o->h'.get? b=some o)->qs i h'
 item:∀(X:cQ),X.prog=P->X.w=w->X.K=K->X.calm=true->∀(i:Nat)(ao:List (Addr×Obj))(s:Shared)(O:St)(H:aA)(E:Value->Shared->Prop),Inv X ao O H s->(∀b∈cM,vc X ao H b)->qs i s.heap->cX.go i H->
  wpAny (model P w) X.A (pyNext (.ref fZ)) (fun r aU=>∃u,r=some u/\
   wpAny (model P w) X.A (letOwnedTupleGo gR (.ref fZ) u) (fun _ bD=>∃x H',Inv X ao O H' bD/\RelV x u/\cX.wR i H x H'/\qs (i+1) bD.heap/\∀b∈cM,H' b=none) E aU) E s
 done:∀(X:cQ),X.prog=P->X.w=w->X.K=K->X.calm=true->∀(i:Nat)(ao:List (Addr×Obj))(s:Shared)(O:St)(H:aA)(E:Value->Shared->Prop),Inv X ao O H s->(∀b∈cM,vc X ao H b)->qs i s.heap->cX.tu i H->
  wpAny (model P w) X.A (pyNext (.ref fZ)) (fun r aU=>r=none/\Inv X ao O H aU) E s
 self:∀(A:Around)(i:Nat)(s:Shared)(Q:Value->Shared->Prop)(E:Value->Shared->Prop),qs i s.heap->Q (.ref fZ) s->wpAny (model P w) A (pyIter (.ref fZ)) Q E s
abbrev nZ:=St->aA->(w5->aA->Prop)->Prop
def UD(X:cQ)(ao:List (Addr×Obj))(O:St)(gR:Expr)(R:w5->aA->Prop)(Q3:Value)(bD:Shared):Prop:=
 ∃(fZ:Addr)(cM:List Addr)(qs:Nat->Heap->Prop)(cX:w5)(H':aA),Q3=.ref fZ/\Inv X ao O H' bD/\FM X.prog X.w X.K gR cX cM fZ qs/\qs 0 bD.heap/\(∀b∈cM,vc X ao H' b)/\R cX H'
def Ab(X:cQ)(gR iter:Expr)(ow:nZ):Prop:=
 ∀(ao:List (Addr×Obj))(s:Shared)(O:St)(H:aA)(R:w5->aA->Prop),Inv X ao O H s->ow O H R->
  wpAny (model X.prog X.w) X.A (eval iter X.env) (fun v aU=>wpAny (model X.prog X.w) X.A (pyIter v) (UD X ao O gR R) X.fJ aU) X.fJ s
theorem P4{M:Model}{A:Around}{E:Value->Shared->Prop}{s:Shared}{gR:Expr}{fZ:Addr}{u:Value}{o:Obj}{n:String}{vs:Array Value}{Q:Unit->Shared->Prop}(aT:s.heap.get? fZ=some o)(aB:o.cls=.type n)(aG:o.data=.fields vs)
  (br:["enumerate","zip","dict_itemiterator","dict_reverseitemiterator","odict_iterator","itertools.zip_longest","itertools.pairwise"].contains n=false)(B5:Q () s):wpAny M A (letOwnedTupleGo gR (.ref fZ) u) Q E s:=by
 unfold letOwnedTupleGo;cases gR<;>first
  |exact kJ B5
  |(cases u<;>first
    |exact kJ B5
    |(refine fO (wpAny_load aT ?_)
      rw[aB,aG];show wpAny M A (if (["enumerate","zip","dict_itemiterator","dict_reverseitemiterator","odict_iterator","itertools.zip_longest","itertools.pairwise"].contains n&&vs[0]?==some (rawInt _))=true then _ else _) Q E s;rw[bz (by intro h;rw[br,Bool.false_and]at h;cases h)];exact kJ B5))
def z3(K:Frag)(a:Addr):w5:=
 ⟨fun i H=>∃xs x,bj K H a xs/\xs[i]?=some x,fun i H x H'=>H'=H/\∀xs,bj K H a xs->xs[i]?=some x,fun i H=>∃xs,bj K H a xs/\xs.length<=i⟩
def z4(K:Frag)(a:Addr):w5:=
 ⟨fun i H=>∃xs x,je K H a xs/\xs[i]?=some x,fun i H x H'=>H'=H/\∀xs,je K H a xs->xs[i]?=some x,fun i H=>∃xs,je K H a xs/\xs.length<=i⟩
def yo(lo:Int)(n:Nat):w5:=⟨fun i _=>i<n,fun i H x H'=>H'=H/\x=.int (lo+i),fun i _=>n<=i⟩
theorem atf{P:Program}{w:World}{K:Frag}{gR:Expr}(a fZ:Addr):FM P w K gR (z3 K a) [fZ] fZ (fun i h=>h.IsListIter fZ a i) where
 mem:=by simp
 obj:=fun i h st b ae=>by
  have e:b=fZ:=by simpa using ae
  subst e;obtain⟨o,e,c,d⟩:=st;exact⟨o,e,fun v I=>by rw[d]at I;cases I⟩
 keep:=fun i h h' st k=>st.at fun o e=>k fZ (by simp) o e
 item:=by
  intro X pK hw j1 aB i ao s O H E J bq st dz;subst pK hw j1;obtain⟨xs,x,a9,Y⟩:=dz;obtain⟨bK,ia,p,bR⟩:=J.list a9;obtain⟨u,ck,o9⟩:=ia.get Y;obtain⟨qD,f1,f2,jG,pJ,sL⟩:=bq fZ (by simp);refine wpAny_pyNext_list_item st p.isList (x:=u) (by simpa using ck) fun h' qV iZ=>?_;have bY:Inv X ao O H {s with heap:=h'}:=J.Bb (t':=s.toks) (fun b o ae e=>(iZ.2 b ae).trans e) qD f1 jG pJ sL;obtain⟨o,e,c,d⟩:=id qV;exact⟨u,z,P4 (s:={s with heap:=h'}) e c d (by decide) ⟨x,H,bY,o9,⟨z,fun ys bu=>by rw[J.Rg bu a9];exact Y⟩,qV,fun b ae=>(bq b ae).1⟩⟩
 done:=by
  intro X pK hw j1 aB i ao s O H E J bq st dz;subst pK hw j1;obtain⟨xs,a9,Y⟩:=dz;obtain⟨bK,ia,p,bR⟩:=J.list a9;obtain⟨qD,f1,f2,jG,pJ,sL⟩:=bq fZ (by simp);have aD:=ia.length;exact wpAny_pyNext_list_end (J.ok.aG aB) st p.isList (by simp;omega) fun h' xq=>⟨z,J.Bb (t':=s.toks) (fun b o ae e=>xq b o ae e) qD f1 jG pJ sL⟩
 self:=fun _ _ _ _ _ st h=>wpAny_pyIter_listiter st h
theorem ath{P:Program}{w:World}{K:Frag}{gR:Expr}(a fZ:Addr):FM P w K gR (z4 K a) [fZ] fZ (fun i h=>h.IsTupleIter fZ a i) where
 mem:=by simp
 obj:=fun i h st b ae=>by
  have e:b=fZ:=by simpa using ae
  subst e;obtain⟨o,e,c,d⟩:=st;exact⟨o,e,fun v I=>by rw[d]at I;cases I⟩
 keep:=fun i h h' st k=>st.at fun o e=>k fZ (by simp) o e
 item:=by
  intro X pK hw j1 aB i ao s O H E J bq st dz;subst pK hw j1;obtain⟨xs,x,a9,Y⟩:=dz;obtain⟨bK,ia,p,bR⟩:=J.tuple a9;obtain⟨u,ck,o9⟩:=ia.get Y;obtain⟨qD,f1,f2,jG,pJ,sL⟩:=bq fZ (by simp);refine wpAny_pyNext_tuple_item st (show s.heap.IsTuple a bK.toArray from p) (x:=u) (by simpa using ck) fun h' qV iZ=>?_;have bY:Inv X ao O H {s with heap:=h'}:=J.Bb (t':=s.toks) (fun b o ae e=>(iZ.2 b ae).trans e) qD f1 jG pJ sL;obtain⟨o,e,c,d⟩:=id qV;exact⟨u,z,P4 (s:={s with heap:=h'}) e c d (by decide) ⟨x,H,bY,o9,⟨z,fun ys bu=>by rw[J.ate bu a9];exact Y⟩,qV,fun b ae=>(bq b ae).1⟩⟩
 done:=by
  intro X pK hw j1 aB i ao s O H E J bq st dz;subst pK hw j1;obtain⟨xs,a9,Y⟩:=dz;obtain⟨bK,ia,p,bR⟩:=J.tuple a9;obtain⟨qD,f1,f2,jG,pJ,sL⟩:=bq fZ (by simp);have aD:=ia.length;exact wpAny_pyNext_tuple_end (J.ok.aG aB) st (show s.heap.IsTuple a bK.toArray from p) (by simp;omega) fun h' xq=>⟨z,J.Bb (t':=s.toks) (fun b o ae e=>xq b o ae e) qD f1 jG pJ sL⟩
 self:=fun _ _ _ _ _ st h=>wpAny_pyIter_tupleiter st h
theorem atg{P:Program}{w:World}{K:Frag}{gR:Expr}(fZ:Addr)(lo:Int)(n:Nat):FM P w K gR (yo lo n) [fZ] fZ (fun i h=>IsRangeIter h fZ (lo+(i:Nat)*1) ((n:Int) -(i:Nat)) 1) where
 mem:=by simp
 obj:=fun i h st b ae=>by
  have e:b=fZ:=by simpa using ae
  subst e;exact⟨_,st,fun v I=>by
   have qv:Data.fields _=Data.cell v:=I;cases qv⟩
 keep:=fun i h h' st k=>k fZ (by simp) _ st
 item:=by
  intro X pK hw j1 aB i ao s O H E J bq st dz;subst pK hw j1;obtain⟨qD,f1,f2,jG,pJ,sL⟩:=bq fZ (by simp);have W:=Walks.range (prog:=X.prog) (w:=X.w) (J.ok.aG aB) fZ lo 1 n;refine W.item i s _ _ dz st fun v h' tk a6 qV AF=>?_;obtain⟨t,rfl⟩:=a6;have bY:Inv X ao O H {s with heap:=h',toks:=tk}:=J.Bb (fun b o ae e=>AF b o (by simpa using ae) e) qD f1 jG pJ sL;refine⟨_,z,P4 (s:={s with heap:=h',toks:=tk}) (n:="range_iterator") qV z z (by decide) ⟨.int (lo+i),H,bY,⟨t,?_⟩,⟨z,z⟩,qV,fun b ae=>(bq b ae).1⟩⟩;rw[Int.mul_one]
 done:=by
  intro X pK hw j1 aB i ao s O H E J bq st dz;subst pK hw j1;obtain⟨qD,f1,f2,jG,pJ,sL⟩:=bq fZ (by simp);exact wpAny_pyNext_range_end (J.ok.aG aB) st (by have:n<=i:=dz;omega) fun h' xq=>⟨z,J.Bb (t':=s.toks) (fun b o ae e=>xq b o ae e) qD f1 jG pJ sL⟩
 self:=fun _ _ _ _ _ st h=>wpAny_pyIter_rangeiter st h
section
variable{X:cQ}{gR:Expr}
def alr(K:Frag)(bw:eB):nZ:=fun O H R=>bw O H fun x aI=>∃a,x=.ref a/\(∃xs,bj K aI a xs)/\R (z3 K a) aI
def alu(K:Frag)(bw:eB):nZ:=fun O H R=>bw O H fun x aI=>∃a,x=.ref a/\(∃xs,je K aI a xs)/\R (z4 K a) aI
theorem wI{l:Expr}{bw:eB}(aD:dS X l bw):Ab X gR l (alr X.K bw):=by
 intro ao s O H R J h;refine eJ (aD ao s O H _ J h) fun v aU⟨x,aI,bY,fE,aW⟩=>?_;obtain⟨a,e,⟨xs,a9⟩,q⟩:=aW;subst e;cases fE;obtain⟨bK,ia,p,bR⟩:=bY.list a9;refine wpAny_pyIter_list p.isList ?_;refine⟨aU.heap.objs.size,[aU.heap.objs.size],_,_,aI,z,bY.kept (t':=aU.toks) fun b o e=>ph _ e,atf a _,⟨_,vW _ z,z,z⟩,fun b ae=>?_,q⟩;have e:b=aU.heap.objs.size:=by simpa using ae
 subst e;exact bY.Jo (dW _) (bY.cG.fresh (dW _))
theorem aaP{l:Expr}{bw:eB}(aD:dS X l bw):Ab X gR l (alu X.K bw):=by
 intro ao s O H R J h;refine eJ (aD ao s O H _ J h) fun v aU⟨x,aI,bY,fE,aW⟩=>?_;obtain⟨a,e,⟨xs,a9⟩,q⟩:=aW;subst e;cases fE;obtain⟨bK,ia,p,bR⟩:=bY.tuple a9;refine wpAny_pyIter_tuple (show aU.heap.IsTuple a bK.toArray from p) ?_;refine⟨aU.heap.objs.size,[aU.heap.objs.size],_,_,aI,z,bY.kept (t':=aU.toks) fun b o e=>ph _ e,ath a _,⟨_,vW _ z,z,z⟩,fun b ae=>?_,q⟩;have e:b=aU.heap.objs.size:=by simpa using ae
 subst e;exact bY.Jo (dW _) (bY.cG.fresh (dW _))
theorem apP{ao:List (Addr×Obj)}{O:St}{H:aA}{s:Shared}{R:w5->aA->Prop}{E:Value->Shared->Prop}{lo aF:Int}{t u v:Tok}{tk:Nat}(J:Inv X ao O H s)(ai:-(2^62)<=lo)(aj:lo<2^62)(bN:-(2^62)<=aF)(ez:aF<2^62)
  (q:R (yo lo (aF -lo).toNat) H):wpAny (model X.prog X.w) X.A (pyIter (.ref s.heap.objs.size)) (UD X ao O gR R) E {s with heap:=s.heap.push {cls:=.type "range",data:=.fields #[.int lo t,.int aF u,.int 1 v]},toks:=tk}:=by
 refine wpAny_pyIter_range (IsRange.new ..) (small_one ai aj bN ez) ?_;have bY:Inv X ao O H {s with heap:=s.heap.push {cls:=.type "range",data:=.fields #[.int lo t,.int aF u,.int 1 v]},toks:=tk}:=J.kept fun b o e=>ph _ e;refine⟨(s.heap.push {cls:=.type "range",data:=.fields #[.int lo t,.int aF u,.int 1 v]}).objs.size,[(s.heap.push {cls:=.type "range",data:=.fields #[.int lo t,.int aF u,.int 1 v]}).objs.size],_,_,H,z,
  bY.kept (t':=tk) fun b o e=>ph _ e,atg _ lo (aF -lo).toNat,?_,fun b ae=>?_,q⟩
 .have ay:lo+((0:Nat):Int)*1=lo:=by simp
  have aq:(((aF -lo).toNat:Nat):Int) -((0:Nat):Int)=Builtin.Range.rangeSize lo aF 1:=by rw[rangeSize_one];split<;>omega
  show IsRangeIter _ _ (lo+((0:Nat):Int)*1) ((((aF -lo).toNat:Nat):Int) -((0:Nat):Int)) 1;rw[ay,aq];exact vW _ z
 .have e:b=(s.heap.push {cls:=.type "range",data:=.fields #[.int lo t,.int aF u,.int 1 v]}).objs.size:=by simpa using ae
  subst e;exact bY.Jo (dW _) (bY.cG.fresh (dW _))
def als(eR:nY):nZ:=fun O H R=>eR O H fun vs aI=>∃j:Int,vs=[.int j]/\-(2^62)<=j/\j<2^62/\R (yo 0 j.toNat) aI
theorem Nc{a:Expr}{eR:nY}{p pos:Pos}(dz:qw X "range")(aM:X.az "range"=none)(cC:tI X [a] eR)(aL:starEach [a] X.env=[(false,eval a X.env)]:=by rfl):Ab X gR (.Call (.Name "range" p) [a] [] pos) (als eR):=by
 intro ao s O H R J h;refine Call_ (Kc J dz aM boot_range (PyProof.Rows.callWith_type1 (eJ (cC pos ao s O H _ J h) fun us aU⟨vs,aI,bY,fE,aW⟩=>?_) aL z));obtain⟨j,e,aW,bf,q⟩:=aW;subst e;cases fE with
 |cons r CQ=>
  cases CQ;obtain⟨t,rfl⟩:=r;exact call_range_1 (apP bY (by omega) (by omega) aW bf (by simpa using q))
def asK(ow:nZ)(g:nD)(gk:g5):g5:=fun D O H=>ow O H fun cX aI=>∃W:Nat->Nat->St->aA->Prop,(∃m,W 0 m O aI)/\∀i m O H,W i m O H->
 (cX.tu i H/\D.dF O H)\/(cX.go i H/\∃N:St->aA->Prop,(∀cB H',N cB H'->∃dB,dB<m/\W (i+1) dB cB H')/\∀x H',cX.wR i H x H'->g x O H' fun gu a7=>gk {D with dF:=N,k9:=N,bV:=D.dF} gu a7)
def KG(cM:List Addr)(h:Heap):List (Addr×Obj):=cM.filterMap fun b=>(h.get? b).map fun o=>(b,o)
theorem Rt{cM:List Addr}{h:Heap}{b:Addr}{o:Obj}(ae:b∈cM)(e:h.get? b=some o):(b,o)∈KG cM h:=mem_filterMap.mpr ⟨b,ae,by rw[e];rfl⟩
theorem an9{cM:List Addr}{h:Heap}{p:Addr×Obj}(aN:p∈KG cM h):p.1∈cM/\h.get? p.1=some p.2:=by
 obtain⟨b,ae,e⟩:=mem_filterMap.mp aN;cases q:h.get? b with
 |none=>rw[q]at e;cases e
 |some o=>
  rw[q]at e;have c5:(b,o)=p:=j7 e;subst c5;exact⟨ae,q⟩
theorem Inv.aaR{ao:List (Addr×Obj)}{O:St}{H:aA}{s:Shared}{cM:List Addr}(J:Inv X ao O H s)(bq:∀b∈cM,vc X ao H b)(aT:∀b∈cM,∃o,s.heap.get? b=some o/\∀v,o.data≠.cell v):Inv X (ao++KG cM s.heap) O H s:=
 J.aaS fun p aN=>(fN.mp aN).elim (fun I=>J.pR p (r9 _ I)) fun I=>by
  obtain⟨ae,e⟩:=an9 I;obtain⟨qD,f1,f2,_⟩:=bq p.1 ae;obtain⟨o,c5,d⟩:=aT p.1 ae;rw[e]at c5;cases c5;exact⟨e,qD,f1,f2,d⟩
theorem Inv.N1{ao pl:List (Addr×Obj)}{O:St}{H:aA}{s:Shared}(J:Inv X (ao++pl) O H s):Inv X ao O H s:=J.aaS fun p aN=>J.pR p (r9 _ (yf _ aN))
theorem vL{iter:Expr}{body:List Stmt}{ow:nZ}{g:nD}{gk:g5}{pos:Pos}(aN:PassesOwn (model X.prog X.w) X.A X.env X.fJ)(aB:X.calm=true)(aF:Ab X gR iter ow)(dz:w7 X gR g)(ae:sr X body gk)
  (aL:∀x,foldedSetIterable iter X.env x=pure x:=by intro _;rfl):ri X (.For gR iter body [] pos) (asK ow g gk):=by
 intro ao s O H D J h;refine wpAny_For (eJ (aF ao s O H _ J h) fun v aU ai=>eJ ai fun Q3 bD aj=>?_) aL;obtain⟨fZ,cM,qs,cX,a7,e,fy,T,NP,f2,W,⟨uO,E4⟩,x7⟩:=aj;subst e;have CX:∀{H':aA},(∀b∈cM,H' b=none)->∀b∈cM,vc X ao H' b:=fun br b ae=>⟨br b ae,(f2 b ae).2⟩;refine codeAny_forLoop_any (fun n aZ=>∃i cB H',Inv X ao cB H' aZ/\qs i aZ.heap/\(∀b∈cM,H' b=none)/\W i n cB H') ?_ uO ⟨0,O,a7,fy,NP,fun b ae=>(f2 b ae).1,E4⟩;rintro n b4 ⟨i,wW,bI,lS,NQ,Xa,wQ⟩;rcases x7 i n wW bI wQ with⟨tu,SH⟩|⟨go,N,h7,step⟩
 .refine E9 aN (eJ (T.done X z z z aB i ao b4 wW bI X.fJ lS (CX Xa) NQ tu) fun r eo⟨aO,zZ⟩=>?_);subst aO;exact wpAny_execs_nil ⟨wW,bI,zZ,SH⟩
 .refine E9 aN (eJ (T.item X z z z aB i ao b4 wW bI X.fJ lS (CX Xa) NQ go) fun r eo⟨u,aO,ez⟩=>?_);subst aO;refine E9 aN (eJ ez fun _ lO⟨x,H5,Do,Nn,E7,EO,aiR⟩=>?_);have aed:=Do.aaR (CX aiR) (T.obj _ _ EO);refine E9 aN (eJ (dz _ lO wW H5 x u _ aed Nn (step x H5 E7)) fun _ ol⟨at0,pZ,z0,oj⟩=>?_);refine E9 aN (eJ (ae _ ol at0 pZ _ z0 oj) fun f CS mW=>?_);have again:∀{wX:St}{pB:aA},Inv X (ao++KG cM lO.heap) wX pB CS->N wX pB->∃m,m<n/\∃i cB H',Inv X ao cB H' CS/\qs i CS.heap/\(∀b∈cM,H' b=none)/\W i m cB H':=fun{wX pB}q8 Cr=>by
   obtain⟨dB,aM,atB⟩:=h7 wX pB Cr;refine⟨dB,aM,i+1,wX,pB,q8.N1,T.keep _ _ _ EO fun b ae o e=>(q8.pR (b,o) (r9 _ (r9 _ (Rt ae e)))).1,fun b ae=>?_,atB⟩;obtain⟨o,e,d⟩:=T.obj _ _ EO b ae;exact(q8.pR (b,o) (r9 _ (r9 _ (Rt ae e)))).2.1
  cases f with
  |next=>obtain⟨wX,pB,q8,Cr⟩:=mW;exact again q8 Cr
  |cont=>obtain⟨wX,pB,q8,Cr⟩:=mW;exact again q8 Cr
  |brk=>obtain⟨wX,pB,q8,mW⟩:=mW;exact⟨wX,pB,q8.N1,mW⟩
  |ret v=>obtain⟨atJ,wX,pB,q8,zy,mW⟩:=mW;exact⟨atJ,wX,pB,q8.N1,zy,mW⟩
end
theorem DN{K:Frag}{a:Addr}{xs:List aa}{g:nD}{gk:g5}{D:dR}{O:St}{H:aA}(e6:Nat->St->aA->Prop)(cP:e6 0 O H)(aD:∀i O H,i<=xs.length->e6 i O H->bj K H a xs)
  (aL:∀i x O H,xs[i]?=some x->e6 i O H->g x O H fun gu a7=>gk {D with dF:=e6 (i+1),k9:=e6 (i+1),bV:=D.dF} gu a7)(aG:∀O H,e6 xs.length O H->D.dF O H):
  ∃W:Nat->Nat->St->aA->Prop,(∃m,W 0 m O H)/\∀i m O H,W i m O H->
   ((z3 K a).tu i H/\D.dF O H)\/((z3 K a).go i H/\∃N:St->aA->Prop,(∀cB H',N cB H'->∃dB,dB<m/\W (i+1) dB cB H')/\∀x H',(z3 K a).wR i H x H'->g x O H' fun gu a7=>gk {D with dF:=N,k9:=N,bV:=D.dF} gu a7):=by
 refine⟨fun i m O H=>m=xs.length -i/\i<=xs.length/\e6 i O H,⟨xs.length,by simp,jV _,cP⟩,?_⟩;rintro i m O H ⟨rfl,aF,p⟩;have q:=aD i O H aF p;by_cases eY:i<xs.length
 .refine .inr ⟨⟨xs,xs[i],q,by simp[eY]⟩,e6 (i+1),fun cB H' lN=>⟨xs.length -(i+1),by omega,z,eY,lN⟩,fun x H' y=>?_⟩;obtain⟨e,y⟩:=y;subst e;exact aL i x O _ (y xs q) p
 .have e:i=xs.length:=by omega
  subst e;exact .inl ⟨⟨xs,q,dW _⟩,aG O H p⟩
theorem aiQ{K:Frag}{a:Addr}{xs:List aa}{g:nD}{gk:g5}{D:dR}{O:St}{H:aA}(e6:Nat->St->aA->Prop)(cP:e6 0 O H)(aD:∀i O H,i<=xs.length->e6 i O H->je K H a xs)
  (aL:∀i x O H,xs[i]?=some x->e6 i O H->g x O H fun gu a7=>gk {D with dF:=e6 (i+1),k9:=e6 (i+1),bV:=D.dF} gu a7)(aG:∀O H,e6 xs.length O H->D.dF O H):
  ∃W:Nat->Nat->St->aA->Prop,(∃m,W 0 m O H)/\∀i m O H,W i m O H->
   ((z4 K a).tu i H/\D.dF O H)\/((z4 K a).go i H/\∃N:St->aA->Prop,(∀cB H',N cB H'->∃dB,dB<m/\W (i+1) dB cB H')/\∀x H',(z4 K a).wR i H x H'->g x O H' fun gu a7=>gk {D with dF:=N,k9:=N,bV:=D.dF} gu a7):=by
 refine⟨fun i m O H=>m=xs.length -i/\i<=xs.length/\e6 i O H,⟨xs.length,by simp,jV _,cP⟩,?_⟩;rintro i m O H ⟨rfl,aF,p⟩;have q:=aD i O H aF p;by_cases eY:i<xs.length
 .refine .inr ⟨⟨xs,xs[i],q,by simp[eY]⟩,e6 (i+1),fun cB H' lN=>⟨xs.length -(i+1),by omega,z,eY,lN⟩,fun x H' y=>?_⟩;obtain⟨e,y⟩:=y;subst e;exact aL i x O _ (y xs q) p
 .have e:i=xs.length:=by omega
  subst e;exact .inl ⟨⟨xs,q,dW _⟩,aG O H p⟩
theorem PM{lo:Int}{n:Nat}{g:nD}{gk:g5}{D:dR}{O:St}{H:aA}(e6:Nat->St->aA->Prop)(cP:e6 0 O H)
  (aL:∀i O H,i<n->e6 i O H->g (.int (lo+i)) O H fun gu a7=>gk {D with dF:=e6 (i+1),k9:=e6 (i+1),bV:=D.dF} gu a7)(aG:∀O H,e6 n O H->D.dF O H):
  ∃W:Nat->Nat->St->aA->Prop,(∃m,W 0 m O H)/\∀i m O H,W i m O H->
   ((yo lo n).tu i H/\D.dF O H)\/((yo lo n).go i H/\∃N:St->aA->Prop,(∀cB H',N cB H'->∃dB,dB<m/\W (i+1) dB cB H')/\∀x H',(yo lo n).wR i H x H'->g x O H' fun gu a7=>gk {D with dF:=N,k9:=N,bV:=D.dF} gu a7):=by
 refine⟨fun i m O H=>m=n -i/\i<=n/\e6 i O H,⟨n,by simp,jV _,cP⟩,?_⟩;rintro i m O H ⟨rfl,aF,p⟩;by_cases eY:i<n
 .refine .inr ⟨eY,e6 (i+1),fun cB H' lN=>⟨n -(i+1),by omega,z,eY,lN⟩,fun x H' y=>?_⟩;obtain⟨e,y⟩:=y;subst e y;exact aL i O _ eY p
 .have e:i=n:=by omega
  subst e;exact .inl ⟨dW _,aG O H p⟩
abbrev su:=aa->aa->aA->gc->Prop
def oH(X:cQ)(f:Value->Value->Sem Value)(r:su):Prop:=
 ∀(ao:List (Addr×Obj))(s:Shared)(O:St)(H:aA)(x y:aa)(v u:Value)(Q:gc),Inv X ao O H s->RelV x v->RelV y u->r x y H Q->
  wpAny (model X.prog X.w) X.A (f v u) (nU X ao O Q) X.fJ s
def OC(X:cQ)(f:Value->Sem Value)(r:aa->aA->gc->Prop):Prop:=
 ∀(ao:List (Addr×Obj))(s:Shared)(O:St)(H:aA)(x:aa)(v:Value)(Q:gc),Inv X ao O H s->RelV x v->r x H Q->
  wpAny (model X.prog X.w) X.A (f v) (nU X ao O Q) X.fJ s
def Bo(X:cQ)(f:Value)(r:List aa->aA->gc->Prop):Prop:=
 ∀(ao:List (Addr×Obj))(s:Shared)(O:St)(H:aA)(xs:List aa)(us:List Value)(Q:gc),Inv X ao O H s->eS xs us->r xs H Q->
  wpAny (model X.prog X.w) X.A (call f us) (nU X ao O Q) X.fJ s
def aeW(X:cQ)(r:aa->aA->(Bool->aA->Prop)->Prop):Prop:=
 ∀(ao:List (Addr×Obj))(s:Shared)(O:St)(H:aA)(x:aa)(v:Value)(Q:Bool->aA->Prop),Inv X ao O H s->RelV x v->r x H Q->
  wpAny (model X.prog X.w) X.A (truthy v) (Ls X ao O Q) X.fJ s
def NV(r:su)(eR gk:eB):eB:=fun O H Q=>eR O H fun x aI=>gk O aI fun y a7=>r x y a7 Q
def as2(r:aa->aA->gc->Prop)(eR:eB):eB:=fun O H Q=>eR O H fun x aI=>r x aI Q
def Np(C:Int->Int->Prop)(g:Int->Int->aa):su:=fun x y H Q=>∃i j,x=.int i/\y=.int j/\C i j/\Q (g i j) H
def A3(g:Int->Int->aa):su:=fun x y H Q=>∃i j,x=.int i/\y=.int j/\Q (g i j) H
def aa5(g:Int->aa):aa->aA->gc->Prop:=fun x H Q=>∃i,x=.int i/\Q (g i) H
section
variable{X:cQ}{a b c:Expr}{eR gk zC:eB}{pos:Pos}
theorem ON(cC:dS X a eR)(ae:dS X b gk){ao:List (Addr×Obj)}{s:Shared}{O:St}{H:aA}{R:aa->aa->aA->Prop}(J:Inv X ao O H s)
  (h:eR O H fun x aI=>gk O aI fun y a7=>R x y a7){Q:Value->Shared->Prop}{f:Value->Value->Sem Value}
  (bq:∀v u bD x y a7,Inv X ao O a7 bD->RelV x v->RelV y u->R x y a7->wpAny (model X.prog X.w) X.A (f v u) Q X.fJ bD):
  wpAny (model X.prog X.w) X.A (eval a X.env) (fun v gJ=>wpAny (model X.prog X.w) X.A (eval b X.env) (fun u uV=>wpAny (model X.prog X.w) X.A (f v u) Q X.fJ uV) X.fJ gJ) X.fJ s:=by
 refine eJ (cC ao s O H _ J h) fun v aU⟨x,aI,bY,fE,aW⟩=>?_;refine eJ (ae ao aU O aI _ bY aW) fun u bD⟨y,a7,fy,gQ,bf⟩=>?_;exact bq v u bD x y a7 fy fE gQ bf
theorem f9{op:Operator}{r:su}(aT:oH X (binaryOp op) r)(cC:dS X a eR)(ae:dS X b gk):dS X (.BinOp a op b pos) (NV r eR gk):=by
 intro ao s O H Q J h;exact wpAny_BinOp (ON cC ae J h fun v u bD x y a7 fy cO eM q=>aT ao bD O a7 x y v u Q fy cO eM q)
theorem aaM{op:UnaryOp}{r:aa->aA->gc->Prop}(aT:OC X (unaryOp op) r)(cC:dS X a eR):dS X (.UnaryOp op a pos) (as2 r eR):=by
 intro ao s O H Q J h;exact UnaryOp_ (eJ (cC ao s O H _ J h) fun v aU⟨x,aI,bY,fE,aW⟩=>aT ao aU O aI x v Q bY fE aW)
theorem Se{f:Value->Value->Sem Value}{C:Int->Int->Prop}{g:Int->Int->Int}
  (rule:∀(i j:Int)(t u:Tok)(s:Shared)(Q:Value->Shared->Prop)(E:Value->Shared->Prop),C i j->Q (.int (g i j) s.toks) {s with toks:=s.toks+1}->wpAny (model X.prog X.w) X.A (f (.int i t) (.int j u)) Q E s):
  oH X f (Np C fun i j=>.int (g i j)):=by
 intro ao s O H x y v u Q J cO eM h;obtain⟨i,j,rfl,rfl,aB,q⟩:=h;obtain⟨t,rfl⟩:=cO;obtain⟨t',rfl⟩:=eM;exact rule i j t t' s _ _ aB ⟨.int (g i j),H,J.qt _,⟨_,z⟩,q⟩
theorem Sf{f:Value->Value->Sem Value}{g:Int->Int->Int}
  (rule:∀(i j:Int)(t u:Tok)(s:Shared)(Q:Value->Shared->Prop)(E:Value->Shared->Prop),Q (.int (g i j) s.toks) {s with toks:=s.toks+1}->wpAny (model X.prog X.w) X.A (f (.int i t) (.int j u)) Q E s):
  oH X f (A3 fun i j=>.int (g i j)):=by
 intro ao s O H x y v u Q J cO eM h;obtain⟨i,j,rfl,rfl,q⟩:=h;obtain⟨t,rfl⟩:=cO;obtain⟨t',rfl⟩:=eM;exact rule i j t t' s _ _ ⟨.int (g i j),H,J.qt _,⟨_,z⟩,q⟩
theorem Sd{f:Value->Value->Sem Value}{g:Int->Int->Bool}
  (rule:∀(i j:Int)(t u:Tok)(s:Shared)(Q:Value->Shared->Prop)(E:Value->Shared->Prop),Q (.bool (g i j)) s->wpAny (model X.prog X.w) X.A (f (.int i t) (.int j u)) Q E s):
  oH X f (A3 fun i j=>.av (g i j)):=by
 intro ao s O H x y v u Q J cO eM h;obtain⟨i,j,rfl,rfl,q⟩:=h;obtain⟨t,rfl⟩:=cO;obtain⟨t',rfl⟩:=eM;exact rule i j t t' s _ _ ⟨.av (g i j),H,J,z,q⟩
def ad4(i j:Int):Prop:=0<=j/\j<=1000000/\i.natAbs<2^64
theorem atl(k:Nat):(0:Int)<=2^k:=by
 rw[two_pow_cast];exact Int.natCast_nonneg _
theorem kH:oH X (binaryOp .Add) (A3 fun i j=>.int (i+j)):=Sf fun _ _ _ _ _ _ _ q=>add_int q
theorem uc:oH X (binaryOp .Sub) (A3 fun i j=>.int (i -j)):=Sf fun _ _ _ _ _ _ _ q=>sub_int q
theorem aaz:oH X (binaryOp .Mod) (Np (fun _ j=>0<j) fun i j=>.int (i%j)):=Se fun i j _ _ _ _ _ aB q=>by
 have ai:(0:Int)<j:=aB;exact mod_int' (by omega) (by rw[Int.fmod_eq_emod_of_nonneg i (by omega)];exact q)
theorem ao5:oH X (binaryOp .LShift) (Np ad4 fun i j=>.int (i*2^j.toNat)):=Se fun _ _ _ _ _ _ _ aB q=>lshift_int_small aB.1 aB.2.1 aB.2.2 q
theorem ao6:oH X (binaryOp .RShift) (Np (fun _ j=>0<=j) fun i j=>.int (i/2^j.toNat)):=Se fun i j _ _ _ _ _ aB q=>
 rshift_int aB (by rw[Int.fdiv_eq_ediv_of_nonneg i (atl _)];exact q)
theorem ao2:oH X (binaryOp .BitAnd) (A3 fun i j=>.int (Builtin.bitAnd i j)):=Sf fun _ _ _ _ _ _ _ q=>and_int q
theorem atn{f:Value->Sem Value}{g:Int->Int}
  (rule:∀(i:Int)(t:Tok)(s:Shared)(Q:Value->Shared->Prop)(E:Value->Shared->Prop),Q (.int (g i) s.toks) {s with toks:=s.toks+1}->wpAny (model X.prog X.w) X.A (f (.int i t)) Q E s):
  OC X f (aa5 fun i=>.int (g i)):=by
 intro ao s O H x v Q J cO h;obtain⟨i,rfl,q⟩:=h;obtain⟨t,rfl⟩:=cO;exact rule i t s _ _ ⟨.int (g i),H,J.qt _,⟨_,z⟩,q⟩
theorem adI:OC X (unaryOp .USub) (aa5 fun i=>.int (-i)):=atn fun _ _ _ _ _ q=>neg_int q
end
def ac0:aa->aa->Bool
 |.b9,.b9=>true|.b9,.int _=>true|.int _,.b9=>true|.b9,.av _=>true|.av _,.b9=>true|.b9,.str _=>true|.str _,.b9=>true
 |.int _,.int _=>true|.av _,.av _=>true|.str _,.str _=>true|.p8 _,.p8 _=>true
 |.int _,.str _=>true|.str _,.int _=>true|.av _,.str _=>true|.str _,.av _=>true
 |_,_=>false
def apA:su:=fun x y H Q=>ac0 x y=true/\Q (.av (decide (x=y))) H
def apI:su:=fun x y H Q=>ac0 x y=true/\Q (.av (!decide (x=y))) H
theorem VV{i j:Int}:decide (aa.int i=aa.int j)=(i==j):=by
 rw[Bool.eq_iff_iff];simp
theorem VT{i j:Bool}:decide (aa.av i=aa.av j)=(i==j):=by
 rw[Bool.eq_iff_iff];simp
theorem VW{i j:Str}:decide (aa.str i=aa.str j)=(i==j):=by
 rw[Bool.eq_iff_iff];simp
theorem VU{i j:Array UInt8}:decide (aa.p8 i=aa.p8 j)=(i.toList==j.toList):=by
 rw[Bool.eq_iff_iff];cases i;cases j;simp
section
variable{X:cQ}{a b c:Expr}{eR gk zC:eB}{pos:Pos}
theorem kg{ao:List (Addr×Obj)}{O:St}{H:aA}{s:Shared}{Q:gc}{k fj:Bool}(J:Inv X ao O H s)(q:Q (.av k) H)(e:k=fj):nU X ao O Q (.bool fj) s:=by
 subst e;exact⟨.av k,H,J,z,q⟩
theorem e9:oH X (compareOp .Eq) apA:=by
 intro ao s O H x y v u Q J cO eM h;obtain⟨aL,q⟩:=h;cases x with
 |b9=>
  cases cO;cases y with
  |b9=>cases eM;exact PySem.EqNone.eq_none_none (kg J q (by simp))
  |av j=>cases eM;exact PySem.EqNone.eq_none_bool (kg J q (by simp))
  |int j=>obtain⟨t',rfl⟩:=eM;exact PySem.EqNone.eq_none_int (kg J q (by simp))
  |str j=>obtain⟨t',rfl⟩:=eM;exact PySem.EqNone.eq_none_str (kg J q (by simp))
  |_=>exact absurd (show false=true from aL) oB
 |av i=>
  cases cO;cases y with
  |b9=>cases eM;exact PySem.EqNone.eq_bool_none (kg J q (by simp))
  |av j=>cases eM;exact eq_bool (kg J q VT)
  |str j=>obtain⟨t',rfl⟩:=eM;exact PySem.EqMixed.eq_bool_str (kg J q (by simp))
  |_=>exact absurd (show false=true from aL) oB
 |int i=>
  obtain⟨t,rfl⟩:=cO;cases y with
  |b9=>cases eM;exact PySem.EqNone.eq_int_none (kg J q (by simp))
  |int j=>obtain⟨t',rfl⟩:=eM;exact eq_int (kg J q VV)
  |str j=>obtain⟨t',rfl⟩:=eM;exact PySem.EqMixed.eq_int_str (kg J q (by simp))
  |_=>exact absurd (show false=true from aL) oB
 |str i=>
  obtain⟨t,rfl⟩:=cO;cases y with
  |b9=>cases eM;exact PySem.EqNone.eq_str_none (kg J q (by simp))
  |av j=>cases eM;exact PySem.EqMixed.eq_str_bool (kg J q (by simp))
  |int j=>obtain⟨t',rfl⟩:=eM;exact PySem.EqMixed.eq_str_int (kg J q (by simp))
  |str j=>obtain⟨t',rfl⟩:=eM;exact eq_str (kg J q VW)
  |_=>exact absurd (show false=true from aL) oB
 |p8 i=>
  obtain⟨t,rfl⟩:=cO;cases y with
  |p8 j=>obtain⟨t',rfl⟩:=eM;exact PySem.W.eq_bytes (kg J q VU)
  |_=>exact absurd (show false=true from aL) oB
 |_=>cases y<;>exact absurd (show false=true from aL) oB
theorem ao3:oH X (compareOp .NotEq) apI:=by
 intro ao s O H x y v u Q J cO eM h;obtain⟨aL,q⟩:=h;cases x with
 |b9=>
  cases cO;cases y with
  |b9=>cases eM;exact PySem.EqNone.ne_none_none (kg J q (by simp))
  |av j=>cases eM;exact PySem.EqNone.ne_none_bool (kg J q (by simp))
  |int j=>obtain⟨t',rfl⟩:=eM;exact PySem.EqNone.ne_none_int (kg J q (by simp))
  |str j=>obtain⟨t',rfl⟩:=eM;exact PySem.EqNone.ne_none_str (kg J q (by simp))
  |_=>exact absurd (show false=true from aL) oB
 |av i=>
  cases cO;cases y with
  |b9=>cases eM;exact PySem.EqNone.ne_bool_none (kg J q (by simp))
  |av j=>cases eM;exact ne_bool (kg J q (oA not VT))
  |str j=>obtain⟨t',rfl⟩:=eM;exact PySem.EqMixed.ne_bool_str (kg J q (by simp))
  |_=>exact absurd (show false=true from aL) oB
 |int i=>
  obtain⟨t,rfl⟩:=cO;cases y with
  |b9=>cases eM;exact PySem.EqNone.ne_int_none (kg J q (by simp))
  |int j=>obtain⟨t',rfl⟩:=eM;exact ne_int (kg J q (oA not VV))
  |str j=>obtain⟨t',rfl⟩:=eM;exact PySem.EqMixed.ne_int_str (kg J q (by simp))
  |_=>exact absurd (show false=true from aL) oB
 |str i=>
  obtain⟨t,rfl⟩:=cO;cases y with
  |b9=>cases eM;exact PySem.EqNone.ne_str_none (kg J q (by simp))
  |av j=>cases eM;exact PySem.EqMixed.ne_str_bool (kg J q (by simp))
  |int j=>obtain⟨t',rfl⟩:=eM;exact PySem.EqMixed.ne_str_int (kg J q (by simp))
  |str j=>obtain⟨t',rfl⟩:=eM;exact ne_str (kg J q (oA not VW))
  |_=>exact absurd (show false=true from aL) oB
 |p8 i=>
  obtain⟨t,rfl⟩:=cO;cases y with
  |p8 j=>obtain⟨t',rfl⟩:=eM;exact PySem.W.ne_bytes (kg J q (oA not VU))
  |_=>exact absurd (show false=true from aL) oB
 |_=>cases y<;>exact absurd (show false=true from aL) oB
theorem KD:oH X (compareOp .Lt) (A3 fun i j=>.av (decide (i<j))):=Sd fun _ _ _ _ _ _ _ q=>lt_int q
theorem AW:oH X (compareOp .Gt) (A3 fun i j=>.av (decide (j<i))):=Sd fun _ _ _ _ _ _ _ q=>gt_int q
theorem CH:oH X (compareOp .GtE) (A3 fun i j=>.av (decide (j<=i))):=Sd fun _ _ _ _ _ _ _ q=>ge_int q
theorem aay:oH X (compareOp .Is) (fun x y H Q=>y=.b9/\Q (.av (decide (x=.b9))) H):=by
 intro ao s O H x y v u Q J cO eM h;obtain⟨rfl,q⟩:=h;cases eM;refine is_none_gen (kg J q ?_);cases x<;>first
  |(cases cO;rfl)
  |(obtain⟨t,rfl⟩:=cO;rfl)
theorem dH(b:Expr){op:CmpOp}(h:op≠.In:=by decide)(aj:op≠.NotIn:=by decide):behindInMarks op b=false:=by
 have ay:(op==CmpOp.In)=false:=by cases op<;>first|rfl|exact absurd rfl h
 have aq:(op==CmpOp.NotIn)=false:=by cases op<;>first|rfl|exact absurd rfl aj
 cases b<;>simp[behindInMarks,ay,aq]
theorem aaK{op:CmpOp}{r:su}(aT:oH X (compareOp op) r)(cC:dS X a eR)(ae:dS X b gk)(aM:behindInMarks op b=false):dS X (.Compare a [op] [b] pos) (NV r eR gk):=by
 intro ao s O H Q J h;exact wpAny_Compare1 (ON cC ae J h fun v u bD x y a7 fy cO eM q=>aT ao bD O a7 x y v u Q fy cO eM q) aM
def asY(t:eB):lB:=fun O H Q=>t O H fun x H'=>∃k,x=.av k/\Q k H'
theorem dN{op:CmpOp}{r:su}(aT:oH X (compareOp op) r)(cC:dS X a eR)(ae:dS X b gk)(aM:behindInMarks op b=false):tJ X (.Compare a [op] [b] pos) (asY (NV r eR gk)):=by
 intro ao s O H Q J h;refine wpAny_isTrue_Compare1 (eJ (cC ao s O H _ J h) fun v aU⟨x,aI,bY,fE,aW⟩=>eJ (ae ao aU O aI _ bY aW) fun u bD⟨y,a7,fy,gQ,bf⟩=>
  eJ (aT ao bD O a7 x y v u _ fy fE gQ bf) fun c b4⟨I,bI,lS,uS,k,e,df⟩=>?_) aM
 subst e;cases uS;exact wpAny_truthy_bool ⟨bI,lS,df⟩
def UK(K:Frag)(x:aa)(H:aA)(k:Bool):Prop:=
 match x with
 |.b9=>k=false
 |.av b=>k=b
 |.int i=>k=(i !=0)
 |.str y=>y.length<=sizeLine/\k=((y.length:Int)!=0)
 |.p8 y=>y.size<=sizeLine/\k=((y.size:Int)!=0)
 |.ref p=>(∃xs,bj K H p xs/\k=!xs.isEmpty)\/(∃xs,je K H p xs/\k=!xs.isEmpty)\/∃kvs,H p=some (.vo kvs)/\k=!kvs.isEmpty
 |_=>False
theorem alB{nS:Type}{kvs:List (nS×aa)}{vs:List (nS×Value)}(r:z7 kvs vs):(!vs.isEmpty)=!kvs.isEmpty:=by
 cases r<;>rfl
theorem YB{xs:List aa}{bK:List Value}(r:eS xs bK):(!bK.toArray.isEmpty)=!xs.isEmpty:=by
 cases r<;>simp
theorem Kd:(sizeLine:Nat)<2^63:=by rw[gU];decide
theorem ata:aeW X (fun x H Q=>∃k,UK X.K x H k/\Q k H):=by
 intro ao s O H x v Q J cO h;obtain⟨k,e,q⟩:=h;have aD:=Kd;have aL:sizeLine=16777216:=gU;cases x with
 |b9=>
  cases cO;have c5:k=false:=e;subst c5;exact truthy_none ⟨H,J,q⟩
 |av b=>
  cases cO;have c5:k=b:=e;subst c5;exact wpAny_truthy_bool ⟨H,J,q⟩
 |int i=>
  obtain⟨t,rfl⟩:=cO;have c5:k=(i !=0):=e;subst c5;exact PySem.P.truthy_int ⟨H,J,q⟩
 |str y=>
  obtain⟨t,rfl⟩:=cO;obtain⟨bu,c5⟩:y.length<=sizeLine/\k=((y.length:Int)!=0):=e;subst c5;exact PySem.P.truthy_str (by omega) ⟨H,J.qt _,q⟩
 |p8 y=>
  obtain⟨t,rfl⟩:=cO;obtain⟨bu,c5⟩:y.size<=sizeLine/\k=((y.size:Int)!=0):=e;subst c5;exact PySem.W.truthy_bytes (by omega) ⟨H,J.qt _,q⟩
 |ref p=>
  cases cO;have c5:(∃xs,bj X.K H p xs/\k=!xs.isEmpty)\/(∃xs,je X.K H p xs/\k=!xs.isEmpty)\/∃kvs,H p=some (.vo kvs)/\k=!kvs.isEmpty:=e;rcases c5 with⟨xs,Y,c5⟩|⟨xs,Y,c5⟩|⟨kvs,Y,c5⟩
  .subst c5;obtain⟨bK,r,pl,bR⟩:=J.list Y;have gv:=r.length;exact wpAny_truthy_list pl.isList (by simp only[mj];omega) ⟨H,J.qt _,by rw[YB r];exact q⟩
  .subst c5;obtain⟨bK,r,pl,bR⟩:=J.tuple Y;have gv:=r.length;exact truthy_tuple pl (by simp only[mj];omega) ⟨H,J.qt _,by rw[YB r];exact q⟩
  .subst c5;obtain⟨bR,uI,vs,r,m⟩:kvs.length<=sizeLine/\(p==sysModules)=false/\∃vs,z7 kvs vs/\s.heap.DictOf (xK X.prog X.w) p vs:=J.cG p _ Y;have gv:kvs.length=vs.length:=Paired.length r;exact wpAny_truthy_dict uI m (by omega) ⟨H,J.qt _,by rw[alB r];exact q⟩
 |_=>exact(show False from e).elim
theorem Ni(cC:dS X a eR)(cz:∀whole,isTrue a X.env whole=(do let v<-whole;standAt a.pos;holding [v] (truthy v))):
  tJ X a (fun O H Q=>eR O H fun x H'=>∃k,UK X.K x H' k/\Q k H'):=by
 intro ao s O H Q J h;exact isTrue_plain (eJ (cC ao s O H _ J h) fun v aU⟨x,aI,bY,fE,aW⟩=>ata ao aU O aI x v Q bY fE aW) (cz _)
theorem adL{x:aa}{us:List Value}(r:eS [x] us):∃u,us=[u]/\RelV x u:=by
 cases r with
 |cons fE gQ=>cases gQ;exact⟨_,z,fE⟩
end
structure Bv(h:Heap)(x dx C:Addr)(iK:Str->Option Value):Prop where
 obj:h.get? x=some (instObj C dx)
 ns:h.Ns1 dx iK
 fB:dx≠x
theorem YW{h:Heap}{dx:Addr}{iK:Str->Option Value}(n:h.Ns1 dx iK):∃iX,h.get? dx=some iX/\∀name,lookIn name iX=some (iK name):=by
 obtain⟨o,bX,ig,aT,aG,aJ,_,aM⟩:=n;refine⟨o,aT,fun name=>?_⟩;have e:=aM name;unfold nsFind findBy at e;rw[<-Array.find?_toList]at e;unfold lookIn;rw[aG];dsimp only;split
 .rename_i y q;rw[q]at e;exact oA some e
 .rename_i q;rw[q]at e;have a:bX.toList.any (·.refKey)=false:=by
   rw[List.any_eq_false];intro y bu;obtain⟨I,t,akk⟩:=aJ y (Array.mem_toList_iff.mp bu);simp[DictEntry.refKey,akk]
  have aeZ:¬bX.toList.any (·.refKey)=true:=by rw[a];exact oB
  rw[bz aeZ];exact oA some e
theorem Bv.vC{h:Heap}{x dx C:Addr}{iK:Str->Option Value}(J:Bv h x dx C iK):∃iX,PySem.W.InstAt h x (instObj C dx) C (some iX)/\∀name,lookIn name iX=some (iK name):=
 let⟨iX,aT,aD⟩:=YW J.ns
 ⟨iX,⟨J.obj,z,z,aT⟩,aD⟩
section
variable{prog:Program}{w:World}{A:Around}{E:Value->Shared->Prop}{s:Shared}{K:Frag}{x dx C f:Addr}{iK:Str->Option Value}{name:Str}{v:Value}
theorem ai1{ahR:Bool}{Q:Value->Shared->Prop}(X:K.In s.heap)(J:Bv s.heap x dx C iK)(dz:plainGet K C name=true)(ee:hasDictIn K C=true)
  (cC:findIn K (.ref C) name=some none)(a6:iK name=some v)(ak8:handedIn v=true)(h:Q v {s with toks:=s.toks+1}):
  wpAny (model prog w) A (getAttr (.ref x) name ahR) Q E s:=by
 obtain⟨iX,cX,aD⟩:=J.vC;exact PySem.W.get_value X cX (plainGet_of dz).1 (findObj_own ee cC z (by rw[aD,a6])) ak8 h
theorem ai2{pl:Sem Bool}{Q:Value×List Value->Shared->Prop}(X:K.In s.heap)(J:Bv s.heap x dx C iK)(dz:plainGet K C name=true)
  (bq:findIn K (.ref C) name=some (some (.ref f)))(bO:PySem.W.isFn K (.ref f)=true)(a6:iK name=none)(h:Q (.ref f,[.ref x]) s):
  wpAny (model prog w) A (getMethod (.ref x) name pl) Q E s:=by
 obtain⟨iX,cX,aD⟩:=J.vC;exact PySem.W.method_fn X cX (plainGet_of dz).1 (plainGet_of dz).2 bq (beq_iff_eq.mp bO) (by show(lookIn name iX).map (·.isSome)=some false;rw[aD,a6];rfl) h
theorem aqY{ns:List Str}{Q:Unit->Shared->Prop}(X:K.In s.heap)(J:Bv s.heap x dx C iK)
  (aL:findIn K (.ref C) "__setattr__"=some (some (.builtin "object.__setattr__")))(aN:plainOver K C=true)(bO:takerIn K C name=some none)(ee:hasDictIn K C=true)
  (hw:PySem.Within iK ns)(hsz:ns.length<=sizeLine)
  (h:∀h',Bv h' x dx C (fun y=>if y=name then some v else iK y)->Heap.SameBut dx s.heap h'->Q () {s with heap:=h',toks:=s.toks+2}):
  wpAny (model prog w) A (setAttr (.ref x) name v) Q E s:=by
 obtain⟨iX,cX,aD⟩:=J.vC;refine set_plain X cX aL (PySem.W.osa_open (s:={s with toks:=s.toks+1}) (r:=none) X cX aN bO fun b=>?_);obtain⟨dm,aB,gP⟩:=any_some ee;have Y:s.heap.get? x=some ⟨.ref C,some dx,.plain,#[]⟩:=J.obj;refine fO (kJ (fO (fO (wpAny_loadPart Y (fO (PySem.W.Looks.here (s:={s with toks:=s.toks+1}) (PySem.W.looks_clsIn X aB) ?_))))));rw[gP];refine kJ (a:=some dx) (fO (kJ (fO ?_)));refine wpAny_nsSet1 (s:={s with toks:=s.toks+1}) J.ns fun h' kh oY=>?_;obtain⟨au9,auw,auv,akK,aj3,ajY⟩:=kh.count (PySem.Within.cons name v hw);refine fO (wpAny_lookBehind akK (by rw[aj3];exact pastItsLine_dict (i3 ajY (by rw[c9];omega))) ?_);exact kJ (h _ ⟨(oY.2 _ (bC J.fB)).trans J.obj,kh,J.fB⟩ oY)
theorem amg{R:Result->Shared->Prop}{vs:List Value}{kw:List (Str×Value)}(X:K.In s.heap)(aM:makesIn K C=true)
  (aF:findIn K (.ref C) "__init__"=some (some (.ref f)))(bq:typeIn K (.ref f)=some (.type "function"))
  (h:codeAny (model prog w) (A.under (.builtin "type.__call__" ⟨.ref C::vs,kw⟩)) (.call (.ref f) ⟨.ref (s.heap.objs.size+1)::vs,kw⟩) (PySem.W.InitBack (s.heap.objs.size+1) R)
   {s with heap:=(s.heap.push emptyDict).push (instObj C s.heap.objs.size)}):
  codeAny (model prog w) A (.call (.ref C) ⟨vs,kw⟩) R s:=by
 obtain⟨ee,g,d,t,os⟩:=s;exact PySem.W.make_core (PySem.W.makes_of X aM) (PySem.W.looks_findIn X aF) (fun self=>PySem.W.bind_fn X self bq) (.inl z) h
end
def cY(f:Str)(v:aa):List (Str×aa)->List (Str×aa)
 |[]=>[(f,v)]
 |(g,x)::r=>if g=f then(g,v)::r else(g,x)::cY f v r
theorem YX(f g:Str)(v:aa):∀bA:List (Str×aa),(cY f v bA).lookup g=if g=f then some v else bA.lookup g
 |[]=>by
  show List.lookup g [(f,v)]=_;by_cases h:g=f
  .have ae:(g==f)=true:=beq_iff_eq.mpr h;simp only[List.lookup,ae,bT h]
  .have ae:(g==f)=false:=E8.mpr h;simp only[List.lookup,ae,bz h]
 |(k,x)::r=>by
  have eL:=YX f g v r;rw[show cY f v ((k,x)::r)=(if k=f then(k,v)::r else(k,x)::cY f v r)from rfl];by_cases aJ:k=f
  .rw[bT aJ];by_cases h:g=k
   .have ae:(g==k)=true:=beq_iff_eq.mpr h;simp only[List.lookup,ae,bT (h.trans aJ)]
   .have ae:(g==k)=false:=E8.mpr h;simp only[List.lookup,ae,bz (fun e:g=f=>h (e.trans aJ.symm))]
  .rw[bz aJ];by_cases h:g=k
   .have ae:(g==k)=true:=beq_iff_eq.mpr h;simp only[List.lookup,ae,bz (fun e:g=f=>aJ (h.symm.trans e))]
   .have ae:(g==k)=false:=E8.mpr h;simp only[List.lookup,ae];exact eL
theorem Rc(f:Str)(v:aa):∀bA:List (Str×aa),f∈(cY f v bA).map (·.1)/\∀g,g∈bA.map (·.1)->g∈(cY f v bA).map (·.1)
 |[]=>⟨by simp[cY],fun g h=>by simp at h⟩
 |(k,x)::r=>by
  obtain⟨ej,c6⟩:=Rc f v r;rw[show cY f v ((k,x)::r)=(if k=f then(k,v)::r else(k,x)::cY f v r)from rfl];by_cases aJ:k=f
  .rw[bT aJ];subst aJ;exact⟨by simp,fun g h=>by simpa using h⟩
  .rw[bz aJ];refine⟨?_,fun g h=>?_⟩
   .rw[j6];exact gz _ ej
   .rw[j6]at h⊢;rcases dG.mp h with e|e
    .exact dG.mpr (.inl e)
    .exact gz _ (c6 g e)
theorem Rf(f:Str)(v:aa):∀bA:List (Str×aa),(cY f v bA).length<=bA.length+1
 |[]=>by simp[cY]
 |(k,x)::r=>by
  have eL:=Rf f v r;rw[show cY f v ((k,x)::r)=(if k=f then(k,v)::r else(k,x)::cY f v r)from rfl];by_cases aJ:k=f
  .rw[bT aJ,c9,c9];omega
  .rw[bz aJ,c9,c9];omega
theorem rj.Tn{v:aa}{o:Option Value}(r:rj (some v) o):∃u,o=some u/\RelV v u:=by
 cases o with
 |none=>exact(show False from r).elim
 |some u=>exact⟨u,z,r⟩
theorem rj.anV{o:Option Value}(r:rj none o):o=none:=by
 cases o with
 |none=>rfl
 |some u=>exact(show False from r).elim
theorem Xz{v:aa}{u:Value}(r:RelV v u):handedIn u=true:=by
 cases v with
 |b9=>cases(show u=Value.none from r);rfl
 |av b=>cases(show u=Value.bool b from r);rfl
 |int i=>obtain⟨t,e⟩:=(show ∃t,u=Value.int i t from r);cases e;rfl
 |str x=>obtain⟨t,e⟩:=(show ∃t,u=Value.str x t from r);cases e;rfl
 |p8 b=>obtain⟨t,e⟩:=(show ∃t,u=Value.bytes b t from r);cases e;rfl
 |jn b=>obtain⟨t,e⟩:=(show ∃t,u=Value.float b t from r);cases e;rfl
 |ref a=>cases(show u=Value.ref a from r);rfl
 |jx n=>cases(show u=Value.type n from r);rfl
section
variable{P:Program}{w:World}{H H':aA}{h h':Heap}{a C dx:Addr}{bA Js:List (Str×aa)}
theorem Eb(cG:jW P w H h)(e:H a=some (.au C dx bA)):∃iK,Bv h a dx C iK/\(∀f,rj (bA.lookup f) (iK f))/\PySem.Within iK (bA.map (·.1))/\bA.length<=1000/\H dx=some (.own a):=by
 obtain⟨d,I,fB,cD,iK,n,r,q⟩:=(show jP P w H h a (.au C dx bA)from cG a _ e);exact⟨iK,⟨cD,n,fB⟩,r,q,I,d⟩
end
structure lP(K:Frag)(C:Addr):Prop where
 fR:plainGet K C Str.empty=true
 aG:hasDictIn K C=true
 xT:plainOver K C=true
 iM:findIn K (.ref C) "__setattr__"=some (some (.builtin "object.__setattr__"))
theorem lP.get{K:Frag}{C:Addr}(c:lP K C)(f:Str):plainGet K C f=true:=c.fR
def gD(K:Frag)(C:Addr)(f:Str):Prop:=findIn K (.ref C) f=some none
theorem gD.as4{K:Frag}{C:Addr}{f:Str}(n:gD K C f):takerIn K C f=some none:=by
 unfold takerIn;rw[show findIn K (.ref C) f=some none from n];rfl
structure kL(K:Frag)(C:Addr)(m:Str)(f:Addr):Prop where
 at_:findIn K (.ref C) m=some (some (.ref f))
 fn:PySem.W.isFn K (.ref f)=true
 cN:keepIn K (.ref f)=true
section
variable{X:cQ}{ao:List (Addr×Obj)}{O:St}{H:aA}{s:Shared}{a C dx:Addr}{bA:List (Str×aa)}{f:Str}{v:aa}{A:Around}{E:Value->Shared->Prop}
theorem ai3{b:Bool}{Q:Value->Shared->Prop}(J:Inv X ao O H s)(e:H a=some (.au C dx bA))(c:lP X.K C)(n:gD X.K C f)(l:bA.lookup f=some v)
  (h:∀u aZ,Inv X ao O H aZ->RelV v u->Q u aZ):wpAny (model X.prog X.w) A (getAttr (.ref a) f b) Q E s:=by
 obtain⟨iK,fY,r,_,_,_⟩:=Eb J.cG e;obtain⟨u,ck,o9⟩:=rj.Tn (v:=v) (o:=iK f) (by rw[<-l];exact r f);exact ai1 J.iU fY (c.get f) c.aG n ck (Xz o9) (h u _ (J.qt _) o9)
theorem PT{m:Str}{g:Addr}{pl:Sem Bool}{Q:Value×List Value->Shared->Prop}(J:Inv X ao O H s)(e:H a=some (.au C dx bA))(c:lP X.K C)(k:kL X.K C m g)(l:bA.lookup m=none)
  (h:Q (.ref g,[.ref a]) s):wpAny (model X.prog X.w) A (getMethod (.ref a) m pl) Q E s:=by
 obtain⟨iK,fY,r,_,_,_⟩:=Eb J.cG e;have br:iK m=none:=rj.anV (by rw[<-l];exact r m);exact ai2 J.iU fY (c.get m) k.at_ k.fn br h
theorem aqZ{y:aa}{u:Value}{Q:Unit->Shared->Prop}(J:Inv X ao O H s)(e:H a=some (.au C dx bA))(c:lP X.K C)(n:gD X.K C f)(aD:bA.length<1000)(eM:RelV y u)
  (h:∀aZ,Inv X ao O (V H a (.au C dx (cY f y bA))) aZ->Q () aZ):wpAny (model X.prog X.w) A (setAttr (.ref a) f u) Q E s:=by
 obtain⟨iK,fY,r,ow,_,aT⟩:=Eb J.cG e;have bR:(bA.map (·.1)).length<=sizeLine:=by rw[cA,gU];omega
 refine aqY J.iU fY c.iM c.xT n.as4 c.aG ow bR fun h' Ow iZ=>h _ ?_;have aG:∃o,h'.get? dx=some o:=let⟨o,_,_,c5,_⟩:=Ow.ns;⟨o,c5⟩;refine J.zG (x:=a) (e:=dx) (by rw[e];exact True.intro) (.inr aT) (fun b q ae I=>(iZ.2 b ae).trans I) aG ?_;refine⟨by rw[aK fY.fB];exact aT,?_,fY.fB,Ow.obj,_,Ow.ns,fun g=>?_,fun g dz=>?_⟩
 .have:=Rf f y bA;omega
 .show rj ((cY f y bA).lookup g) (if g=f then some u else iK g);rw[YX];by_cases q:g=f
  .rw[bT q,bT q];exact eM
  .rw[bz q,bz q];exact r g
 .by_cases q:g=f
  .rw[q];exact(Rc f y bA).1
  .refine(Rc f y bA).2 g (ow g fun I=>dz ?_);show(if g=f then some u else iK g)=none;rw[bz q];exact I
theorem Inv.made(J:Inv X ao O H s):Inv X ao O (V (V H s.heap.objs.size (.own (s.heap.objs.size+1))) (s.heap.objs.size+1) (.au C s.heap.objs.size []))
  {s with heap:=(s.heap.push emptyDict).push (instObj C s.heap.objs.size)}:=by
 have ay:(s.heap.push emptyDict).get? s.heap.objs.size=some emptyDict:=vW s.heap z;have aq:((s.heap.push emptyDict).push (instObj C s.heap.objs.size)).get? (s.heap.objs.size+1)=some (instObj C s.heap.objs.size):=by
  have:=vW (s.heap.push emptyDict) (o:=instObj C s.heap.objs.size) z;rwa[wU]at this
 have bB:(s.heap.push emptyDict).Ns s.heap.objs.size (fun _=>none):=⟨emptyDict,#[],_,ay,z,(fun e cz=>absurd cz (by simp)),fun _=>rfl⟩;have bY:=J.i9 (a:=s.heap.objs.size) (o:=.own (s.heap.objs.size+1)) (h':=s.heap.push emptyDict) (t':=s.toks) (fun b u q=>ph _ q) (dW _) ⟨_,ay⟩;refine bY.i9 (a:=s.heap.objs.size+1) (o:=.au C s.heap.objs.size []) (t':=s.toks) (fun b u q=>ph _ q) (le_of_eq (wU _ _)) ?_;have fB:s.heap.objs.size≠s.heap.objs.size+1:=pn (Nat.lt_succ_self _);refine⟨by rw[aK fB,aP],jV _,fB,aq,fun _=>none,(Heap.Ns1.of_empty bB).at fun o q=>ph _ q,fun _=>True.intro,fun y bu=>absurd z bu⟩
theorem UY{prog:Program}{w:World}{env:Env}{e:Expr}{f:Str}{pos:Pos}{s:Shared}{Q:Value->Shared->Prop}(ae:attributeBase e f env (eval e env)=eval e env)
  (h:wpAny (model prog w) A (eval e env) (fun o gJ=>wpAny (model prog w) A (getAttr o f true) Q E gJ) E s):wpAny (model prog w) A (eval (.Attribute e f pos) env) Q E s:=
 Attribute_any_ h (by rw[arm_eval_Attribute,ae])
end
def TF(K:Frag)(eR:eB)(f:Str):eB:=fun O H Q=>eR O H fun x aI=>∃a C dx bA v,x=.ref a/\aI a=some (.au C dx bA)/\lP K C/\gD K C f/\bA.lookup f=some v/\Q v aI
def abl(K:Frag)(eR l9:eB)(f:Str):g5:=fun D O H=>l9 O H fun y aI=>eR O aI fun x a7=>∃a C dx bA,x=.ref a/\a7 a=some (.au C dx bA)/\lP K C/\gD K C f/\bA.length<1000/\
 D.dF O (V a7 a (.au C dx (cY f y bA)))
section
variable{X:cQ}{o e value:Expr}{f:Str}{pos uR NX:Pos}{eR l9:eB}
theorem bG(cz:dS X e eR)(ae:attributeBase e f X.env (eval e X.env)=eval e X.env):dS X (.Attribute e f pos) (TF X.K eR f):=by
 intro ao s O H Q J h;refine UY ae (eJ (cz ao s O H _ J h) fun u aU⟨x,aI,bY,cO,a,C,dx,bA,v,ex,ng,c,n,l,q⟩=>?_);subst ex;obtain rfl:u=Value.ref a:=cO;exact ai3 bY ng c n l fun zD bD fy o9=>⟨v,aI,fy,o9,q⟩
theorem f5(cC:dS X o eR)(a6:dS X value l9)(aL:swapsWith value (some (.Attribute o f uR)) pos.line X.env=pure false):ri X (.Assign [.Attribute o f uR] value pos) (abl X.K eR l9 f):=by
 intro ao s O H D J h;refine plainObj_wpAny_Assign_Attribute (eJ (a6 ao s O H _ J h) fun u aU⟨y,aI,bY,eM,q⟩=>eJ (cC ao aU O aI _ bY q) fun lq bD⟨x,a7,fy,cO,a,C,dx,bA,ex,ng,c,n,l,bf⟩=>?_) aL;subst ex;obtain rfl:lq=Value.ref a:=cO;exact aqZ fy ng c n l eM fun b4 lS=>⟨O,_,lS,bf⟩
theorem au1{pl:Sem Bool}{m:Str}{sD:Pos}{args:List Expr}{ao:List (Addr×Obj)}{s:Shared}{O:St}{H:aA}{Q:Value->Shared->Prop}{te:eB}(cz:dS X e te)(J:Inv X ao O H s)
  (h:te O H fun x aI=>∃a C dx bA g,x=.ref a/\aI a=some (.au C dx bA)/\lP X.K C/\kL X.K C m g/\bA.lookup m=none/\
   ∀aU,Inv X ao O aI aU->wpAny (model X.prog X.w) X.A (callWith pos (.ref g) [.ref a] (backTo pos (starEach args X.env)) (backToKw pos (keywordEach [] X.env))) Q X.fJ aU)
  (bO:eval (.Call (.Attribute e m sD) args [] pos) X.env=(do
   let lq<-eval e X.env
   standAt sD.atName
   let(f,first)<-holding [lq] (getMethod lq m pl)
   callWith pos f first (backTo pos (starEach args X.env)) (backToKw pos (keywordEach [] X.env)))):
  wpAny (model X.prog X.w) X.A (eval (.Call (.Attribute e m sD) args [] pos) X.env) Q X.fJ s:=by
 refine methodCall_KW (pl:=pl) (eJ (cz ao s O H _ J h) fun u aU⟨x,aI,bY,cO,a,C,dx,bA,g,ex,ng,c,k,l,q⟩=>?_) bO;subst ex;obtain rfl:u=Value.ref a:=cO;exact PT bY ng c k l (q aU bY)
end
section
variable{X:cQ}{ao:List (Addr×Obj)}{O:St}{H:aA}{s:Shared}{A:Around}{E:Value->Shared->Prop}{Q:Value->Shared->Prop}{c:Value}{b:Bool}
inductive vh(K:Frag)(H:aA):aa->Value->Prop where
 |b9:vh K H .b9 (.type "NoneType")
 |av (x:Bool):vh K H (.av x) (.type "bool")
 |int (i:Int):vh K H (.int i) (.type "int")
 |str (x:Str):vh K H (.str x) (.type "str")
 |jn (x:UInt64):vh K H (.jn x) (.type "float")
 |ak {a:Addr} {xs:List aa} (e:H a=some (.ak xs)):vh K H (.ref a) (.type "list")
 |mO {a:Addr} {o:Obj} {xs:List aa} (e:H a=some (.mO o (.ak xs))):vh K H (.ref a) (.type "list")
 |dD {a:Addr} {xs:List aa} (e:H a=some (.dD xs)):vh K H (.ref a) (.type "tuple")
 |vo {a:Addr} {kvs:List (kK×aa)} (e:H a=some (.vo kvs)):vh K H (.ref a) (.type "dict")
 |xm {a:Addr} {kvs:List (List kK×aa)} (e:H a=some (.xm kvs)):vh K H (.ref a) (.type "dict")
 |au {a C dx:Addr} {bA:List (Str×aa)} (e:H a=some (.au C dx bA)) (cl:lP K C) (cC:findIn K (.ref C) "__class__"=some (some (.builtin "object.__class__")))
   (br:specialIn K (.builtin "object.__class__") "__get__"=some (some (.builtin "getset_descriptor.__get__"))) (xE:takesIn K (.builtin "object.__class__")=some true)
   (aM:mroIn K C (.type "object")=some true):vh K H (.ref a) (.ref C)
theorem YC{x:aa}{u t:Value}(J:Inv X ao O H s)(cO:RelV x u)(jx:vh X.K H x t)(e:kitOne X.K t c=some b)(h:∀tk,Q (.bool b) {s with toks:=tk}):
  wpAny (model X.prog X.w) A (call (.builtin "isinstance") [u,c]) Q E s:=by
 cases jx with
 |b9=>cases(show u=Value.none from cO);exact yg PySem.W.kitx_none J.iU True.intro e (fun I=>nomatch I) h
 |av y=>cases(show u=Value.bool y from cO);exact yg PySem.W.kitx_bool J.iU True.intro e (fun I=>nomatch I) h
 |int i=>obtain⟨t,q⟩:=(show ∃t,u=Value.int i t from cO);cases q;exact yg PySem.W.kitx_int J.iU True.intro e (fun I=>nomatch I) h
 |str y=>obtain⟨t,q⟩:=(show ∃t,u=Value.str y t from cO);cases q;exact yg PySem.W.kitx_str J.iU True.intro e (fun I=>nomatch I) h
 |jn y=>obtain⟨t,q⟩:=(show ∃t,u=Value.float y t from cO);cases q;exact yg PySem.W.kitx_float J.iU True.intro e (fun I=>nomatch I) h
 |@ak a xs ng=>
  cases(show u=Value.ref a from cO);obtain⟨_,_,n,_,ai⟩:=(show jP X.prog X.w H s.heap a (.ak xs)from J.cG a _ ng);exact yg kitx_list J.iU ⟨_,ai,z⟩ e (fun I=>nomatch I) h
 |@mO a cD xs ng=>
  cases(show u=Value.ref a from cO);obtain⟨_,_,_,n,_,ai⟩:=(show jP X.prog X.w H s.heap a (.mO cD (.ak xs))from J.cG a _ ng);exact yg kitx_list J.iU ⟨_,ai,z⟩ e (fun I=>nomatch I) h
 |@dD a xs ng=>
  cases(show u=Value.ref a from cO);obtain⟨_,_,_,p⟩:=(show jP X.prog X.w H s.heap a (.dD xs)from J.cG a _ ng);obtain⟨o,ai,aj,_⟩:=p;exact yg PySem.W.kitx_tuple J.iU ⟨o,ai,aj⟩ e (fun I=>nomatch I) h
 |@vo a kvs ng=>
  cases(show u=Value.ref a from cO);obtain⟨_,_,vs,_,p⟩:=(show jP X.prog X.w H s.heap a (.vo kvs)from J.cG a _ ng);obtain⟨o,bX,ig,ai,aj,_⟩:=p;exact yg kitx_dict J.iU ⟨o,ai,aj.1⟩ e (fun I=>nomatch I) h
 |@xm a kvs ng=>
  cases(show u=Value.ref a from cO);obtain⟨_,_,xs,_,o,bX,ig,ai,aj,_⟩:=(show jP X.prog X.w H s.heap a (.xm kvs)from J.cG a _ ng);exact yg kitx_dict J.iU ⟨o,ai,aj.1⟩ e (fun I=>nomatch I) h
 |@au a C dx bA ng cl cC br xE aM=>
  cases(show u=Value.ref a from cO);obtain⟨iK,fY,_⟩:=Eb J.cG ng;obtain⟨iX,cX,_⟩:=fY.vC;exact yg (PySem.W.kitx_own (cl.get _) cl.aG cC br xE aM) J.iU cX e (fun I=>nomatch I) h
end
structure kM(k:Nat)(A:Around):Prop where
 aG:A.handled=none
 eE:A.depth+3*k+5<recursionLimit
 fu:A.units+16*k+200<cLine
theorem kM.c7{j k:Nat}{A:Around}(r:kM k A)(h:j<=k):kM j A:=⟨r.aG,by have:=r.eE;omega,by have:=r.fu;omega⟩
theorem kM.dw{j k:Nat}{A:Around}(r:kM k A)(h:j<=k:=by decide):kM j A:=r.c7 h
theorem kM.deeper{k:Nat}{A:Around}(r:kM (k+1) A)(env:Env):kM k (A.deeper env):=
 ⟨r.aG,by have:=r.eE;show A.depth+1+3*k+5<_;omega,by have:=r.fu;show A.units+3+16*k+200<_;omega⟩
theorem amf{A:Around}{C:Addr}{us:List Value}{kw:List (Str×Value)}:(A.under (.builtin "type.__call__" ⟨.ref C::us,kw⟩)).depth=A.depth+1:=by
 first|rfl|simp[Around.under,Code.weight,Code.isCreation,Code.isGuard,Code.isCaller,Code.frames,Code.isFrame,auz]
theorem amh{A:Around}{C:Addr}{us:List Value}{kw:List (Str×Value)}:(A.under (.builtin "type.__call__" ⟨.ref C::us,kw⟩)).units=A.units+1:=by
 first|rfl|simp[Around.under,Code.cUnits,Code.frames,Code.isFrame]
theorem kM.make{k:Nat}{A:Around}(r:kM (k+1) A)(C:Addr)(us:List Value)(kw:List (Str×Value)):kM k (A.under (.builtin "type.__call__" ⟨.ref C::us,kw⟩)):=
 ⟨r.aG,by have:=r.eE;rw[amf];omega,by have:=r.fu;rw[amh];omega⟩
theorem kM.depth{k:Nat}{A:Around}(r:kM k A):A.depth<recursionLimit:=by have:=r.eE;omega
def NU:nY:=fun _ H Q=>Q [] H
def ads(eR:eB)(iV:nY):nY:=fun O H Q=>eR O H fun x aI=>iV O aI fun xs a7=>Q (x::xs) a7
section
variable{X:cQ}{e:Expr}{bX:List Expr}{te:eB}{t:nY}{pos:Pos}
theorem aY:tI X [] NU:=fun _ _ _ _ H Q J h=>Calls.spliced_nil ⟨[],H,J,.nil,h⟩
theorem aE(cC:dS X e te)(aO:tI X bX t)(aL:starEach (e::bX) X.env=(false,eval e X.env)::starEach bX X.env:=by rfl):tI X (e::bX) (ads te t):=by
 intro pos ao s O H Q J h;rw[aL];show wpAny _ _ (spliced ((false,eval e X.env)::backTo pos (starEach bX X.env))) _ _ s;refine Calls.spliced_cons (eJ (cC ao s O H _ J h) fun u aU⟨x,aI,bY,fE,aW⟩=>?_);exact eJ (aO pos ao aU O aI _ bY aW) fun us bD⟨xs,a7,fy,gQ,bf⟩=>⟨x::xs,a7,fy,.cons fE gQ,bf⟩
def as1(t:nY):eB:=fun O H Q=>t O H fun xs aI=>xs.length<=sizeLine/\∀p,aI p=none->Q (.ref p) (V aI p (.dD xs))
def asN(t:nY):eB:=fun O H Q=>t O H fun xs aI=>xs.length<=sizeLine/\∀p,aI p=none->Q (.ref p) (V aI p (.ak xs))
theorem qO{bk}(h:tI X bX t):dS X (.Tuple bX bk pos) (as1 t):=by
 intro ao s O H Q J a9;refine wpAny_Tuple_spliced (eJ (h pos ao s O H _ J a9) fun us aU⟨xs,aI,bY,r,I,q⟩=>⟨by rw[<-r.length];exact I,?_⟩);have bq:aI aU.heap.objs.size=none:=bY.cG.fresh (dW _);refine⟨.ref aU.heap.objs.size,V aI aU.heap.objs.size (.dD xs),bY.i9 (t':=aU.toks) (fun b u e=>ph _ e) (dW _) ?_,z,q _ bq⟩;exact⟨I,us,r,⟨_,vW _ z,z,_,z⟩⟩
theorem gx(h:tI X bX t):dS X (.List bX pos) (asN t):=by
 intro ao s O H Q J a9;refine wpAny_List_spliced (eJ (h pos ao s O H _ J a9) fun us aU⟨xs,aI,bY,r,I,q⟩=>⟨by rw[<-r.length];exact I,?_⟩);have bq:aI aU.heap.objs.size=none:=bY.cG.fresh (dW _);refine⟨.ref aU.heap.objs.size,V aI aU.heap.objs.size (.ak xs),bY.i9 (t':=aU.toks) (fun b u e=>ph _ e) (dW _) ?_,z,q _ bq⟩;exact⟨I,us,0,r,vW _ z⟩
end
abbrev dj:=List aa->aA->gc->jQ->Prop
abbrev u5:=List Env->aA->Shared->jQ->Value->Shared->Prop
structure Bp(P:Program)(w:World)(K:Frag)(az:Str->Option Value)(base:Heap)(A:Around)(outer:List Env)(s:Shared)(H:aA):Prop where
 frames:A.frames=some outer
 mod:Mod K az base
 bs:∀b o,base.get? b=some o->s.heap.get? b=some o/\H b=none
 wh:base.objs.size<=s.heap.objs.size
 qd:s.heap.FunFrames base outer
 Aq:∀b∈iI outer,H b=none
 cG:jW P w H s.heap
 jY:AllBare s.gens
def Oc(outer:List Env)(P:Program)(w:World)(H:aA)(s:Shared)(Q:gc)(u:Value)(aZ:Shared):Prop:=
 ∃v H',aZ.os=s.os/\AllBare aZ.gens/\kc (iI outer) [] H H' s.heap aZ.heap/\jW P w H' aZ.heap/\RelV v u/\Q v H'
def mo(g4:u5)(outer:List Env)(P:Program)(w:World)(H:aA)(s:Shared)(Q:gc)(E:jQ)(r:Result)(aZ:Shared):Prop:=
 match r with
 |.ok (.ret u)=>Oc outer P w H s Q u aZ
 |.ok _=>False
 |.error e=>g4 outer H s E e aZ
structure cZ(P:Program)(w:World)(K:Frag)(az:Str->Option Value)(base:Heap)(g4:u5)(k:Nat)(f:Addr)(gO:FuncData)(ps:List Str)(sp:dj):Prop where
 len:∀vs H Q E,sp vs H Q E->vs.length=ps.length
 run:∀(A:Around)(outer:List Env)(s:Shared)(H:aA)(args:Args)(us:List Value)(vs:List aa)(Q:gc)(E:jQ),kM k A->Bp P w K az base A outer s H->BindsTo s gO args (ps.zip us)->eS vs us->sp vs H Q E->
  codeAny (model P w) A (.call (.ref f) args) (mo g4 outer P w H s Q E) s
theorem Bp.make{P:Program}{w:World}{K:Frag}{az:Str->Option Value}{base:Heap}{A:Around}{outer:List Env}{s:Shared}{H:aA}(e:Bp P w K az base A outer s H)(C:Addr)(us:List Value)(kw:List (Str×Value)):
  Bp P w K az base (A.under (.builtin "type.__call__" ⟨.ref C::us,kw⟩)) outer s H:=⟨by first|exact e.frames|(simpa[Around.under,Code.envs,Code.isFrame,avf]using e.frames),e.mod,e.bs,e.wh,e.qd,e.Aq,e.cG,e.jY⟩
section
variable{X:cQ}{ao:List (Addr×Obj)}{O:St}{H:aA}{s aZ:Shared}
theorem Inv.Ph(J:Inv X ao O H s):Bp X.prog X.w X.K X.az X.base X.A X.stack s H:=
 ⟨J.ok.frames,J.ok.mod,J.bs,i3 J.ok.wh J.qq,J.stack,J.NR,J.cG,J.jY⟩
theorem Inv.after{Q:gc}{u:Value}(J:Inv X ao O H s)(h:Oc X.stack X.prog X.w H s Q u aZ):nU X ao O Q u aZ:=by
 obtain⟨v,H',os,jY,fu,cG,r,q⟩:=h;obtain⟨ee,g,d,t,ao7⟩:=aZ;obtain rfl:ao7=s.os:=os;exact⟨v,H',J.call (h':=ee) (g':=g) (d':=d) (t':=t) (ch:=[]) fu cG jY (fun b I=>absurd I (by simp)),r,q⟩
end
def asG(sp:dj)(nc:List aa)(E:jQ)(t:nY):eB:=fun O H Q=>t O H fun vs aI=>sp (vs++nc) aI Q E
def adu(C:Addr)(m:Str)(sp:dj)(nc:List aa)(E:jQ)(eR:eB)(t:nY):eB:=fun O H Q=>eR O H fun x aI=>∃a dx bA,x=.ref a/\aI a=some (.au C dx bA)/\bA.lookup m=none/\
 t O aI fun vs a7=>sp (x::(vs++nc)) a7 Q E
def adt(C:Addr)(sp:dj)(nc:List aa)(E:jQ)(t:nY):eB:=fun O H Q=>t O H fun vs aI=>∀x dx,aI x=none->aI dx=none->dx≠x->
 sp (.ref x::(vs++nc)) (V (V aI dx (.own x)) x (.au C dx [])) (fun v a7=>v=.b9/\Q (.ref x) a7) E
def Binds(K:Frag)(gO:FuncData)(ps:List Str)(bH:List Value):Prop:=
 ∀(s:Shared)(us:List Value),K.In s.heap->(us++bH).length=ps.length->BindsTo s gO ⟨us,[]⟩ (ps.zip (us++bH))
theorem Binds.all{K:Frag}{gO:FuncData}{ps:List Str}(h:∀us:List Value,us.length=ps.length->bindArgs gO ⟨us,[]⟩=pure (ps.zip us)):Binds K gO ps []:=fun s us _ aD=>by
 rw[zI]at aD⊢;exact .of_eq (h us aD)
def vf(g4:u5)(X:cQ)(E:jQ):Prop:=∀(ao:List (Addr×Obj))(O:St)(H:aA)(s:Shared)(e:Value)(aZ:Shared),Inv X ao O H s->g4 X.stack H s E e aZ->X.fJ e aZ
section
variable{X:cQ}{g4:u5}{k:Nat}{f C:Addr}{gO:FuncData}{ps:List Str}{sp:dj}{nc:List aa}{bH:List Value}{E:jQ}{x m:Str}{p pos sD:Pos}{e o:Expr}{bX:List Expr}{eR:eB}{t:nY}
theorem SV{ao:List (Addr×Obj)}{O:St}{H:aA}{s:Shared}{Q:gc}{us:List Value}{vs:List aa}(F:cZ X.prog X.w X.K X.az X.base g4 k f gO ps sp)(aO:kM k X.A)(ae:Binds X.K gO ps bH)(aG:eS nc bH)(Y:vf g4 X E)
  (J:Inv X ao O H s)(r:eS vs us)(h:sp (vs++nc) H Q E):wpAny (model X.prog X.w) X.A (call (.ref f) us) (nU X ao O Q) X.fJ s:=by
 have gQ:eS (vs++nc) (us++bH):=r.append aG;have aD:(us++bH).length=ps.length:=by rw[<-gQ.length];exact F.len _ _ _ _ h
 refine wpAny_call (codeAny_mono (F.run X.A X.stack s H ⟨us,[]⟩ (us++bH) (vs++nc) Q E aO J.Ph (ae s us J.iU aD) gQ h) fun r aZ a9=>?_);cases r with
 |error e=>exact Y ao O H s e aZ J a9
 |ok i6=>
  cases i6 with
  |ret u=>exact J.after a9
  |next=>exact False.elim a9
  |brk=>exact False.elim a9
  |cont=>exact False.elim a9
theorem fU(F:cZ X.prog X.w X.K X.az X.base g4 k f gO ps sp)(aO:kM k X.A)(dz:qw X x)(aM:X.az x=some (.ref f))(aJ:keepIn X.K (.ref f)=true)(ae:Binds X.K gO ps bH)(aG:eS nc bH)(Y:vf g4 X E)
  (cC:tI X (e::bX) t)(oX:(x==("__debug__":Str))=false:=by decide)(cz:starEach (e::bX) X.env=(false,eval e X.env)::starEach bX X.env:=by rfl)(pM:(backTo pos (starEach bX X.env)).any (·.1)=false:=by rfl):
  dS X (.Call (.Name x p) (e::bX) [] pos) (asG sp nc E t):=by
 intro ao s O H Q J h;refine Lb (zd J dz aM ?_ oX);refine callWith_K (h₀:=X.base) J.ok.mod.Eh aJ (eJ (cC pos ao s O H _ J h) fun us aU⟨vs,aI,bY,r,q⟩=>⟨bY.iU,?_⟩) cz pM;exact SV F aO ae aG Y bY r q
theorem qN{pl:Sem Bool}(cz:dS X o eR)(c:lP X.K C)(aM:kL X.K C m f)(F:cZ X.prog X.w X.K X.az X.base g4 k f gO ps sp)(aO:kM k X.A)(ae:Binds X.K gO ps bH)(aG:eS nc bH)(Y:vf g4 X E)(cC:tI X (e::bX) t)
  (iR:starEach (e::bX) X.env=(false,eval e X.env)::starEach bX X.env:=by rfl)(pM:(backTo pos (starEach bX X.env)).any (·.1)=false:=by rfl)
  (bO:eval (.Call (.Attribute o m sD) (e::bX) [] pos) X.env=(do
   let lq<-eval o X.env
   standAt sD.atName
   let(f,first)<-holding [lq] (getMethod lq m pl)
   callWith pos f first (backTo pos (starEach (e::bX) X.env)) (backToKw pos (keywordEach [] X.env))):=by rfl):
  dS X (.Call (.Attribute o m sD) (e::bX) [] pos) (adu C m sp nc E eR t):=by
 intro ao s O H Q J h;refine methodCall_KW (pl:=pl) (eJ (cz ao s O H _ J h) fun u aU⟨x,aI,bY,cO,a,dx,bA,ex,ng,l,q⟩=>?_) bO;subst ex;obtain rfl:u=Value.ref a:=cO;refine PT bY ng c aM l ?_;refine callWith_K (first:=[.ref a]) (h₀:=X.base) J.ok.mod.Eh aM.cN (eJ (cC pos ao aU O aI _ bY q) fun us bD⟨vs,a7,fy,r,bf⟩=>⟨fy.iU,?_⟩) iR pM;exact SV (us:=.ref a::us) (vs:=.ref a::vs) F aO ae aG Y fy (.cons z r) bf
theorem iC{pl:Sem Bool}(cz:dS X o eR)(c:lP X.K C)(aM:kL X.K C m f)(F:cZ X.prog X.w X.K X.az X.base g4 k f gO ps sp)(aO:kM k X.A)(ae:Binds X.K gO ps bH)(aG:eS nc bH)(Y:vf g4 X E)
  (bO:eval (.Call (.Attribute o m sD) [] [] pos) X.env=(do
   let lq<-eval o X.env
   standAt sD.atName
   let(f,first)<-holding [lq] (getMethod lq m pl)
   callWith pos f first (backTo pos (starEach [] X.env)) (backToKw pos (keywordEach [] X.env))):=by rfl):
  dS X (.Call (.Attribute o m sD) [] [] pos) (adu C m sp nc E eR NU):=by
 intro ao s O H Q J h;refine methodCall_KW (pl:=pl) (eJ (cz ao s O H _ J h) fun u aU⟨x,aI,bY,cO,a,dx,bA,ex,ng,l,q⟩=>?_) bO;subst ex;obtain rfl:u=Value.ref a:=cO;refine PT bY ng c aM l ?_;exact callWith_K0 (first:=[.ref a]) bY.iU aM.cN (SV (us:=[.ref a]) (vs:=[.ref a]) F aO ae aG Y bY (.cons z .nil) q)
structure rd(K:Frag)(C f:Addr):Prop where
 ami:makesIn K C=true
 alx:findIn K (.ref C) "__init__"=some (some (.ref f))
 fn:PySem.W.isFn K (.ref f)=true
 cN:keepIn K (.ref C)=true
theorem abi{ao:List (Addr×Obj)}{O:St}{H:aA}{s:Shared}{Q:gc}{us:List Value}{vs:List aa}(M:rd X.K C f)(F:cZ X.prog X.w X.K X.az X.base g4 k f gO ps sp)(aO:kM (k+1) X.A)(ae:Binds X.K gO ps bH)(aG:eS nc bH)
  (Y:vf g4 X E)(J:Inv X ao O H s)(r:eS vs us)
  (h:∀x dx,H x=none->H dx=none->dx≠x->sp (.ref x::(vs++nc)) (V (V H dx (.own x)) x (.au C dx [])) (fun v a7=>v=.b9/\Q (.ref x) a7) E):
  wpAny (model X.prog X.w) X.A (call (.ref C) us) (nU X ao O Q) X.fJ s:=by
 have a9:=h (s.heap.objs.size+1) s.heap.objs.size (J.cG.fresh (Nat.le_succ _)) (J.cG.fresh (dW _)) (pn (Nat.lt_succ_self _));have fy:=Inv.made (C:=C) J;have gQ:eS (aa.ref (s.heap.objs.size+1)::(vs++nc)) (Value.ref (s.heap.objs.size+1)::(us++bH)):=.cons z (r.append aG);have aD:(Value.ref (s.heap.objs.size+1)::us++bH).length=ps.length:=by
  have e:=gQ.length;rw[F.len _ _ _ _ a9]at e;exact e.symm
 refine wpAny_call (amg (f:=f) J.iU M.ami M.alx (beq_iff_eq.mp M.fn) (codeAny_mono (F.run _ X.stack _ _ ⟨Value.ref (s.heap.objs.size+1)::us,[]⟩ (Value.ref (s.heap.objs.size+1)::(us++bH)) _ _ E (aO.make C us [])
  (fy.Ph.make C us []) (ae _ (Value.ref (s.heap.objs.size+1)::us) fy.iU aD) gQ a9) fun r aZ qJ=>?_))
 cases r with
 |error e=>exact Y ao O _ _ e aZ fy qJ
 |ok i6=>
  cases i6 with
  |ret u=>
   obtain⟨v,H',lS,ia,yG,df⟩:=fy.after qJ;subst yG;exact⟨ia,⟨aa.ref (s.heap.objs.size+1),H',lS,z,df⟩⟩
  |next=>exact False.elim qJ
  |brk=>exact False.elim qJ
  |cont=>exact False.elim qJ
theorem mE(M:rd X.K C f)(F:cZ X.prog X.w X.K X.az X.base g4 k f gO ps sp)(aO:kM (k+1) X.A)(dz:qw X x)(aM:X.az x=some (.ref C))(ae:Binds X.K gO ps bH)(aG:eS nc bH)(Y:vf g4 X E)
  (cC:tI X (e::bX) t)(oX:(x==("__debug__":Str))=false:=by decide)(cz:starEach (e::bX) X.env=(false,eval e X.env)::starEach bX X.env:=by rfl)(pM:(backTo pos (starEach bX X.env)).any (·.1)=false:=by rfl):
  dS X (.Call (.Name x p) (e::bX) [] pos) (adt C sp nc E t):=by
 intro ao s O H Q J h;refine Lb (zd J dz aM ?_ oX);refine callWith_K (h₀:=X.base) J.ok.mod.Eh M.cN (eJ (cC pos ao s O H _ J h) fun us aU⟨vs,aI,bY,r,q⟩=>⟨bY.iU,?_⟩) cz pM;exact abi M F aO ae aG Y bY r q
theorem apd(M:rd X.K C f)(F:cZ X.prog X.w X.K X.az X.base g4 k f gO ps sp)(aO:kM (k+1) X.A)(dz:qw X x)(aM:X.az x=some (.ref C))(ae:Binds X.K gO ps bH)(aG:eS nc bH)(Y:vf g4 X E)
  (oX:(x==("__debug__":Str))=false:=by decide):dS X (.Call (.Name x p) [] [] pos) (adt C sp nc E NU):=by
 intro ao s O H Q J h;refine Lb (zd J dz aM ?_ oX);exact callWith_K0 J.iU M.cN (abi (us:=[]) M F aO ae aG Y J .nil h)
end
structure dP(N P:List Str)(sc:Scope):Prop where
 kind:sc.kind=.function
 agP:sc.isCoroutine=false
 PS:sc.isGenerator=false
 aH:N.Nodup
 pre:N.take P.length=P
 aaH:∀x∈P,sc.names.lookup x=some .local\/sc.names.lookup x=some .cell
 anT:∀y∈sc.names,y.2≠.free
theorem Vq{kindOf:Str->Option NameKind}{x:Str}:∀{Dz:List (Str×Value)}{m:Str->Option Value},(∀v,(x,v)∉Dz)->bindL kindOf Dz m x=m x
 |[],_,_=>rfl
 |(n,v)::r,m,h=>by
  unfold bindL;rw[Vq fun w hw=>h w (gz _ hw)];split
  .have:x≠n:=by rintro rfl;exact h v iO
   simp[this]
  .rfl
theorem Vo{kindOf:Str->Option NameKind}{x:Str}:∀{Dz:List (Str×Value)}{m:Str->Option Value},(∀v,(x,v)∉Dz)->bindC kindOf Dz m x=m x
 |[],_,_=>rfl
 |(n,v)::r,m,h=>by
  unfold bindC;rw[Vo fun w hw=>h w (gz _ hw)];split
  .rfl
  .have:x≠n:=by rintro rfl;exact h v iO
   simp[this]
theorem Vp{kindOf:Str->Option NameKind}{x:Str}{v:Value}:∀{P:List Str}{vs:List Value}{i:Nat}{m:Str->Option Value},P.Nodup->P[i]?=some x->vs[i]?=some v->kindOf x=some .local->
  bindL kindOf (P.zip vs) m x=some v
 |[],_,_,_,_,h,_,_=>by simp at h
 |_::_,[],_,_,_,_,h,_=>by simp at h
 |p::P,w::vs,0,m,aH,ai,aj,aJ=>by
  simp at ai aj;subst ai;subst aj;show bindL kindOf ((p,w)::P.zip vs) m p=_;unfold bindL;rw[Vq fun v a6=>(um.mp aH).1 (of_mem_zip a6).1,bT aJ];simp
 |p::P,w::vs,i+1,m,aH,ai,aj,aJ=>by
  show bindL kindOf ((p,w)::P.zip vs) m x=_;unfold bindL;exact Vp (i:=i) (um.mp aH).2 (by simpa using ai) (by simpa using aj) aJ
theorem Vn{kindOf:Str->Option NameKind}{x:Str}{v:Value}:∀{P:List Str}{vs:List Value}{i:Nat}{m:Str->Option Value},P.Nodup->P[i]?=some x->vs[i]?=some v->kindOf x≠some .local->
  bindC kindOf (P.zip vs) m x=some v
 |[],_,_,_,_,h,_,_=>by simp at h
 |_::_,[],_,_,_,_,h,_=>by simp at h
 |p::P,w::vs,0,m,aH,ai,aj,aJ=>by
  simp at ai aj;subst ai;subst aj;show bindC kindOf ((p,w)::P.zip vs) m p=_;unfold bindC;rw[Vo fun v a6=>(um.mp aH).1 (of_mem_zip a6).1,bz aJ];simp
 |p::P,w::vs,i+1,m,aH,ai,aj,aJ=>by
  show bindC kindOf ((p,w)::P.zip vs) m x=_;unfold bindC;exact Vn (i:=i) (um.mp aH).2 (by simpa using ai) (by simpa using aj) aJ
def start(N:List Str)(vs:List aa):St:=vs.map some++replicate (N.length -vs.length) none
def yD(g4:u5)(P:Program)(w:World)(K:Frag)(az:Str->Option Value)(base:Heap)(N:List Str)(qual:Str)(scope:Scope)(f:Addr)(dm:Value)(A:Around)(outer:List Env)(s:Shared)(H:aA)(E:jQ):cQ where
 prog:=P
 w:=w
 K:=K
 az:=az
 base:=base
 A:=A.deeper (envOfC qual scope s.heap.objs.size f dm)
 N:=N
 jw:=s
 ym:=H
 env:=envOfC qual scope s.heap.objs.size f dm
 outer:=outer
 stack:=envOfC qual scope s.heap.objs.size f dm::outer
 ex:=[]
 calm:=true
 fn:=fun _=>true
 ef:=[]
 fJ:=fun e aZ=>wpAny (model P w) (A.deeper (envOfC qual scope s.heap.objs.size f dm)) (leaving (envOfC qual scope s.heap.objs.size f dm) e) (fun _ iY=>g4 outer H s E e iY) (fun c5 iY=>g4 outer H s E c5 iY) aZ
theorem Vz{sc:Scope}{n:Nat}{x:Str}(h:sc.names.lookup x=some .cell):∃c,(cellsFrom n sc.names []).lookup x=some c:=by
 have q:=cellsFrom_some sc.names n [] (.inl h);exact Option.isSome_iff_exists.mp q
theorem alA{g4:u5}{P:Program}{w:World}{K:Frag}{az:Str->Option Value}{base:Heap}{N ps:List Str}{qual:Str}{scope:Scope}{f:Addr}{dm:Value}{A:Around}{outer:List Env}{s aU:Shared}{H:aA}{E:jQ}{us:List Value}{vs:List aa}
  (S:dP N ps scope)(aG:A.handled=none)(ie:Bp P w K az base A outer s H)(aD:vs.length=ps.length)(r:eS vs us)
  (x:InCallC s s.heap.objs.size (bindL (envOfC qual scope s.heap.objs.size f dm).kindOf (ps.zip us) fun _=>none) (cellsFrom (s.heap.objs.size+1) scope.names []) (bindC (envOfC qual scope s.heap.objs.size f dm).kindOf (ps.zip us) fun _=>none) aU):
  Inv (yD g4 P w K az base N qual scope f dm A outer s H E) [] (start N vs) H aU:=by
 have pM:ps.length<=N.length:=by have:=oA List.length S.pre;rw[u0]at this;omega
 obtain⟨ai,tk,rfl,aJ⟩:=x.done;have Ew:∀b:Addr,b∉(yD g4 P w K az base N qual scope f dm A outer s H E).ex:=fun b I=>absurd (show b∈([]:List Addr)from I) (by simp);refine⟨⟨ie.mod,S.kind,z,z,dW _,fun y I c ai aj=>?_,fun y bu=>?_,fun y c _ h=>?_,fun _=>aG,Around.frames_deeper ie.frames,.inr ⟨z,z⟩,fun b I=>absurd I (Ew b),ie.bs,ie.wh,fun b _ _=>Ew b,fun b I=>absurd I (Ew b),ie.qd,ie.Aq⟩,
  rfl,ie.jY,kc.kept aJ,⟨_,x.toInCall.ns,fun i y v ai aj bN=>?_⟩,fun y c h=>⟨_,x.cell y c h⟩,ie.cG.fresh (dW _),fun y c h=>?_,fun p aN=>absurd (show p∈([]:List (Addr×Obj))from aN) (by simp),ie.cG.kept aJ,?_⟩
 .exact name_of_addr x.apart (uo ai) (uo aj)
 .have bu:scope.names.lookup y=some .cell\/scope.names.lookup y=some .free:=bu;rcases bu with bu|bu
  .exact Vz bu
  .exact absurd z (S.anT _ (uo bu))
 .exact le_of_lt (x.above y c (uo h))
 .have aF:i<vs.length:=by
   unfold start at aj;by_cases aF:i<vs.length
   .exact aF
   .rw[q3 (by simpa using aF)]at aj;rw[List.getElem?_replicate]at aj;split at aj<;>cases aj
  have cC:vs[i]?=some v:=by
   unfold start at aj;rw[sd (by simpa using aF),h8]at aj;cases e:vs[i]? with
   |none=>rw[e]at aj;cases aj
   |some a=>rw[e]at aj;cases aj;rfl
  obtain⟨u,ck,ia⟩:=r.get cC;have aN:ps[i]?=some y:=by
   rw[<-S.pre,List.getElem?_take_of_lt (by omega)];exact ai
  have ZM:ps.Nodup:=by rw[<-S.pre];exact S.aH.sublist (List.take_sublist _ _)
  refine⟨u,ia,?_⟩;rcases S.aaH y (jc aN)with k|k
  .exact .inl ⟨k,Vp ZM aN ck k⟩
  .obtain⟨c,e⟩:=Vz (n:=s.heap.objs.size+1) k;refine .inr ⟨.inl k,c,e,?_⟩;have q:=x.cell y c e;rw[Vn ZM aN ck (by show scope.names.lookup y≠_;rw[k];decide)]at q;exact q
 .exact ie.cG.fresh (le_of_lt (x.above y c (uo h)))
 .unfold start;show _=N.length;rw[g8,cA,List.length_replicate];omega
theorem aiP{g4:u5}{P:Program}{w:World}{K:Frag}{az:Str->Option Value}{base:Heap}{k:Nat}{f:Addr}{name qual:Str}{params:Arguments}{body:List Stmt}{scope:Scope}{O4 oZ doc s8 cJ k9 gq:Value}{tN iX:Option Addr}
  {zq:Array (Option Value)}{N ps:List Str}{sp:dj}(lk:K.lookup f=some ⟨gq,iX,.func (fnOf name qual params body scope O4 oZ doc s8 tN cJ k9),zq⟩)(lI:codeIn K cJ qual=true)(S:dP N ps scope)
  (len:∀vs H Q E,sp vs H Q E->vs.length=ps.length)
  (Qf:∀(A:Around)(outer:List Env)(s:Shared)(H:aA)(vs:List aa)(Q:gc)(E:jQ),kM k (A.deeper (envOfC qual scope s.heap.objs.size f cJ))->sp vs H Q E->
   ∃t,sr (yD g4 P w K az base N qual scope f cJ A outer s H E) body t/\t {dF:=fun _ H'=>Q .b9 H',A5:=Q} (start N vs) H):
  cZ P w K az base g4 (k+1) f (fnOf name qual params body scope O4 oZ doc s8 tN cJ k9) ps sp:=by
 refine⟨len,fun A outer s H args us vs Q E aO ie ae r xD=>?_⟩;have aD:=len _ _ _ _ xD;have i5:K.In s.heap:=ie.mod.Eh.keeps fun b o e=>(ie.bs b o e).1;have al5:s.heap.NoLimit:=ie.mod.nolimit.keeps fun b o e=>(ie.bs b o e).1;have akl:∀y∈ps.zip us,scope.names.lookup y.1=some .local\/(scope.names.lookup y.1=some .cell/\((cellsFrom (s.heap.objs.size+1) scope.names []).lookup y.1).isSome=true):=fun⟨n,v⟩bu=>by
  rcases S.aaH n (of_mem_zip bu).1 with q|q
  .exact .inl q
  .exact .inr ⟨q,cellsFrom_some _ _ _ (.inl q)⟩
 refine codeAny_call_function aO.depth (i5 _ _ lk) z S.agP S.PS z (PySem.W.codeRec_of i5 lI) (ae _ _ _ _ ?_);refine wpAny_newFunctionEnv_cells S.kind akl fun env cz aU x=>?_;subst cz;refine⟨al5.keeps x.toInCall.keep,codeAny_func ?_⟩;obtain⟨t,bO,a9⟩:=Qf A outer s H vs Q E (aO.deeper _) xD;have J:Inv (yD g4 P w K az base N qual scope f cJ A outer s H E) [] (start N vs) H aU:=alA S aO.aG ie aD r x;refine mH (bO [] aU (start N vs) H _ J a9) (fun i6 aZ aL=>?_) fun e aZ aL=>aL;have fin:∀{cB:St}{H':aA}{v:aa}{u:Value},Inv (yD g4 P w K az base N qual scope f cJ A outer s H E) [] cB H' aZ->RelV v u->Q v H'->Oc outer P w H s Q u aZ:=
  fun{cB H' v u}cX ia q=>⟨v,H',cX.os,cX.jY,cX.base,cX.cG,ia,q⟩
 cases i6 with
 |ret u=>
  obtain⟨v,cB,H',cX,ia,q⟩:=aL;exact fin cX ia q
 |next=>
  obtain⟨cB,H',cX,q⟩:=aL;exact fin (v:=aa.b9) (u:=Value.none) cX z q
 |brk=>
  obtain⟨_,_,_,q⟩:=aL;exact False.elim q
 |cont=>
  obtain⟨_,_,_,q⟩:=aL;exact False.elim q
section
variable{X:cQ}{x:Str}{p pos:Pos}{e:Expr}{bX:List Expr}{t:nY}{id T:String}{r:List aa->aA->gc->Prop}
def Tv(r:List aa->aA->gc->Prop)(t:nY):eB:=fun O H Q=>t O H fun vs aI=>r vs aI Q
theorem j3(aB:Bo X (.builtin id) r)(dz:qw X x)(aM:X.az x=none)(a6:bootBuiltins x=some (.builtin id))(cC:tI X (e::bX) t)(br:x≠"__name__":=by decide)(oX:(x==("__debug__":Str))=false:=by decide)
  (cz:starEach (e::bX) X.env=(false,eval e X.env)::starEach bX X.env:=by rfl)(pM:(backTo pos (starEach bX X.env)).any (·.1)=false:=by rfl):dS X (.Call (.Name x p) (e::bX) [] pos) (Tv r t):=by
 intro ao s O H Q J h;refine Lb (Kc J dz aM a6 ?_ br oX);exact PyProof.Rows.callWith_builtin1 (eJ (cC pos ao s O H _ J h) fun us aU⟨vs,aI,bY,fE,aW⟩=>aB ao aU O aI vs us Q bY fE aW) cz pM
theorem apb(aB:Bo X (.type T) r)(dz:qw X x)(aM:X.az x=none)(a6:bootBuiltins x=some (.type T))(cC:tI X (e::bX) t)(br:x≠"__name__":=by decide)(oX:(x==("__debug__":Str))=false:=by decide)
  (cz:starEach (e::bX) X.env=(false,eval e X.env)::starEach bX X.env:=by rfl)(pM:(backTo pos (starEach bX X.env)).any (·.1)=false:=by rfl):dS X (.Call (.Name x p) (e::bX) [] pos) (Tv r t):=by
 intro ao s O H Q J h;refine Lb (Kc J dz aM a6 ?_ br oX);exact PyProof.Rows.callWith_type1 (eJ (cC pos ao s O H _ J h) fun us aU⟨vs,aI,bY,fE,aW⟩=>aB ao aU O aI vs us Q bY fE aW) cz pM
end
end bF
namespace nB
open PySem PyProof.Rows
section
variable{prog:Program}{w:World}{A:Around}{E:Value->Shared->Prop}{s:Shared}
def qT(n d:Nat):Option Int->Nat
 |none=>d
 |some v=>if v<0 then(v+(n:Int)).toNat else min v.toNat n
theorem abn(n d:Nat):qT n d none=d:=rfl
theorem Nx(n d k:Nat):qT n d (some (k:Int))=min k n:=by
 show(if (k:Int)<0 then((k:Int)+(n:Int)).toNat else min (k:Int).toNat n)=min k n;rw[bz (by omega),uq]
end
end nB
namespace bF
open PySem PySem.Spec PyProof.Rows
abbrev sy:=St->aA->(Option Int->aA->Prop)->Prop
def Lp(X:cQ)(e:Option Expr)(t:sy):Prop:=
 ∀(ao:List (Addr×Obj))(s:Shared)(O:St)(H:aA)(Q:Option Int->aA->Prop),Inv X ao O H s->t O H Q->
  wpAny (model X.prog X.w) X.A (evalPart e X.env) (fun u aZ=>∃o H',Inv X ao O H' aZ/\IsPart u o/\Q o H') X.fJ s
def asP:sy:=fun _ H Q=>Q none H
def asS(t:eB):sy:=fun O H Q=>t O H fun x aI=>∃i,x=.int i/\Q (some i) aI
section
variable{X:cQ}{e:Expr}{te:eB}{lo aF:Option Expr}{bw uW:sy}{pos l6:Pos}
theorem Su:Lp X none asP:=by
 intro ao s O H Q J h;rw[evalPart_none];exact kJ ⟨none,H,J,.none,h⟩
theorem KI(h:dS X e te):Lp X (some e) (asS te):=by
 intro ao s O H Q J hw;rw[evalPart_some];refine eJ (h ao s O H _ J hw) fun u aU⟨x,aI,bY,fE,aW⟩=>?_;obtain⟨i,rfl,q⟩:=aW;obtain⟨t,rfl⟩:=fE;exact⟨some i,aI,bY,.int i t,q⟩
def UJ(X:cQ)(r:aa->Option Int->Option Int->aA->gc->Prop):Prop:=
 ∀(ao:List (Addr×Obj))(s:Shared)(O:St)(H:aA)(x:aa)(v iE Be:Value)(lo aF:Option Int)(b7:Addr)(Q:gc),Inv X ao O H s->RelV x v->s.heap.IsSliceOf b7 iE Be .none->IsPart iE lo->IsPart Be aF->r x lo aF H Q->
  ∃T id,typeLookup (.type T) "__getitem__"=pure (some (.builtin id))/\s.TypeIs v T/\wpAny (model X.prog X.w) X.A (getItem v (.ref b7)) (nU X ao O Q) X.fJ s
def asX(r:aa->Option Int->Option Int->aA->gc->Prop)(te:eB)(bw uW:sy):eB:=fun O H Q=>te O H fun x aI=>bw O aI fun l a7=>uW O a7 fun u bI=>r x l u bI Q
theorem Na{r:aa->Option Int->Option Int->aA->gc->Prop}(aO:UJ X r)(cz:dS X e te)(aD:Lp X lo bw)(ck:Lp X aF uW):dS X (.Subscript e (.Slice lo aF none l6) pos) (asX r te bw uW):=by
 intro ao s O H Q J h;refine Subscript_ (eJ (cz ao s O H _ J h) fun v aU⟨x,aI,bY,fE,aW⟩=>?_);refine wpAny_Slice (eJ (aD ao aU O aI _ bY aW) fun iE bD⟨l,a7,fy,pl,bf⟩=>eJ (ck ao bD O a7 _ fy bf) fun Be b4⟨u,bI,lS,KL,df⟩=>?_);rw[evalPart_none];refine kJ ?_;have zZ:Inv X ao O bI {b4 with heap:=b4.heap.push {cls:=.type "slice",data:=.fields #[iE,Be,.none]}}:=lS.kept (t':=b4.toks) fun b cD q=>ph _ q;obtain⟨T,id,dh,bO,dz⟩:=aO ao {b4 with heap:=b4.heap.push {cls:=.type "slice",data:=.fields #[iE,Be,.none]}} O bI x v iE Be l u b4.heap.objs.size Q zZ fE (Heap.IsSliceOf.new ..) pl KL df;show wpAny (model X.prog X.w) X.A (subscriptTail e (.Slice lo aF none l6) v (.ref b4.heap.objs.size)) (nU X ao O Q) X.fJ {b4 with heap:=b4.heap.push {cls:=.type "slice",data:=.fields #[iE,Be,.none]}};exact tail_any (ops:=[.ref b4.heap.objs.size,v]) bO dh dz (by with_unfolding_all rfl)
def xj(xs:List aa)(lo aF:Option Int):List aa:=(xs.drop (nB.qT xs.length 0 lo)).take (nB.qT xs.length xs.length aF -nB.qT xs.length 0 lo)
theorem ag7(xs:List aa)(lo aF:Option Int):(xj xs lo aF).length<=xs.length:=by
 unfold xj;rw[u0,oE];omega
end
def wx(n:Nat)(i:Int):Option Nat:=if 0<=i then(if i<n then some i.toNat else none)else if -(n:Int)<=i then some (i+n).toNat else none
def nE{cL:Type}(xs:List cL)(i:Int):Option cL:=(wx xs.length i).bind fun j=>xs[j]?
theorem YE{n:Nat}{i:Int}{j:Nat}(h:wx n i=some j):seqIndex? i n=some j/\j<n/\-(n:Int)<=i/\i<n:=by
 unfold wx at h;by_cases cP:0<=i
 .rw[bT cP]at h;by_cases ai:i<n
  .rw[bT ai]at h;have e:i.toNat=j:=j7 h;exact⟨by rw[seqIndex_of cP ai,e],by omega,by omega,ai⟩
  .rw[bz ai]at h;cases h
 .rw[bz cP]at h;by_cases ai:-(n:Int)<=i
  .rw[bT ai]at h;have e:(i+n).toNat=j:=j7 h;exact⟨by rw[seqIndex_neg (by omega) ai,e],by omega,ai,by omega⟩
  .rw[bz ai]at h;cases h
theorem UW{cL:Type}{xs:List cL}{i:Int}{v:cL}(h:nE xs i=some v):∃j,seqIndex? i xs.length=some j/\xs[j]?=some v/\j<xs.length/\-(xs.length:Int)<=i/\i<xs.length:=by
 unfold nE at h;cases e:wx xs.length i with
 |none=>rw[e]at h;cases h
 |some j=>
  rw[e]at h;obtain⟨ai,aj,bN,ez⟩:=YE e;exact⟨j,ai,h,aj,bN,ez⟩
theorem lD{cL:Type}{xs:List cL}{j:Nat}{v:cL}(h:xs[j]?=some v):nE xs (j:Int)=some v:=by
 have bQ:j<xs.length:=(gn.mp h).1;have e:wx xs.length (j:Int)=some j:=by
  unfold wx;rw[bT (by omega),bT (by omega)];simp
 unfold nE;rw[e];exact h
theorem afl{cL:Type}(xs:List cL)(v:cL):nE (xs++[v]) (-1)=some v:=by
 have aD:(xs++[v]).length=xs.length+1:=by simp
 have e:wx (xs++[v]).length (-1)=some xs.length:=by
  unfold wx;rw[aD,bz (by decide),bT (by omega)]
  congr 1
  omega
 unfold nE;rw[e];show(xs++[v])[xs.length]?=some v;simp
def aeP(b:Expr):Prop:=∀o i,subscripted b false o i=operate [o,i] (getItem o i)
def Ot(X:cQ)(r:su):Prop:=
 ∀(value slice:Expr)(ao:List (Addr×Obj))(s:Shared)(O:St)(H:aA)(x y:aa)(v u:Value)(Q:gc),Inv X ao O H s->RelV x v->RelV y u->r x y H Q->
  subscripted slice false v u=operate [v,u] (getItem v u)->wpAny (model X.prog X.w) X.A (subscriptTail value slice v u) (nU X ao O Q) X.fJ s
def Ov(X:cQ)(id:String)(r:aa->List aa->aA->gc->Prop):Prop:=
 ∀(ao:List (Addr×Obj))(s:Shared)(O:St)(H:aA)(x:aa)(xs:List aa)(v:Value)(us:List Value)(Q:gc),Inv X ao O H s->RelV x v->eS xs us->r x xs H Q->
  wpAny (model X.prog X.w) X.A (call (.builtin id) (v::us)) (nU X ao O Q) X.fJ s
section
variable{X:cQ}{a b:Expr}{eR gk:eB}{pos:Pos}
theorem mD{r:su}(aO:Ot X r)(cC:dS X a eR)(ae:dS X b gk)(aL:aeP b):dS X (.Subscript a b pos) (NV r eR gk):=by
 intro ao s O H Q J h;exact Subscript_ (ON cC ae J h fun v u bD x y a7 fy cO eM q=>aO a b ao bD O a7 x y v u Q fy cO eM q (aL _ _))
def apE(K:Frag):su:=fun x y H Q=>∃p xs i v,x=.ref p/\y=.int i/\bj K H p xs/\nE xs i=some v/\Q v H
def apF(K:Frag):su:=fun x y H Q=>∃p xs i v,x=.ref p/\y=.int i/\je K H p xs/\nE xs i=some v/\Q v H
theorem nJ:Ot X (apE X.K):=by
 intro value slice ao s O H x y v u Q J cO eM h aL;obtain⟨p,xs,i,I,rfl,rfl,a9,cz,q⟩:=h;cases cO;obtain⟨t,rfl⟩:=eM;obtain⟨bK,r,pl,bR⟩:=J.list a9;obtain⟨j,ai,aj,bN,ez,i7⟩:=UW cz;obtain⟨w,DK,KR⟩:=r.get aj;have aD:=r.length;have br:=Kd;have fin:nU X ao O Q w s:=⟨I,H,J,KR,q⟩;by_cases cP:0<=i
 .have bQ:i.toNat=j:=by
   rw[seqIndex_of cP i7]at ai;exact j7 ai
  exact item_listR pl.isList cP (by omega) (by rw[bQ];simpa using DK) fin aL
 .have bQ:(i+(bK.toArray.size:Int)).toNat=j:=by
   rw[seqIndex_neg (by omega) ez]at ai;rw[mj,<-aD];exact j7 ai
  exact subscriptTail_builtinR (x:=w) pl.isList.typeIs slot_list_getitem.lookup
   (wpAny_getItem_list_neg (Q:=fun r aZ=>r=w/\nU X ao O Q r aZ) pl.isList (by omega) (by rw[mj]<;>omega) (by omega) (by rw[bQ];simpa using DK) ⟨z,fin⟩) aL
theorem Q4:Ot X (apF X.K):=by
 intro value slice ao s O H x y v u Q J cO eM h aL;obtain⟨p,xs,i,I,rfl,rfl,a9,cz,q⟩:=h;cases cO;obtain⟨t,rfl⟩:=eM;obtain⟨bK,r,pl,bR⟩:=J.tuple a9;obtain⟨j,ai,aj,bN,ez,i7⟩:=UW cz;obtain⟨w,DK,KR⟩:=r.get aj;have aD:=r.length;have br:=Kd;have fin:nU X ao O Q w s:=⟨I,H,J,KR,q⟩;exact subscriptTail_builtinR (x:=w) pl.typeIs slot_tuple_getitem.lookup
  (getItem_tuple (j:=j) (Q:=fun r aZ=>r=w/\nU X ao O Q r aZ) pl (by omega) (by omega) (by rw[mj,<-aD];exact ai) (by simpa using DK) ⟨z,fin⟩) aL
theorem aml(bK:List Value)(n j:Nat)(u:Value):Obj.mapSeq (·.setIfInBounds j u) {cls:=.type "list",data:=.seq bK.toArray n}={cls:=.type "list",data:=.seq (bK.set j u).toArray n}:=by
 simp[Obj.mapSeq]
theorem Inv.ak{ao:List (Addr×Obj)}{O:St}{H:aA}{s:Shared}{p:Addr}{xs:List aa}(J:Inv X ao O H s)(h:H p=some (.ak xs)):
  ∃(bK:List Value)(n:Nat),eS xs bK/\s.heap.get? p=some {cls:=.type "list",data:=.seq bK.toArray n}/\xs.length<=sizeLine:=by
 obtain⟨I,bK,n,r,e⟩:=J.cG p _ h;exact⟨bK,n,r,e,I⟩
theorem Inv.ama{ao:List (Addr×Obj)}{O:St}{H:aA}{s:Shared}{p:Addr}{xs ys:List aa}{bK its':List Value}{n kW:Nat}{f:Obj->Obj}(J:Inv X ao O H s)(h:H p=some (.ak xs))
  (aT:s.heap.get? p=some {cls:=.type "list",data:=.seq bK.toArray n})(bq:f {cls:=.type "list",data:=.seq bK.toArray n}={cls:=.type "list",data:=.seq its'.toArray kW})(r:eS ys its')(bR:ys.length<=sizeLine)(t:Nat):
  Inv X ao O (V H p (.ak ys)) {s with heap:=s.heap.update p f,toks:=t}:=by
 have e:(s.heap.update p f).get? p=some {cls:=.type "list",data:=.seq its'.toArray kW}:=by
  rw[Heap.get?_update_self f aT (by rw[bq]<;>rfl),bq]
 refine J.zG (x:=p) (e:=p) (by rw[h];trivial) (.inl z) (fun b u ae q=>(Heap.get?_update_other _ _ (bC ae)).trans q) ⟨_,e⟩ ?_;exact⟨bR,its',kW,r,e⟩
def apK:aa->aa->aa->aA->(aA->Prop)->Prop:=fun o i v H Q=>∃p xs k j,o=.ref p/\i=.int k/\H p=some (.ak xs)/\wx xs.length k=some j/\Q (V H p (.ak (xs.set j v)))
theorem ac3:UE X apK:=by
 intro ao s O H o i v lq sY u Q J apV Nq ia h;obtain⟨p,xs,k,j,rfl,rfl,aN,bQ,q⟩:=h;cases apV;obtain⟨t,rfl⟩:=Nq;obtain⟨bK,n,r,aT,bR⟩:=J.ak aN;obtain⟨ai,aj,bN,ez⟩:=YE bQ;have aD:=r.length;have br:=Kd;have pC:Inv X ao O (V H p (.ak (xs.set j v))) {s with heap:=s.heap.update p (Obj.mapSeq (·.setIfInBounds j u))}:=
  J.ama aN aT (aml bK n j u) (r.set ia j) (by rw[List.length_set];exact bR) s.toks
 by_cases cP:0<=k
 .have aJ:k.toNat=j:=by
   rw[seqIndex_of cP ez]at ai;exact j7 ai
  exact PySem.W.ki_setAt aT cP (by omega) (by rw[mj,<-aD];exact ez) (by rw[aJ];exact⟨_,pC,q⟩)
 .have aJ:(k+(bK.toArray.size:Int)).toNat=j:=by
   rw[seqIndex_neg (by omega) bN]at ai;rw[mj,<-aD];exact j7 ai
  exact PySem.W.ki_setBack aT (by omega) (by rw[mj,<-aD];exact bN) (by omega) (by rw[aJ];exact⟨_,pC,q⟩)
theorem aq6(lo aF:Option Int)(n:Nat):(sliceBounds lo aF none n).1=((nB.qT n 0 lo:Nat):Int)/\(sliceBounds lo aF none n).2.1=((nB.qT n n aF:Nat):Int)/\(sliceBounds lo aF none n).2.2=1:=by
 refine⟨?_,?_,z⟩
 .cases lo with
  |none=>simp[sliceBounds,nB.qT]
  |some i=>
   simp only[sliceBounds,nB.qT,getD_none,show(1:Int)>0 by decide,if_true];by_cases h:i<0
   .simp only[h,if_true]<;>omega
   .simp only[h,if_false]<;>omega
 .cases aF with
  |none=>simp[sliceBounds,nB.qT]
  |some i=>
   simp only[sliceBounds,nB.qT,getD_none,show(1:Int)>0 by decide,if_true];by_cases h:i<0
   .simp only[h,if_true]<;>omega
   .simp only[h,if_false]<;>omega
theorem aq5(bK:List Value)(lo aF:Option Int):slicePick bK.toArray lo aF none=((bK.drop (nB.qT bK.length 0 lo)).take (nB.qT bK.length bK.length aF -nB.qT bK.length 0 lo)).toArray:=by
 obtain⟨ai,aj,bN⟩:=aq6 lo aF bK.toArray.size;unfold slicePick;rw[ai,aj,bN];simp only[sliceRange_one,pick_run,mj]<;>rfl
def apL(K:Frag):aa->Option Int->Option Int->aA->gc->Prop:=fun x lo aF H Q=>∃a xs,x=.ref a/\bj K H a xs/\∀p,H p=none->Q (.ref p) (V H p (.ak (xj xs lo aF)))
theorem NK:UJ X (apL X.K):=by
 intro ao s O H x v iE Be lo aF b7 Q J cO aL pl KL h;obtain⟨a,xs,rfl,Y,q⟩:=h;cases cO;obtain⟨bK,r,bO,bR⟩:=J.list Y;have gv:=r.length;refine⟨"list",_,slot_list_getitem.lookup,bO.isList.typeIs,?_⟩;refine wpAny_getItem_list_slice bO.isList aL pl KL .none (by simp) ?_ (by rw[mj]<;>omega);rw[aq5,<-gv];refine⟨.ref s.heap.objs.size,_,J.i9 (t':=s.toks) (o:=.ak (xj xs lo aF)) (fun b cD q=>ph _ q) (dW _) ?_,z,q _ (J.cG.fresh (dW _))⟩;exact⟨i3 (ag7 xs lo aF) bR,_,0,(r.drop (nB.qT xs.length 0 lo)).take (nB.qT xs.length xs.length aF -nB.qT xs.length 0 lo),vW _ z⟩
def uH:aa->Bool
 |.b9=>true
 |.av _=>true
 |.int _=>true
 |.str _=>true
 |_=>false
def tS:aa->aa->Bool
 |.b9,.b9=>true
 |.av a,.av b=>a==b
 |.av a,.int b=>(if a then 1 else 0)==b
 |.int a,.av b=>a==(if b then 1 else 0)
 |.int a,.int b=>a==b
 |.str a,.str b=>a==b
 |_,_=>false
theorem ahD{A:Around}{s:Shared}{y x:aa}{u v:Value}(eM:RelV y u)(cO:RelV x v)(Jt:uH y=true)(sN:uH x=true):SeqAt.EqAt A s u v (tS y x):=by
 cases y with
 |b9=>
  cases eM;cases x with
  |b9=>cases cO;exact SeqAt.EqAt.same _
  |av b=>cases cO;exact SeqAt.EqAt.none_bool b
  |int b=>obtain⟨t,rfl⟩:=cO;exact SeqAt.EqAt.none_int b t
  |str b=>obtain⟨t,rfl⟩:=cO;exact SeqAt.EqAt.none_str b t
  |_=>exact absurd (show false=true from sN) oB
 |av a=>
  cases eM;cases x with
  |b9=>cases cO;exact SeqAt.EqAt.bool_none a
  |av b=>cases cO;exact SeqAt.EqAt.bool_bool a b
  |int b=>obtain⟨t,rfl⟩:=cO;exact SeqAt.EqAt.bool_int a b t
  |str b=>obtain⟨t,rfl⟩:=cO;exact SeqAt.EqAt.bool_str a b t
  |_=>exact absurd (show false=true from sN) oB
 |int a=>
  obtain⟨t',rfl⟩:=eM;cases x with
  |b9=>cases cO;exact SeqAt.EqAt.int_none a t'
  |av b=>cases cO;exact SeqAt.EqAt.int_bool a t' b
  |int b=>obtain⟨t,rfl⟩:=cO;exact SeqAt.EqAt.int_int a t' b t
  |str b=>obtain⟨t,rfl⟩:=cO;exact SeqAt.EqAt.int_str a t' b t
  |_=>exact absurd (show false=true from sN) oB
 |str a=>
  obtain⟨t',rfl⟩:=eM;cases x with
  |b9=>cases cO;exact SeqAt.EqAt.str_none a t'
  |av b=>cases cO;exact SeqAt.EqAt.str_bool a t' b
  |int b=>obtain⟨t,rfl⟩:=cO;exact SeqAt.EqAt.str_int a t' b t
  |str b=>obtain⟨t,rfl⟩:=cO;exact SeqAt.EqAt.str_str a t' b t
  |_=>exact absurd (show false=true from sN) oB
 |_=>exact absurd (show false=true from Jt) oB
def xu(x:aa)(u:Value):Bool:=match u with
 |.none=>tS .b9 x
 |.bool b=>tS (.av b) x
 |.int i _=>tS (.int i) x
 |.str I _=>tS (.str I) x
 |_=>false
theorem LO{x y:aa}{u:Value}(r:RelV y u)(f:uH y=true):xu x u=tS y x:=by
 cases y with
 |b9=>cases r;rfl
 |av b=>cases r;rfl
 |int i=>obtain⟨t,rfl⟩:=r;rfl
 |str I=>obtain⟨t,rfl⟩:=r;rfl
 |_=>exact absurd (show false=true from f) oB
theorem OJ{x:aa}:∀{xs:List aa}{us:List Value},eS xs us->xs.all uH=true->us.any (xu x)=xs.any fun y=>tS y x
 |_,_,.nil,_=>rfl
 |y::xs,u::us,.cons r t,f=>by
  rw[all_cons,jA]at f;rw[any_cons,any_cons,LO r f.1,OJ t f.2]
theorem MG{A:Around}{s:Shared}{x:aa}{v:Value}(cO:RelV x v)(sN:uH x=true):∀{xs:List aa}{us:List Value},eS xs us->xs.all uH=true->∀u∈us,SeqAt.EqAt A s u v (xu x u)
 |_,_,.nil,_=>fun u ck=>by cases ck
 |y::xs,u::us,.cons r t,f=>fun zD ck=>by
  rw[all_cons,jA]at f;rcases dG.mp ck with rfl|ck
  .rw[LO r f.1];exact ahD r cO f.1 sN
  .exact MG cO sN t f.2 zD ck
def Mv(x:aa)(xs:List aa):Bool:=xs.any fun y=>tS y x
def apC(K:Frag)(neg:Bool):su:=fun x y H Q=>∃p xs,y=.ref p/\(bj K H p xs\/je K H p xs)/\uH x=true/\xs.all uH=true/\Q (.av (if neg then !Mv x xs else Mv x xs)) H
theorem ao4:oH X (compareOp .NotIn) (apC X.K true):=by
 intro ao s O H x y v u Q J cO eM h;obtain⟨p,xs,rfl,a9,sN,bA,q⟩:=h;cases eM;rcases a9 with a9|a9
 .obtain⟨bK,r,pl,bR⟩:=J.list a9;refine SeqAt.notIn_listAt (xu x) pl.isList (fun w hw=>MG cO sN r bA w (by simpa using hw)) ⟨.av _,H,J,z,?_⟩;rw[show bK.toArray.any (xu x)=bK.any (xu x) by simp,OJ r bA];exact q
 .obtain⟨bK,r,pl,bR⟩:=J.tuple a9;refine SeqAt.notIn_tupleAt (xu x) pl (fun w hw=>MG cO sN r bA w (by simpa using hw)) ⟨.av _,H,J,z,?_⟩;rw[show bK.toArray.any (xu x)=bK.any (xu x) by simp,OJ r bA];exact q
theorem mu:Bo X (.builtin "len") (fun xs H Q=>∃p ys,xs=[.ref p]/\(bj X.K H p ys\/je X.K H p ys)/\Q (.int ys.length) H):=by
 intro ao s O H xs us Q J r h;obtain⟨p,ys,rfl,a9,q⟩:=h;obtain⟨u,rfl,cO⟩:=adL r;cases cO;have br:=Kd;rcases a9 with a9|a9
 .obtain⟨bK,g7,pl,bR⟩:=J.list a9;have gv:=g7.length;exact Calls.call_len_list pl.isList (by simp only[mj]<;>omega) ⟨.int ys.length,H,J.qt _,⟨s.toks+1,by rw[mj,gv]⟩,q⟩
 .obtain⟨bK,g7,pl,bR⟩:=J.tuple a9;have gv:=g7.length;exact len_tuple pl (by simp only[mj]<;>omega) ⟨.int ys.length,H,J.qt _,⟨s.toks+1,by rw[mj,gv]⟩,q⟩
theorem agr:Bo X (.type "list") (fun xs H Q=>∃p ys,xs=[.ref p]/\(bj X.K H p ys\/je X.K H p ys)/\∀l,H l=none->Q (.ref l) (V H l (.ak ys))):=by
 intro ao s O H xs us Q J r h;obtain⟨p,ys,rfl,a9,q⟩:=h;obtain⟨u,rfl,cO⟩:=adL r;cases cO;have fin:∀(bK:List Value),eS ys bK->ys.length<=sizeLine->∀(h':Heap)(c':Nat),(∀b fm,s.heap.get? b=some fm->h'.get? b=some fm)->
   h'.get? s.heap.objs.size=some {cls:=.type "list",dict:=none,data:=.seq bK.toArray c',slots:=#[]}->nU X ao O Q (.ref s.heap.objs.size) {s with heap:=h'}:=fun bK g7 bR h' c' cN e=>
  ⟨.ref s.heap.objs.size,_,J.i9 (t':=s.toks) cN (dW _) (show jP X.prog X.w _ h' _ (.ak ys)from⟨bR,bK,c',g7,e⟩),z,q _ (J.cG.fresh (dW _))⟩
 rcases a9 with a9|a9
 .obtain⟨bK,g7,pl,bR⟩:=J.list a9;have gv:=g7.length;obtain⟨o,aT,aB,n,aG⟩:=pl.isList;exact call_list_seq p (.inl z) aT aB aG (fun h' c' cN e=>fin bK g7 bR h' c' cN e) (by simp only[mj]<;>omega)
 .obtain⟨bK,g7,pl,bR⟩:=J.tuple a9;have gv:=g7.length;obtain⟨o,aT,aB,n,aG⟩:=pl;exact call_list_seq p (.inr z) aT aB aG (fun h' c' cN e=>fin bK g7 bR h' c' cN e) (by simp only[mj]<;>omega)
def TJ(K:Frag)(T:String)(x:aa)(H:aA):Prop:=match x with
 |.str _=>T="str"
 |.int _=>T="int"
 |.ref p=>(T="list"/\∃xs,bj K H p xs)\/(T="tuple"/\∃o,K.lookup p=some o/\o.cls=.type "tuple"/\o.dict=none)\/
   (T="dict"/\((∃kvs,H p=some (.vo kvs))\/∃kvs,H p=some (.xm kvs)))\/(T="set"/\∃S n,H p=some (.set S n))
 |_=>False
theorem adH{ao:List (Addr×Obj)}{O:St}{H:aA}{s:Shared}{T:String}{x:aa}{v:Value}(J:Inv X ao O H s)(r:RelV x v)(jx:TJ X.K T x H):
  s.TypeIs v T/\∀a,v=.ref a->∃cD,s.heap.get? a=some cD/\cD.dict=none:=by
 cases x with
 |str I=>
  obtain⟨t,rfl⟩:=r;cases(show T="str" from jx);exact⟨typeIs_str s I t,fun _ e=>nomatch e⟩
 |int i=>
  obtain⟨t,rfl⟩:=r;cases(show T="int" from jx);exact⟨typeIs_int s i t,fun _ e=>nomatch e⟩
 |ref p=>
  cases r;rcases jx with⟨rfl,xs,a9⟩|⟨rfl,o,aJ,aB,aG⟩|⟨rfl,aJ⟩|⟨rfl,S,n,aJ⟩
  .obtain⟨bK,_,pl,_⟩:=J.list a9;refine⟨pl.isList.typeIs,fun a e=>?_⟩;cases e;obtain⟨o,n,e,c,aG,_⟩:=pl;exact⟨o,e,aG⟩
  .refine⟨⟨o,J.iU p o aJ,aB⟩,fun a e=>?_⟩;cases e;exact⟨o,J.iU _ o aJ,aG⟩
  .have I:∃o,s.heap.get? p=some o/\o.ExactDict:=by
    rcases aJ with⟨kvs,aJ⟩|⟨kvs,aJ⟩
    .obtain⟨_,_,_,_,o,_,_,e,ex,_⟩:=J.cG p _ aJ;exact⟨o,e,ex⟩
    .obtain⟨_,_,_,_,o,_,_,e,ex,_⟩:=J.cG p _ aJ;exact⟨o,e,ex⟩
   obtain⟨o,e,ex⟩:=I;refine⟨⟨o,e,ex.1⟩,fun a aq=>?_⟩;cases aq;exact⟨o,e,ex.2.1⟩
  .obtain⟨o,_,_,_,e,ex,_⟩:=J.cG p _ aJ;refine⟨⟨o,e,ex.1⟩,fun a aq=>?_⟩;cases aq;exact⟨o,e,ex.2.1⟩
 |_=>exact False.elim jx
def asF(K:Frag)(T:String)(r:aa->List aa->aA->gc->Prop)(lz:eB):eB:=fun O H Q=>lz O H fun x aI=>TJ K T x aI/\r x [] aI Q
def asE(K:Frag)(T:String)(r:aa->List aa->aA->gc->Prop)(lz:eB)(t:nY):eB:=fun O H Q=>lz O H fun x aI=>TJ K T x aI/\t O aI fun xs a7=>r x xs a7 Q
variable{o e:Expr}{bX:List Expr}{lz:eB}{t:nY}{name:Str}{sD rA:Pos}{T id:String}{r:aa->List aa->aA->gc->Prop}
theorem vJ(ek:PlainAttrs T)(slot:Slot T name id)(QR:typeOf (.builtin id)=pure (.type "method_descriptor"))(aM:Ov X id r)(aT:dS X o lz)
  (Qd:attributeBase o name X.env (eval o X.env)=eval o X.env:=by rfl)(Qw:(sD.endLine==rA.line)=true:=by rfl):dS X (.Call (.Attribute o name sD) [] [] rA) (asF X.K T r lz):=by
 intro ao s O H Q J h;refine wpAny_Call_method0_late Qd Qw (eJ (aT ao s O H _ J h) fun v aU⟨x,aI,bY,fE,jx,aW⟩=>?_);obtain⟨ai,aj⟩:=adH bY fE jx;exact⟨T,id,ek,slot,QR,ai,aj,Calls.callWith_builtin z (PySem.evalArgs_none (aM ao aU O aI x [] v [] Q bY fE .nil aW))⟩
theorem jk(ek:PlainAttrs T)(slot:Slot T name id)(QR:typeOf (.builtin id)=pure (.type "method_descriptor"))(aM:Ov X id r)(aT:dS X o lz)(cC:tI X (e::bX) t)
  (Qd:attributeBase o name X.env (eval o X.env)=eval o X.env:=by rfl)
  (akb:((backTo rA (starEach (e::bX) X.env)).all (fun x=>!x.1)&&(backToKw rA (keywordEach [] X.env)).all (fun x=>x.1.isSome)
   &&decide ((e::bX).length+([]:List Keyword).length+(if ([]:List Keyword).isEmpty then 0 else 1)<30))=true:=by rfl)
  (Qw:(sD.endLine==rA.line)=true:=by rfl)(aL:starEach (e::bX) X.env=(false,eval e X.env)::starEach bX X.env:=by rfl)(akQ:(backTo rA (starEach bX X.env)).any (·.1)=false:=by rfl):
  dS X (.Call (.Attribute o name sD) (e::bX) [] rA) (asE X.K T r lz t):=by
 intro ao s O H Q J h;refine wpAny_Call_method_late Qd akb Qw z (eJ (aT ao s O H _ J h) fun v aU⟨x,aI,bY,fE,jx,aW⟩=>?_);obtain⟨ai,aj⟩:=adH bY fE jx;refine⟨T,id,ek,slot,QR,ai,aj,?_⟩;have B0:=cC rA ao aU O aI _ bY aW;rw[aL]at B0⊢;refine Calls.callWith_builtin (by show(false||(backTo rA (starEach bX X.env)).any (·.1))=false;rw[akQ]<;>rfl) (Calls.evalArgs_plain ?_);exact eJ B0 fun us bD⟨vs,a7,fy,gQ,bf⟩=>aM ao bD O a7 x vs v us Q fy fE gQ bf
end
def Ou(X:cQ)(id:String)(r:aa->List aa->aA->gc->Prop):Prop:=
 ∀(ao:List (Addr×Obj))(s:Shared)(O:St)(H:aA)(x:aa)(xs:List aa)(v:Value)(us:List Value)(Q:gc),Inv X ao O H s->RelV x v->eS xs us->r x xs H Q->
  wpAny (model X.prog X.w) X.A (call (.builtin id) (v::us)) (nU X ao O Q) X.fJ s
theorem eS.pQ:∀{x:aa}{us:List Value},eS [x] us->∃u,us=[u]/\RelV x u
 |_,_,.cons r .nil=>⟨_,z,r⟩
theorem eS.zero:∀{us:List Value},eS [] us->us=[]
 |_,.nil=>rfl
theorem eS.dropLast{xs:List aa}{us:List Value}(h:eS xs us):eS xs.dropLast us.dropLast:=by
 induction h with
 |nil=>exact .nil
 |cons r t eL=>
  cases t with
  |nil=>exact .nil
  |cons q t'=>exact .cons r eL
theorem ahG{cL:Type}(l:List cL):l.eraseIdx (l.length -1)=l.dropLast:=by
 induction l with
 |nil=>rfl
 |cons a r eL=>
  cases r with
  |nil=>rfl
  |cons b r=>
   have e:(a::b::r).length -1=((b::r).length -1)+1:=by
    have ai:(a::b::r).length=r.length+2:=rfl;have aj:(b::r).length=r.length+1:=rfl;omega
   rw[e,List.eraseIdx_cons_succ,eL]
   all_goals rfl
section
variable{X:cQ}{ao:List (Addr×Obj)}{O:St}{H:aA}{s:Shared}{l b:Addr}{xs ys pg:List aa}
theorem Inv.Rl{bK its':List Value}{n:Nat}{f:Array Value->Array Value}{t':Nat}(J:Inv X ao O H s)(oT:H l=some (.ak xs))
  (e:s.heap.get? l=some {cls:=.type "list",data:=.seq bK.toArray n})(bq:f bK.toArray=its'.toArray)(a6:eS ys its')(bR:ys.length<=sizeLine):
  Inv X ao O (V H l (.ak ys)) {s with heap:=s.heap.update l (Obj.mapSeq f),toks:=t'}:=by
 have q:=PySem.IsL.update e f;rw[bq]at q;refine J.zG (x:=l) (e:=l) (by rw[oT];exact trivial) (.inl z) (fun Dv u ae ck=>(Heap.get?_update_other s.heap (Obj.mapSeq f) (bC ae)).trans ck) ⟨_,q⟩ ?_;exact⟨bR,its',_,a6,q⟩
theorem Inv.al7{bK:List Value}{t':Nat}(J:Inv X ao O H s)(a6:eS ys bK)(bR:ys.length<=sizeLine):
  Inv X ao O (V H s.heap.objs.size (.ak ys)) {s with heap:=s.heap.push {cls:=.type "list",data:=.seq bK.toArray},toks:=t'}:=
 J.i9 (fun _ _ q=>ph _ q) (dW _) ⟨bR,bK,0,a6,vW _ z⟩
theorem Inv.fresh(J:Inv X ao O H s):H s.heap.objs.size=none:=J.cG.fresh (dW _)
theorem Inv.Ek(J:Inv X ao O H s)(oT:H l=some (.ak xs)):xs.length<=sizeLine/\∃(bK:List Value)(n:Nat),eS xs bK/\xs.length=bK.length/\s.heap.get? l=some {cls:=.type "list",data:=.seq bK.toArray n}:=by
 obtain⟨I,bK,n,r,e⟩:=J.cG l _ oT;exact⟨I,bK,n,r,r.length,e⟩
theorem anW{n:Nat}(h:n<=sizeLine):Builtin.List.listTooLong n=false:=by
 unfold Builtin.List.listTooLong;exact ye (by omega)
end
section
variable{X:cQ}
def aa4:aa->List aa->aA->gc->Prop:=fun x vs H Q=>∃l xs y,x=.ref l/\vs=[y]/\H l=some (.ak xs)/\xs.length<sizeLine/\Q .b9 (V H l (.ak (xs++[y])))
theorem kU:Ou X "list.append" aa4:=by
 intro ao s O H x vs v us Q J cO ia h;obtain⟨l,xs,y,rfl,rfl,oT,bR,q⟩:=h;cases cO;obtain⟨u,rfl,o9⟩:=ia.pQ;obtain⟨I,bK,n,r,aD,e⟩:=J.Ek oT;refine call_meets k7 ⟨_,e,z⟩ F.entry_list_append (F.args_list_append_2 _ _) (PySem.list_append l bK.toArray n u (by rw[mj];omega)) ⟨e,?_⟩;refine⟨.b9,_,J.Rl (its':=bK++[u]) oT e (by simp) (r.append (.cons o9 .nil)) ?_,z,q⟩;rw[g8,Oa];omega
def apB:aa->List aa->aA->gc->Prop:=fun x vs H Q=>∃l b xs pg,x=.ref l/\vs=[.ref b]/\H l=some (.ak xs)/\H b=some (.ak pg)/\xs.length+pg.length<=sizeLine/\Q .b9 (V H l (.ak (xs++pg)))
theorem Eo:Ou X "list.extend" apB:=by
 intro ao s O H x vs v us Q J cO ia h;obtain⟨l,b,xs,pg,rfl,rfl,oT,eF,bR,q⟩:=h;cases cO;obtain⟨u,rfl,o9⟩:=ia.pQ;cases o9;obtain⟨I,bK,n,r,aD,e⟩:=J.Ek oT;obtain⟨gb,ww,fc,gQ,DY,aq⟩:=J.Ek eF;have hsz:bK.toArray.size+ww.toArray.size<=sizeLine:=by rw[mj,mj];omega
 have aks:¬(!bK.toArray.isEmpty&&Builtin.List.listTooLong (bK.toArray.size+ww.toArray.size))=true:=by
  rw[anW hsz,Bool.and_false];exact oB
 refine call_meets Fb ⟨_,e,z⟩ F.entry_list_extend (F.args_list_extend_2 _ _)
  (AutoSeq1.list_extend_list_list_0 l bK.toArray n b ww.toArray fc aks (by rw[mj];omega) (by omega)) ⟨e,aq,?_⟩
 refine⟨.b9,_,J.Rl (its':=bK++ww) oT e (by simp) (r.append gQ) ?_,z,q⟩;rw[g8];omega
def apJ:aa->List aa->aA->gc->Prop:=fun x vs H Q=>∃l xs y,x=.ref l/\vs=[]/\H l=some (.ak xs)/\xs[xs.length -1]?=some y/\Q y (V H l (.ak xs.dropLast))
theorem vE:Ou X "list.pop" apJ:=by
 intro ao s O H x vs v us Q J cO ia h;obtain⟨l,xs,y,rfl,rfl,oT,bu,q⟩:=h;cases cO;have ak7:=ia.zero;subst ak7;obtain⟨I,bK,n,r,aD,e⟩:=J.Ek oT;obtain⟨u,ck,o9⟩:=r.get bu;have xG:bK.toArray[bK.toArray.size -1]?=some u:=by
  show bK.toArray[bK.length -1]?=some u;rw[<-Array.getElem?_toList,<-aD];exact ck
 refine call_meets vX ⟨_,e,z⟩ F.entry_list_pop (F.args_list_pop_1 _) (MeetsSeq.list_pop_last l bK.toArray n u xG (by rw[mj];omega)) ⟨e,?_⟩;refine⟨y,_,J.Rl (its':=bK.dropLast) oT e ?_ r.dropLast ?_,o9,q⟩
 .show bK.toArray.eraseIdxIfInBounds (bK.toArray.size -1)=bK.dropLast.toArray;rw[mj,List.eraseIdxIfInBounds_toArray,ahG]
 .rw[List.length_dropLast];omega
def apz:su:=fun x y H Q=>∃l b xs pg,x=.ref l/\y=.ref b/\H l=some (.ak xs)/\H b=some (.ak pg)/\xs.length+pg.length<=sizeLine/\∀p,H p=none->Q (.ref p) (V H p (.ak (xs++pg)))
theorem CG:oH X (binaryOp .Add) apz:=by
 intro ao s O H x y v u Q J cO eM h;obtain⟨l,b,xs,pg,rfl,rfl,oT,eF,bR,q⟩:=h;cases cO;cases eM;obtain⟨I,bK,n,r,aD,e⟩:=J.Ek oT;obtain⟨gb,ww,fc,gQ,DY,aq⟩:=J.Ek eF;refine PySem.P.add_list e aq ?_ (by rw[mj,mj];omega);have ng:bK.toArray++ww.toArray=(bK++ww).toArray:=by simp
 rw[ng];exact⟨.ref _,_,J.al7 (t':=s.toks) (r.append gQ) (by rw[g8];omega),z,q _ J.fresh⟩
end
section
variable{X:cQ}
def apD(K:Frag):aa->List aa->aA->gc->Prop:=fun x xs H Q=>∃(a:Addr)(ys:List aa)(y:aa)(j:Nat)(I:aa),x=aa.ref a/\xs=[y]/\bj K H a ys/\uH y=true/\ys.all uH=true/\ys[j]?=some I/\tS I y=true/\
 (∀(m:Nat)(qv:aa),m<j->ys[m]?=some qv->tS qv y=false)/\Q (.int (j:Nat)) H
theorem Wr{ys:List aa}(f:ys.all uH=true){j:Nat}{I:aa}(h:ys[j]?=some I):uH I=true:=zJ.mp f I (jc h)
theorem ans:Ov X "list.index" (apD X.K):=by
 intro ao s O H x xs v us Q J cO aqb h;obtain⟨a,ys,y,j,I,rfl,rfl,aL,Jt,PO,bR,alk,QC,q⟩:=h;cases cO;cases aqb with
 |cons eM A5=>
  rename_i ats avo;cases A5;obtain⟨bK,ia,⟨⟨cls,dd,data,b7⟩,n,aT,aB,auE,aG⟩,gv⟩:=J.list aL;simp only at aB aG;subst aB aG;obtain⟨u,ck,o9⟩:=ia.get bR;obtain⟨lJ,aki⟩:=gn.mp ck;have QS:=ia.length;have bQ:j<bK.toArray.size:=by simpa using lJ
  have xC:=gU;refine call_meets PySem.F.slot_list_index ⟨_,aT,z⟩ PySem.F.entry_list_index (PySem.F.args_list_index_2 _ _)
   (SeqAt.list_indexAt a bK.toArray n dd b7 ats (xu y) j bQ (by omega) ?_ ?_) ⟨aT,fun zD ak5=>MG eM Jt ia PO zD (by simpa using ak5),?_⟩
  .have ay:bK.toArray[j]=u:=by simpa using aki
   rw[ay,LO o9 (Wr PO bR)];exact alk
  .intro m aM akx;have aky:m<bK.length:=by simpa using aM
   have akA:m<ys.length:=by omega
   have xG:ys[m]?=some ys[m]:=gA akA;obtain⟨jy,tX,SR⟩:=ia.get xG;obtain⟨_,akw⟩:=gn.mp tX;have ay:bK.toArray[m]=jy:=by simpa using akw
   rw[ay,LO SR (Wr PO xG)];exact QC m _ akx xG
  .exact⟨.int (j:Nat),H,J.qt _,⟨_,z⟩,q⟩
end
abbrev Ue(h:Heap)(c:Addr)(v:Option Value):Prop:=h.IsCell c v
def apS(scope sc:Scope):Scope:=
 {scope with names:=scope.names.map fun(n,k)=>if (k==.free&&sc.kind==.function&&sc.names.lookup n==some .cell)then(n,.cell)else(n,k)}
def n8(cells:List (Str×Addr)):List (Str×NameKind)->List (Str×Addr)->List (Str×Addr)
 |[],acc=>acc
 |(n,k)::r,acc=>if k==.free then n8 cells r ((n,(cells.lookup n).getD 0)::acc)else n8 cells r acc
theorem VH(env:Env)(f:Str×NameKind->List (Str×Addr)->Sem (ForInStep (List (Str×Addr))))
  (bq:∀n k c,f (n,k) c=if k==.free then(do let a<-cellOf env n;pure (.yield ((n,a)::c)))else pure (.yield c)):
  ∀(names:List (Str×NameKind))(acc:List (Str×Addr)),(∀y∈names,y.2=.free->∃c,env.cells.lookup y.1=some c)->forIn names acc f=pure (n8 env.cells names acc)
 |[],acc,_=>by rw[List.forIn_nil];rfl
 |(n,k)::r,acc,h=>by
  rw[List.forIn_cons,bq];have eL:=fun acc=>VH env f bq r acc fun y bu=>h y (gz _ bu);unfold n8;by_cases aJ:(k==NameKind.free)=true
  .rw[bT aJ,bT aJ];obtain⟨c,aB⟩:=h (n,k) iO (by simpa using aJ);have e:cellOf env n=pure c:=by unfold cellOf;rw[aB]
   rw[e];have aq:(env.cells.lookup n).getD 0=c:=by rw[aB];rfl
   rw[aq];exact eL _
  .rw[bz aJ,bz aJ];exact eL _
theorem agO{scope:Scope}{env:Env}(h:∀y∈scope.names,y.2=.free->∃c,env.cells.lookup y.1=some c):closureFor scope env=pure (n8 env.cells scope.names []):=by
 simp only[closureFor];rw[VH env _ (fun n k c=>rfl) scope.names [] h];rfl
theorem Rr{cL:Type}:∀{l:List (Str×cL)}{n:Str}{c:cL},(n,c)∈l->∃c',l.lookup n=some c'
 |(k,v)::r,n,c,h=>by
  rw[Fc];cases ae:n==k with
  |true=>exact⟨_,z⟩
  |false=>
   rcases dG.mp h with e|h
   .cases e;simp at ae
   .exact Rr h
theorem LH{cells:List (Str×Addr)}:∀{names:List (Str×NameKind)}{acc:List (Str×Addr)}{n:Str}{c:Addr},(n,c)∈n8 cells names acc->(n,c)∈acc\/((n,.free)∈names/\c=(cells.lookup n).getD 0)
 |[],_,_,_,h=>.inl h
 |(m,k)::r,acc,n,c,h=>by
  unfold n8 at h;split at h
  .rename_i aJ;have aJ:k=.free:=by simpa using aJ
   rcases LH h with h|⟨ai,aj⟩
   .rcases dG.mp h with e|h
    .cases e;exact .inr ⟨aJ▸iO,z⟩
    .exact .inl h
   .exact .inr ⟨gz _ ai,aj⟩
  .rcases LH h with h|⟨ai,aj⟩
   .exact .inl h
   .exact .inr ⟨gz _ ai,aj⟩
theorem OX{cells:List (Str×Addr)}:∀{names:List (Str×NameKind)}{acc:List (Str×Addr)}{p:Str×Addr},p∈acc->p∈n8 cells names acc
 |[],_,_,h=>h
 |(m,k)::r,acc,p,h=>by
  unfold n8;split
  .exact OX (gz _ h)
  .exact OX h
theorem OY{cells:List (Str×Addr)}:∀{names:List (Str×NameKind)}{acc:List (Str×Addr)}{n:Str},(n,.free)∈names->(n,(cells.lookup n).getD 0)∈n8 cells names acc
 |(m,k)::r,acc,n,h=>by
  unfold n8;rcases dG.mp h with e|h
  .cases e;exact OX iO
  .split
   .exact OY h
   .exact OY h
theorem FZ:∀{names:List (Str×NameKind)}{h:Heap}{acc:List (Str×Addr)}{x:Str}{c:Addr},(x,c)∈cellsFrom h.objs.size names acc->
  (x,c)∈acc\/((x,.cell)∈names/\h.objs.size<=c/\Ue (pushCells h names) c none)
 |[],_,_,_,_,h=>.inl h
 |(n,k)::r,h,acc,x,c,aM=>by
  unfold cellsFrom at aM;unfold pushCells;split at aM
  .rename_i aJ;rw[bT aJ];have aJ:k=.cell:=by simpa using aJ
   rw[<-wU h {cls:=.type "cell",data:=.cell none}]at aM;rcases FZ aM with aM|⟨ai,aj,bN⟩
   .rcases dG.mp aM with e|aM
    .cases e;exact .inr ⟨aJ▸iO,dW _,_,pushCells_keeps r _ _ _ (vW _ z),z⟩
    .exact .inl aM
   .rw[wU]at aj;exact .inr ⟨gz _ ai,le_of_succ_le aj,bN⟩
  .rename_i aJ;rw[bz aJ];rcases FZ aM with aM|⟨ai,aj,bN⟩
   .exact .inl aM
   .exact .inr ⟨gz _ ai,aj,bN⟩
theorem LG:∀{names:List (Str×NameKind)}{n:Nat}{acc:List (Str×Addr)}{p:Str×Addr},p∈acc->p∈cellsFrom n names acc
 |[],_,_,_,h=>h
 |(m,k)::r,n,acc,p,h=>by
  unfold cellsFrom;split
  .exact LG (gz _ h)
  .exact LG h
theorem OT:∀{names:List (Str×NameKind)}{n:Nat}{acc:List (Str×Addr)}{x:Str},(x,.cell)∈names->∃c,(x,c)∈cellsFrom n names acc
 |(m,k)::r,n,acc,x,h=>by
  unfold cellsFrom;rcases dG.mp h with e|h
  .cases e;exact⟨n,LG iO⟩
  .split
   .exact OT h
   .exact OT h
theorem OU:∀{names:List (Str×NameKind)}{h:Heap}{acc:List (Str×Addr)}{x y:Str}{c:Addr},(∀p∈acc,p.2<h.objs.size)->(∀x y c,(x,c)∈acc->(y,c)∈acc->x=y)->
  (x,c)∈cellsFrom h.objs.size names acc->(y,c)∈cellsFrom h.objs.size names acc->x=y
 |[],_,_,_,_,_,_,aF,ai,aj=>aF _ _ _ ai aj
 |(n,k)::r,h,acc,x,y,c,aD,aF,ai,aj=>by
  unfold cellsFrom at ai aj;split at ai
  .rename_i aJ;rw[bT aJ]at aj;rw[<-wU h {cls:=.type "cell",data:=.cell none}]at ai aj;refine OU (h:=h.push _) (fun p aN=>?_) (fun x y c a b=>?_) ai aj
   .rw[wU];rcases dG.mp aN with rfl|aN
    .exact Nat.lt_succ_self _
    .exact Nat.lt_succ_of_lt (aD p aN)
   .rcases dG.mp a with e|a<;>rcases dG.mp b with c5|b
    .cases e;cases c5;rfl
    .cases e;exact absurd (aD _ b) (zK _)
    .cases c5;exact absurd (aD _ a) (zK _)
    .exact aF _ _ _ a b
  .rename_i aJ;rw[bz aJ]at aj;exact OU aD aF ai aj
theorem anG{M:Model}{A:Around}{E:Value->Shared->Prop}{s:Shared}{scope:Scope}{globals:Addr}{closure:List (Str×Addr)}{qual:Str}{func:Option Addr}{code:Value}{eZ:Env}{builtins:Addr}{Q:Env->Shared->Prop}
  (h:Q (newEnv scope s.heap.objs.size globals (cellsFrom (s.heap.objs.size+1) scope.names closure) qual func code (some eZ) builtins)
   {s with heap:=pushCells (s.heap.push {cls:=.type "dict",data:=.dict #[]}) scope.names}):
  wpAny M A (newFunctionEnv scope globals closure [] qual func code (some eZ) builtins) Q E s:=by
 simp only[newFunctionEnv,Option.isSome_some,if_true];refine fO (wpAny_alloc ?_);refine fO (wpAny_layCells _ (fun n k c=>rfl) scope.names closure _ _ ?_);rw[show({s with heap:=s.heap.push {cls:=.type "dict",data:=.dict #[]}}:Shared).heap.objs.size=s.heap.objs.size+1 from wU ..];rw[List.forIn_nil];exact fO (kJ (kJ h))
theorem Ri{sc:Scope}:∀{names:List (Str×NameKind)}{x:Str}{k:NameKind},
  (names.map fun(n,k)=>if (k==NameKind.free&&sc.kind==.function&&sc.names.lookup n==some .cell)then(n,NameKind.cell)else(n,k)).lookup x=some k->
  ∃fj,names.lookup x=some fj/\(k=fj\/(fj=.free/\k=.cell))
 |[],_,_,h=>by simp at h
 |(n,J9)::r,x,k,h=>by
  have eL:=@Ri sc r x k;have h':List.lookup x ((if (J9==NameKind.free&&sc.kind==.function&&sc.names.lookup n==some .cell)=true then(n,NameKind.cell)else(n,J9))::(r.map _))=some k:=h;cases Y:x==n with
  |true=>
   simp only[Fc,Y];by_cases aB:(J9==NameKind.free&&sc.kind==.function&&sc.names.lookup n==some .cell)=true
   .rw[bT aB]at h';simp only[Fc,Y]at h';cases h';simp only[jA,beq_iff_eq]at aB;exact⟨J9,z,.inr ⟨aB.1.1,z⟩⟩
   .rw[bz aB]at h';simp only[Fc,Y]at h';cases h';exact⟨_,z,.inl z⟩
  |false=>
   simp only[Fc,Y];by_cases aB:(J9==NameKind.free&&sc.kind==.function&&sc.names.lookup n==some .cell)=true
   .rw[bT aB]at h';simp only[Fc,Y]at h';exact eL h'
   .rw[bz aB]at h';simp only[Fc,Y]at h';exact eL h'
structure Fl(N:List Str)(sc scope:Scope)(own:List (Str×Nat)):Prop where
 kind:scope.kind=.function
 TL:∀y∈scope.names,scope.names.lookup y.1=some y.2
 alD:∀p∈own,N[p.2]?=some p.1
 free:∀y∈scope.names,y.2=.free->sc.names.lookup y.1=some .cell\/sc.names.lookup y.1=some .free
 own:∀y∈scope.names,y.2=.local\/y.2=.cell->y.1∈own.map (·.1)\/y.1∉N
def jb(O:St):List Nat->St
 |[]=>O
 |v::vs=>(jb O vs).set v none
theorem TV(O:St):∀vs:List Nat,(jb O vs).length=O.length
 |[]=>rfl
 |v::vs=>by unfold jb;rw[List.length_set,TV O vs]
theorem TX{O:St}{i:Nat}{x:aa}:∀{vs:List Nat},(jb O vs)[i]?=some (some x)->O[i]?=some (some x)/\i∉vs
 |[],h=>⟨h,by simp⟩
 |v::vs,h=>by
  unfold jb at h;by_cases aF:v=i
  .subst aF;by_cases a6:v<(jb O vs).length
   .rw[getElem?_set_self a6]at h;cases h
   .rw[Fd (by simpa using a6)]at h;cases h
  .rw[List.getElem?_set_ne aF]at h;obtain⟨ai,aj⟩:=TX h;exact⟨ai,by simp only[dG,not_or];exact⟨fun e=>aF e.symm,aj⟩⟩
abbrev cQ.m7(X:cQ)(s:Shared)(H:aA)(scope:Scope)(kD:Env)(cM:List Addr):cQ:={X with jw:=s,ym:=H,env:=kD,outer:=X.stack,ex:=cM,fn:=fun x=>scope.names.lookup x==some .cell,ef:=[],fJ:=fun _ _=>False}
section
variable{X:cQ}{ao:List (Addr×Obj)}{O:St}{H:aA}{s:Shared}
theorem agh{scope:Scope}{own:List (Str×Nat)}{cM:List Addr}(J:Inv X ao O H s)(ok:Fl X.N X.env.scope scope own)(h7:X.N.Nodup)(vv:∀b∈cM,vc X ao H b/\b<s.heap.objs.size):
  Inv (X.m7 s H scope (compEnvC scope (cellsFrom (s.heap.objs.size+1) scope.names (n8 X.env.cells scope.names [])) s.heap.objs.size X.env) cM) [] (jb O (own.map (·.2))) H {s with heap:=pushCells (s.heap.push {cls:=.type "dict",data:=.dict #[]}) scope.names}:=by
 have DV:∀y∈scope.names,y.2=.free->∃c,X.env.cells.lookup y.1=some c:=fun y bu e=>by
  rcases ok.free y bu e with k|k
  .exact J.ok.has _ (.inl k)
  .exact J.ok.has _ (.inr k)
 generalize JI:compEnvC scope (cellsFrom (s.heap.objs.size+1) scope.names (n8 X.env.cells scope.names [])) s.heap.objs.size X.env=kD;have cN:∀b o,s.heap.get? b=some o->(pushCells (s.heap.push {cls:=.type "dict",data:=.dict #[]}) scope.names).get? b=some o:=fun b o e=>pushCells_keeps _ _ _ _ (ph _ e);have jp:kD.locals=s.heap.objs.size:=by rw[<-JI];rfl
 have oV:kD.cells=cellsFrom (s.heap.objs.size+1) scope.names (n8 X.env.cells scope.names []):=by rw[<-JI];rfl
 have QK:kD.scope=apS scope X.env.scope:=by rw[<-JI];rfl
 rw[<-wU s.heap {cls:=.type "dict",data:=.dict #[]}]at oV;have F2:∀{y c},(y,c)∈n8 X.env.cells scope.names []->X.env.cells.lookup y=some c/\c<s.heap.objs.size:=fun{y c}aM=>by
  rcases LH aM with aM|⟨ai,rfl⟩
  .cases aM
  .obtain⟨c,aB⟩:=DV _ ai z;rw[aB];obtain⟨w,I⟩:=J.cell _ _ aB;exact⟨z,I.lt⟩
 have mem:∀{y c},kD.cells.lookup y=some c->(X.env.cells.lookup y=some c/\c<s.heap.objs.size)\/(s.heap.objs.size+1<=c/\Ue (pushCells (s.heap.push {cls:=.type "dict",data:=.dict #[]}) scope.names) c none):=fun{y c}e=>by
  rw[oV]at e;rcases FZ (uo e)with aM|⟨_,aj,bN⟩
  .exact .inl (F2 aM)
  .rw[wU]at aj;exact .inr ⟨aj,bN⟩
 have vC:∀{y},scope.names.lookup y=some .free->∃c,kD.cells.lookup y=some c/\X.env.cells.lookup y=some c:=fun{y}aD=>by
  have bu:(y,NameKind.free)∈scope.names:=uo aD;obtain⟨c',c5⟩:=Rr (LG (names:=scope.names) (n:=(s.heap.push {cls:=.type "dict",data:=.dict #[]}).objs.size) (OY (cells:=X.env.cells) (acc:=[]) bu));rw[<-oV]at c5;refine⟨c',c5,?_⟩;rw[oV]at c5;rcases FZ (uo c5)with aM|⟨ai,_,_⟩
  .exact(F2 aM).1
  .have:=ok.TL _ ai;rw[aD]at this;cases this
 have aoa:(X.m7 s H scope kD cM).ux:=by
  refine⟨J.ok.mod,by show kD.scope.kind=_;rw[QK];exact ok.kind,by show kD.globals=_;rw[<-JI];exact J.ok.yL,by show kD.builtins=_;rw[<-JI];exact J.ok.BD,by show s.heap.objs.size<=kD.locals;rw[jp];exact dW _,
   fun y I c ay aq=>?_,fun y bu=>?_,fun y c I e=>?_,J.ok.aG,J.ok.frames,.inl z,fun b ae=>⟨?_,fun y c e I=>?_⟩,J.bs,i3 J.ok.wh J.qq,fun b o e ae=>?_,fun b ae I=>?_,J.stack,J.NR⟩
  .have ay:kD.cells.lookup y=some c:=ay;have aq:kD.cells.lookup I=some c:=aq;rw[oV]at ay aq;refine OU (fun p aN=>?_) (fun y I c a b=>J.ok.inj y I c (F2 a).1 (F2 b).1) (uo ay) (uo aq);rw[wU];exact Nat.lt_succ_of_lt (F2 (y:=p.1) (c:=p.2) aN).2
  .show ∃c,kD.cells.lookup y=some c;have key:∀k,kD.kindOf y=some k->(k=.cell\/k=.free)->∃c,kD.cells.lookup y=some c:=fun k aJ qI=>by
    unfold Env.kindOf at aJ;rw[QK]at aJ;obtain⟨fj,e,r⟩:=Ri aJ;have:fj=.cell\/fj=.free:=by
     rcases r with rfl|⟨rfl,_⟩
     .exact qI
     .exact .inr z
    rcases this with rfl|rfl
    .obtain⟨c,aM⟩:=OT (n:=(s.heap.push {cls:=.type "dict",data:=.dict #[]}).objs.size) (acc:=n8 X.env.cells scope.names []) (uo e);obtain⟨c',c5⟩:=Rr aM;exact⟨c',by rw[oV];exact c5⟩
    .obtain⟨c,ai,_⟩:=vC e;exact⟨c,ai⟩
   rcases bu with bu|bu
   .exact key _ bu (.inl z)
   .exact key _ bu (.inr z)
  .have I:(scope.names.lookup y==some NameKind.cell)=true:=I;have I:scope.names.lookup y=some .cell:=by simpa using I
   have e:kD.cells.lookup y=some c:=e;rw[oV]at e;rcases FZ (uo e)with aM|⟨_,aj,_⟩
   .rcases LH aM with aM|⟨ai,_⟩
    .cases aM
    .have q:=ok.TL _ ai;rw[I]at q;cases q
   .rw[wU]at aj;exact le_of_succ_le aj
  .show b≠kD.locals;rw[jp];exact pn (vv b ae).2
  .have e:kD.cells.lookup y=some c:=e;rcases mem e with⟨ai,_⟩|⟨ai,_⟩
   .exact(vv b ae).1.2.2.2.2.1 y c ai I
   .have aj:s.heap.objs.size+1<=b:=by rw[<-I];exact ai
    exact absurd (mY (vv b ae).2 (le_of_succ_le aj)) (zK _)
  .rcases(vv b ae).1.2.2.2.1 with I|I
   .exact J.ok.Ex b o e I
   .exact absurd (mY (iW e) (i3 J.ok.wh I)) (zK _)
  .rcases dG.mp (J.EP b I)with I|I
   .exact(vv b ae).1.2.1 I
   .exact(vv b ae).1.2.2.1 I
 refine⟨aoa,z,J.jY,kc.kept cN,⟨fun _=>none,?_,fun i y bS ay aq bB=>?_⟩,fun y c e=>?_,?_,fun y c e=>?_,fun p aN=>?_,J.cG.kept cN,by rw[TV];exact J.len⟩
 .show Heap.Ns _ kD.locals _;rw[jp];exact Heap.Ns.keeps (Heap.Ns.new ..) fun b o e=>pushCells_keeps _ _ _ _ e
 .obtain⟨aq,ki⟩:=TX aq;have As:scope.names.lookup y=some .free/\(kD.kindOf y=some .cell\/kD.kindOf y=some .free):=by
   have key:∀k,kD.scope.names.lookup y=some k->k=.local\/k=.cell\/k=.free->scope.names.lookup y=some .free/\(kD.kindOf y=some .cell\/kD.kindOf y=some .free):=fun k aJ qI=>by
    have XU:=aJ;rw[QK]at aJ;obtain⟨fj,e,r⟩:=Ri aJ;have no:¬(fj=.local\/fj=.cell):=fun ee=>by
     rcases ok.own _ (uo e) ee with c5|c5
     .obtain⟨p,aN,akT⟩:=vY.mp c5;have bB:=ok.alD p aN;have:p.1=y:=akT;rw[this]at bB;exact ki (vY.mpr ⟨p,aN,RP h7 bB ay⟩)
     .exact c5 (jc ay)
    rcases r with rfl|⟨rfl,rfl⟩
    .rcases qI with rfl|rfl|rfl
     .exact absurd (.inl z) no
     .exact absurd (.inr z) no
     .exact⟨e,.inr XU⟩
    .exact⟨e,.inl XU⟩
   have bB:FO kD.scope y:=bB;rcases bB with bB|bB|bB
   .exact key _ bB (.inl z)
   .exact key _ bB (.inr (.inl z))
   .exact key _ bB (.inr (.inr z))
  obtain⟨m,br,aD⟩:=J.nL;have ala:FO X.env.scope y:=(ok.free _ (uo As.1) z).elim (fun k=>.inr (.inl k)) (fun k=>.inr (.inr k));obtain⟨w,r,q⟩:=aD i y bS ay aq ala;refine⟨w,r,.inr ⟨As.2,?_⟩⟩;obtain⟨c,ai,aj⟩:=vC As.1;rcases q with⟨k,_⟩|⟨_,c',c5,I⟩
  .have k:X.env.scope.names.lookup y=some .local:=k;rcases ok.free _ (uo As.1) z with fj|fj<;>rw[show X.env.scope.names.lookup y=_ from fj]at k<;>cases k
  .rw[aj]at c5;cases c5;exact⟨c,ai,I.keeps cN⟩
 .have e:kD.cells.lookup y=some c:=e;rcases mem e with⟨ai,_⟩|⟨_,I⟩
  .obtain⟨w,I⟩:=J.cell y c ai;exact⟨w,I.keeps cN⟩
  .exact⟨_,I⟩
 .show H kD.locals=none;rw[jp];exact J.cG.fresh (dW _)
 .have e:kD.cells.lookup y=some c:=e;rcases mem e with⟨ai,_⟩|⟨ai,_⟩
  .exact J.rC y c ai
  .exact J.cG.fresh (le_of_succ_le ai)
 .exact absurd (show p∈([]:List (Addr×Obj))++[]from aN) (by simp)
theorem ae9{E:Value->Shared->Prop}{D:Addr}{xs:List aa}{y:aa}{v:Value}{Q:Value->Shared->Prop}(J:Inv X ao O H s)(lH:H D=some (.ak xs))(bR:xs.length<sizeLine)(r:RelV y v)
  (h:∀aZ,Inv X ao O (V H D (.ak (xs++[y]))) aZ->Q .none aZ):wpAny (model X.prog X.w) X.A (call (.builtin "list.append") [.ref D,v]) Q E s:=by
 obtain⟨auP,bK,n,Nq,e⟩:=J.cG D _ lH;have aD:=Nq.length;refine append_at (hsz:=by rw[mj];omega) e fun h' iZ tW=>?_;refine h {s with heap:=h'} (J.zG (t':=s.toks) (by rw[lH];trivial) (.inl z) (fun b u ae q=>(iZ.2 b ae).trans q) ⟨_,tW⟩ ⟨by rw[g8];exact bR,bK++[v],n+1,Nq.append (.cons r .nil),?_⟩);rw[tW];simp
def Lq(X:cQ)(pN:List Expr)(t:lB):Prop:=
 ∀(ao:List (Addr×Obj))(s:Shared)(O:St)(H:aA)(Q:Bool->aA->Prop),Inv X ao O H s->t O H Q->
  wpAny (model X.prog X.w) X.A (forIn pN true fun c r=>if r=true then do let ok<-isTrue c X.env (eval c X.env);pure (ForInStep.yield ok)else pure (ForInStep.yield r)) (Ls X ao O Q) X.fJ s
def adw:lB:=fun _ H Q=>Q true H
theorem zx:Lq X [] adw:=fun _ _ _ H _ J h=>wpAny_tests_nil ⟨H,J,h⟩
end
theorem ET{cL:Type}{t:Sem cL}{Q Ae:cL->Shared->Prop}{M:Model}{A:Around}{E:Value->Shared->Prop}{s:Shared}(h:wpAny M A t Q (fun _ _=>False) s)(B5:∀a s,Q a s->Ae a s):wpAny M A t Ae E s:=mH h B5 fun _ _ I=>False.elim I
theorem ag3{prog:Program}{w:World}{A:Around}{R:Result->Shared->Prop}{s:Shared}{qc ES iter:Expr}{pN:List Expr}{scope:Scope}{pos:Pos}{fZ acc:Value}{env:Env}(J:Nat->Shared->Prop)
  (x7:∀n s,J n s->wpAny (model prog w) A (pyNext fZ) (fun r gJ=>match r with
   |none=>R (.ok .next) gJ
   |some v=>wpAny (model prog w) A (letOwnedTupleGo ES fZ v) (fun _ adl=>wpAny (model prog w) A (assign ES env v) (fun _ uV=>
     wpAny (model prog w) A (forIn pN true fun c r=>if r=true then do let ok<-isTrue c env (eval c env);pure (ForInStep.yield ok)else pure (ForInStep.yield r)) (fun ok EQ=>
      if ok=true then wpAny (model prog w) A (eval qc env) (fun x adm=>
       wpAny (model prog w) A (call (.builtin "list.append") [acc,x]) (fun _ adn=>∃m,m<n/\J m adn) (notedBy (model prog w) A env fun e aZ=>R (.error e) aZ) adm) (notedBy (model prog w) A env fun e aZ=>R (.error e) aZ) EQ
      else ∃m,m<n/\J m EQ) (notedBy (model prog w) A env fun e aZ=>R (.error e) aZ) uV) (notedBy (model prog w) A env fun e aZ=>R (.error e) aZ) adl) (notedBy (model prog w) A env fun e aZ=>R (.error e) aZ) gJ) (notedBy (model prog w) A env fun e aZ=>R (.error e) aZ) s)
  (n:Nat)(h:J n s):
  codeAny (model prog w) A (.compLoop (.ListComp qc [⟨ES,iter,pN,0⟩] scope pos) 0 fZ acc env) R s:=by
 refine codeAny_loop z J (fun n s B4=>?_) n h;show wpAny _ A ((compTurn (.ListComp qc [⟨ES,iter,pN,0⟩] scope pos) 0 fZ acc env).onRaise (fun x=>do noteFrame x env;theTreesLotGoes x)) _ _ s;refine wpAny_noted ?_;rw[compTurn_list];refine fO (wpAny_standAt (fO (mH (x7 n s B4) (fun r gJ Mt=>?_) fun _ _ h'=>h')));cases r with
 |none=>exact kJ Mt
 |some v=>
  refine fO (mH Mt (fun _ adl aln=>?_) fun _ _ h'=>h');refine fO (mH aln (fun _ uV J1=>fO (mH J1 (fun ok EQ Mu=>?_) fun _ _ h'=>h')) fun _ _ h'=>h');cases ok with
  |false=>exact kJ ⟨z,Mu⟩
  |true=>
   exact fO (fO (mH Mu (fun x adm alo=>fO (mH alo (fun _ adn alp=>kJ (kJ ⟨z,alp⟩)) fun _ _ h'=>h')) fun _ _ h'=>h'))
section
variable{X:cQ}
def NT(ow:nZ)(g:nD)(kI:lB)(te:eB)(vs:List Nat):eB:=fun O H Q=>ow O H fun cX aI=>∀D,aI D=none->∃W:Nat->Nat->aA->Prop,(∃m,W 0 m (V aI D (.ak [])))/\∀i m H,W i m H->
 (cX.tu i H/\Q (.ref D) H)\/(cX.go i H/\∃nX:aA->Prop,(∀H',nX H'->∃dB,dB<m/\W (i+1) dB H')/\∀x H',cX.wR i H x H'->g x (jb O vs) H' fun gu a7=>jb gu vs=jb O vs/\kI gu a7 fun b bI=>
  if b=true then te gu bI fun y b6=>∃acc,b6 D=some (.ak acc)/\acc.length<sizeLine/\nX (V b6 D (.ak (acc++[y])))else nX bI)
theorem YQ{ao:List (Addr×Obj)}{s:Shared}{O:St}{H:aA}{Q:gc}{qc gR iter:Expr}{pN:List Expr}{scope:Scope}{own:List (Str×Nat)}{pos uR:Pos}{ow:nZ}{g:nD}{kI:lB}{te:eB}{use:Option (Value->Sem Unit)}{FI:Value->Shared->Prop}
  (aB:X.calm=true)(h7:X.N.Nodup)(J:Inv X ao O H s)(aF:Ab X gR iter ow)(ok:Fl X.N X.env.scope scope own)
  (dz:∀(s:Shared)(H:aA)(C:Addr)(cl:List (Str×Addr))(cM:List Addr),w7 (X.m7 s H scope (compEnvC scope cl C X.env) cM) gR g)(bO:∀(s:Shared)(H:aA)(C:Addr)(cl:List (Str×Addr))(cM:List Addr),Lq (X.m7 s H scope (compEnvC scope cl C X.env) cM) pN kI)
  (cz:∀(s:Shared)(H:aA)(C:Addr)(cl:List (Str×Addr))(cM:List Addr),dS (X.m7 s H scope (compEnvC scope cl C X.env) cM) qc te)(aL:∀x,foldedSetIterable iter X.env x=pure x)
  (h:NT ow g kI te (own.map (·.2)) O H Q)
  (ajP:∀D C aZ m H',Inv X ao O H' aZ->Q (.ref D) H'->aZ.heap.Ns C m->vc X ao H' C->compPost (model X.prog X.w) X.A X.fJ use FI (.ref D) C (.ok .next) aZ):
  wpAny (model X.prog X.w) X.A (comprehension (.ListComp qc [⟨gR,iter,pN,0⟩] scope pos) scope X.env uR (newList []) false (eval iter X.env) use) FI X.fJ s:=by
 have DV:∀y∈scope.names,y.2=.free->∃c,X.env.cells.lookup y.1=some c:=fun y bu e=>by
  rcases ok.free y bu e with k|k
  .exact J.ok.has _ (.inl k)
  .exact J.ok.has _ (.inr k)
 refine wpAny_comprehension_free (use:=use) z aL (agO DV) ok.kind (fun y bu e=>by rw[ok.TL y bu,e])
  (eJ (aF ao s O H _ J h) fun TZ aU Y=>eJ Y fun Q3 bD aj=>?_)
 obtain⟨fZ,cM,qs,cX,a7,e,fy,T,NP,f2,q⟩:=aj;subst e;refine wpAny_newObj_type (anG ?_) (by show 0<=sizeLine;decide);generalize lH:bD.heap.objs.size=D;have ajH:a7 D=none:=fy.cG.fresh (le_of_eq lH);obtain⟨W,⟨uO,E4⟩,x7⟩:=q D ajH;generalize rG:({bD with heap:=bD.heap.push {cls:=.type "list",data:=.seq ([]:List Value).toArray}}:Shared)=b4;have lS:Inv X ao O (V a7 D (.ak [])) b4:=by
  rw[<-rG];refine fy.i9 (t':=bD.toks) (fun b o e=>ph _ e) (le_of_eq lH) ⟨jV _,[],0,.nil,?_⟩;rw[<-lH];exact vW _ z
 have bN:b4.heap=bD.heap.push {cls:=.type "list",data:=.seq ([]:List Value).toArray}:=by rw[<-rG]
 have qq:∀b∈cM,b<bD.heap.objs.size:=fun b ae=>by
  obtain⟨o,e,_⟩:=T.obj _ _ NP b ae;exact iW e
 have jG:∀b∈cM,vc X ao (V a7 D (.ak [])) b/\b<b4.heap.objs.size:=fun b ae=>by
  have eY:=qq b ae;refine⟨⟨?_,(f2 b ae).2⟩,by rw[bN,wU];exact Nat.lt_succ_of_lt eY⟩;rw[aK (by rw[<-lH];exact pn eY)];exact(f2 b ae).1
 have NQ:qs 0 b4.heap:=T.keep _ _ _ NP fun b _ o e=>by rw[bN];exact ph _ e
 have zZ:=agh lS ok h7 jG;have fR:=dz b4 (V a7 D (.ak [])) b4.heap.objs.size (cellsFrom (b4.heap.objs.size+1) scope.names (n8 X.env.cells scope.names [])) cM;have s9:=bO b4 (V a7 D (.ak [])) b4.heap.objs.size (cellsFrom (b4.heap.objs.size+1) scope.names (n8 X.env.cells scope.names [])) cM;have Sm:=cz b4 (V a7 D (.ak [])) b4.heap.objs.size (cellsFrom (b4.heap.objs.size+1) scope.names (n8 X.env.cells scope.names [])) cM;show codeAny _ _ (.compStart (.ListComp qc [⟨gR,iter,pN,0⟩] scope pos) 0 (.ref fZ) (.ref D) (compEnvC scope (cellsFrom (b4.heap.objs.size+1) scope.names (n8 X.env.cells scope.names [])) b4.heap.objs.size X.env)) (compPost (model X.prog X.w) X.A X.fJ use FI (.ref D) b4.heap.objs.size) {b4 with heap:=pushCells (b4.heap.push {cls:=.type "dict",data:=.dict #[]}) scope.names};have ZP:∀b∈cM,(V a7 D (.ak [])) b=none:=fun b ae=>(jG b ae).1.1;generalize ajZ:compEnvC scope (cellsFrom (b4.heap.objs.size+1) scope.names (n8 X.env.cells scope.names [])) b4.heap.objs.size X.env=ce at zZ fR s9 Sm⊢;have Vu:ce.locals=b4.heap.objs.size:=by subst ajZ;rfl
 generalize auD:V a7 D (.ak [])=bI at lS zZ fR s9 Sm E4 ZP jG;generalize uL:({b4 with heap:=pushCells (b4.heap.push {cls:=.type "dict",data:=.dict #[]}) scope.names}:Shared)=eo at zZ⊢;have adi:qs 0 eo.heap:=T.keep _ _ _ NQ fun b _ o e=>by rw[<-uL];exact pushCells_keeps _ _ _ _ (ph _ e)
 have CX:∀{cB:St}{H':aA}{aZ:Shared},Inv (X.m7 b4 bI scope ce cM) [] cB H' aZ->(∀b∈cM,H' b=none)->∀b∈cM,vc (X.m7 b4 bI scope ce cM) [] H' b:=fun{cB H' aZ}pC br b ae=>
  ⟨br b ae,(pC.ok.HJ b ae).1,pC.ok.DL b ae,.inl ae,fun x c e=>(pC.ok.HJ b ae).2 x c e,fun p aN=>absurd (show p∈([]:List (Addr×Obj))++[]from aN) (by simp)⟩
 have loop:codeAny (model X.prog X.w) X.A (.compLoop (.ListComp qc [⟨gR,iter,pN,0⟩] scope pos) 0 (.ref fZ) (.ref D) ce) (compPost (model X.prog X.w) X.A X.fJ use FI (.ref D) b4.heap.objs.size) eo:=by
  refine ag3 (fun n aZ=>∃i H',Inv (X.m7 b4 bI scope ce cM) [] (jb O (own.map (·.2))) H' aZ/\qs i aZ.heap/\(∀b∈cM,H' b=none)/\W i n H') ?_ uO ⟨0,bI,zZ,adi,ZP,E4⟩;rintro n lO ⟨i,H5,Do,EO,Kn,E5⟩;rcases x7 i n H5 E5 with⟨tu,apw⟩|⟨go,nX,ajM,step⟩
  .have jJ:=T.done (X.m7 b4 bI scope ce cM) z z z aB i [] lO _ H5 (fun _ _=>False) Do (CX Do Kn) EO tu;refine ET jJ fun r ol⟨aO,z0⟩=>?_;subst aO;have q8:Inv X ao O H5 ol:=lS.Vv (ch:=cM) z0.os z0.base z0.cG z0.jY fun b ae=>⟨(jG b ae).1.2.2.2.1,(jG b ae).1.2.1,(jG b ae).1.2.2.2.2.1,(jG b ae).1.2.2.2.2.2⟩;have anv:H5 b4.heap.objs.size=none:=by
    have I:H5 ce.locals=none:=z0.free;rw[Vu]at I;exact I
   obtain⟨m,br,_⟩:=z0.nL;have br:ol.heap.Ns ce.locals m:=br;rw[Vu]at br;exact ajP D b4.heap.objs.size ol m H5 q8 apw br (lS.Jo (dW _) anv)
  .have vS:=T.item (X.m7 b4 bI scope ce cM) z z z aB i [] lO _ H5 (fun _ _=>False) Do (CX Do Kn) EO go;refine ET vS fun r ol⟨u,aO,sR⟩=>?_;subst aO;refine ET sR fun _ CS⟨x,pB,q8,zy,adV,Tq,Cr⟩=>?_;have aee:=q8.aaR (CX q8 Cr) (T.obj _ _ Tq);refine ET (fR _ CS _ pB x u _ aee zy (step x pB adV)) fun _ KW⟨Ob,Dm,aef,Yq,CN⟩=>?_;refine ET (s9 _ KW Ob Dm _ aef CN) fun b aqd⟨Dn,Uq,A2⟩=>?_;have fin:∀{aZ:Shared}{H':aA},Inv (X.m7 b4 bI scope ce cM) ([]++KG cM CS.heap) Ob H' aZ->nX H'->∃m,m<n/\∃i H',Inv (X.m7 b4 bI scope ce cM) [] (jb O (own.map (·.2))) H' aZ/\qs i aZ.heap/\(∀b∈cM,H' b=none)/\W i m H':=fun{aZ H'}pC dF=>by
    obtain⟨dB,aM,zF⟩:=ajM H' dF;have aaQ:∀b∈cM,∀o,CS.heap.get? b=some o->aZ.heap.get? b=some o/\H' b=none:=fun b ae o e=>
     let I:=pC.pR (b,o) (r9 _ (r9 _ (Rt ae e)))
     ⟨I.1,I.2.1⟩
    have aD:(jb O (own.map (·.2))).length=Ob.length:=by rw[<-Yq,TV]
    refine⟨dB,aM,i+1,H',(pC.N1 (ao:=[])).E6 aD (fun j v e=>?_),T.keep _ _ _ Tq fun b ae o e=>(aaQ b ae o e).1,fun b ae=>?_,zF⟩
    .rw[<-Yq]at e;exact(TX e).1
    .obtain⟨o,e,_⟩:=T.obj _ _ Tq b ae;exact(aaQ b ae o e).2
   cases b with
   |false=>
    simp only[Bool.false_eq_true,if_false]at A2⊢;exact fin Uq A2
   |true=>
    simp only[if_true]at A2⊢;refine ET (Sm _ aqd Ob Dn _ Uq A2) fun I avh⟨T3,at4,aeb,apy,acc,ajG,alj,dF⟩=>?_;exact ae9 (X:=X.m7 b4 bI scope ce cM) aeb ajG alj apy fun avi aec=>fin aec dF
 exact codeAny_compStart_list loop (T.self X.A 0 _ _ _ adi loop)
theorem M9{qc gR iter:Expr}{pN:List Expr}{scope:Scope}{own:List (Str×Nat)}{pos:Pos}{ow:nZ}{g:nD}{kI:lB}{te:eB}(aB:X.calm=true)(h7:X.N.Nodup)(aF:Ab X gR iter ow)(ok:Fl X.N X.env.scope scope own)
  (dz:∀(s:Shared)(H:aA)(C:Addr)(cl:List (Str×Addr))(cM:List Addr),w7 (X.m7 s H scope (compEnvC scope cl C X.env) cM) gR g)(bO:∀(s:Shared)(H:aA)(C:Addr)(cl:List (Str×Addr))(cM:List Addr),Lq (X.m7 s H scope (compEnvC scope cl C X.env) cM) pN kI)
  (cz:∀(s:Shared)(H:aA)(C:Addr)(cl:List (Str×Addr))(cM:List Addr),dS (X.m7 s H scope (compEnvC scope cl C X.env) cM) qc te)(aL:∀x,foldedSetIterable iter X.env x=pure x:=by intro _;rfl):
  dS X (.ListComp qc [⟨gR,iter,pN,0⟩] scope pos) (NT ow g kI te (own.map (·.2))):=by
 intro ao s O H Q J h;rw[eval_ListComp];refine YQ aB h7 J aF ok dz bO cz aL h fun D C aZ m H' pC q br f=>⟨m,br,fun DQ iZ=>?_⟩;obtain⟨qD,f1,f2,jG,pJ,sL⟩:=f;exact⟨.ref D,H',pC.Bb (t':=aZ.toks) (fun b o ae e=>(iZ.2 b ae).trans e) qD f1 jG pJ sL,z,q⟩
theorem KJ{i:Nat}{y:Str}{CM:Pos}{qc gR iter:Expr}{pN:List Expr}{scope:Scope}{own:List (Str×Nat)}{pos adg:Pos}{ow:nZ}{g:nD}{kI:lB}{te:eB}(aB:X.calm=true)(h7:X.N.Nodup)(bu:X.N[i]?=some y)(Yt:X.env.scope.names.lookup y=some .local)
  (ak0:swapsWith (.ListComp qc [⟨gR,iter,pN,0⟩] scope pos) (some (.Name y CM)) adg.line X.env=pure true)(aF:Ab X gR iter ow)(ok:Fl X.N X.env.scope scope own)
  (dz:∀(s:Shared)(H:aA)(C:Addr)(cl:List (Str×Addr))(cM:List Addr),w7 (X.m7 s H scope (compEnvC scope cl C X.env) cM) gR g)(bO:∀(s:Shared)(H:aA)(C:Addr)(cl:List (Str×Addr))(cM:List Addr),Lq (X.m7 s H scope (compEnvC scope cl C X.env) cM) pN kI)
  (cz:∀(s:Shared)(H:aA)(C:Addr)(cl:List (Str×Addr))(cM:List Addr),dS (X.m7 s H scope (compEnvC scope cl C X.env) cM) qc te)(aL:∀x,foldedSetIterable iter X.env x=pure x:=by intro _;rfl):
  ri X (.Assign [.Name y CM] (.ListComp qc [⟨gR,iter,pN,0⟩] scope pos) adg) (Tu (NT ow g kI te (own.map (·.2))) (BU i)):=by
 intro ao s O H D J h;rw[exec_Assign_Name_used _ _ _ _ ak0];refine fO (wpAny_standAt (fO ?_));show wpAny _ X.A (do let _<-comprehension (.ListComp qc [⟨gR,iter,pN,0⟩] scope pos) scope X.env (firstIterPos [⟨gR,iter,pN,0⟩] pos) (newList []) false (eval iter X.env) (some (assign (.Name y CM) X.env))) _ _ s;have h:NT ow g kI te (own.map (·.2)) O H (fun x aI=>BU i x O aI D.dF):=h;refine fO (eJ (YQ (FI:=fun _ aZ=>tK X ao D .next aZ) aB h7 J aF ok dz bO cz aL h fun L C aZ m H' pC q br f=>?_) fun _ aZ a9=>kJ (kJ a9));show wpAny _ _ (assign (.Name y CM) X.env (.ref L)) _ _ _;refine wpAny_assign_Name (Tr (v:=aa.ref L) pC h7 bu (.inl Yt) z (fun bD fy⟨a,iZ,cC⟩=>?_) (.inr Yt));obtain⟨qD,f1,f2,jG,pJ,sL⟩:=f;have ajS:C≠a:=by
  rcases cC with I|I
  .rw[I];exact f1
  .exact fun e=>pJ y a I e.symm
 refine⟨m,br.sameBut iZ ajS,fun bN aqg=>?_⟩;exact⟨_,H',fy.Bb (t':=bD.toks) (fun b o ae e=>(aqg.2 b ae).trans e) qD f1 jG pJ sL,q⟩
theorem K0{qc:Expr}{sP:List Comprehension}{scope:Scope}{pos CM:Pos}{y:Str}{l:Nat}{env:Env}(aJ:env.scope.kind=.function)(bu:env.scope.names.lookup y=some .local)(aD:(CM.line==pos.line)=true)
  (cC:(scope.names.any fun(n,k)=>n==y&&(k==.local||k==.cell))=false):swapsWith (.ListComp qc sP scope pos) (some (.Name y CM)) l env=pure true:=by
 have alV:env.kindOf y=some .local:=bu;have ae:env.blockKind=.function:=by unfold Env.blockKind;rw[aJ];rfl
 unfold swapsWith;simp only[ae,alV,cC,Expr.pos,aD];rfl
end
theorem al0{lo:Int}{n:Nat}{g:nD}{kI:lB}{te:eB}{vs:List Nat}{O:St}{aI:aA}{D:Addr}{wd:aA->Prop}(e6:Nat->aA->Prop)(cP:e6 0 (V aI D (.ak [])))
  (aL:∀i H,i<n->e6 i H->g (.int (lo+i)) (jb O vs) H fun gu a7=>jb gu vs=jb O vs/\kI gu a7 fun b bI=>
   if b=true then te gu bI fun y b6=>∃acc,b6 D=some (.ak acc)/\acc.length<sizeLine/\e6 (i+1) (V b6 D (.ak (acc++[y])))else e6 (i+1) bI)(aG:∀H,e6 n H->wd H):
  ∃W:Nat->Nat->aA->Prop,(∃m,W 0 m (V aI D (.ak [])))/\∀i m H,W i m H->
   ((yo lo n).tu i H/\wd H)\/((yo lo n).go i H/\∃nX:aA->Prop,(∀H',nX H'->∃dB,dB<m/\W (i+1) dB H')/\∀x H',(yo lo n).wR i H x H'->g x (jb O vs) H' fun gu a7=>jb gu vs=jb O vs/\kI gu a7 fun b bI=>
    if b=true then te gu bI fun y b6=>∃acc,b6 D=some (.ak acc)/\acc.length<sizeLine/\nX (V b6 D (.ak (acc++[y])))else nX bI):=by
 refine⟨fun i m H=>m=n -i/\i<=n/\e6 i H,⟨n,by simp,jV _,cP⟩,?_⟩;rintro i m H ⟨rfl,aF,p⟩;by_cases eY:i<n
 .refine .inr ⟨eY,e6 (i+1),fun H' lN=>⟨n -(i+1),by omega,z,eY,lN⟩,fun x H' y=>?_⟩;obtain⟨e,y⟩:=y;subst e y;exact aL i _ eY p
 .have e:i=n:=by omega
  subst e;exact .inl ⟨dW _,aG H p⟩
theorem Ka{K:Frag}{a:Addr}{xs:List aa}{g:nD}{kI:lB}{te:eB}{vs:List Nat}{O:St}{aI:aA}{D:Addr}{wd:aA->Prop}(e6:Nat->aA->Prop)(cP:e6 0 (V aI D (.ak [])))(aD:∀i H,i<=xs.length->e6 i H->bj K H a xs)
  (aL:∀i x H,xs[i]?=some x->e6 i H->g x (jb O vs) H fun gu a7=>jb gu vs=jb O vs/\kI gu a7 fun b bI=>
   if b=true then te gu bI fun y b6=>∃acc,b6 D=some (.ak acc)/\acc.length<sizeLine/\e6 (i+1) (V b6 D (.ak (acc++[y])))else e6 (i+1) bI)(aG:∀H,e6 xs.length H->wd H):
  ∃W:Nat->Nat->aA->Prop,(∃m,W 0 m (V aI D (.ak [])))/\∀i m H,W i m H->
   ((z3 K a).tu i H/\wd H)\/((z3 K a).go i H/\∃nX:aA->Prop,(∀H',nX H'->∃dB,dB<m/\W (i+1) dB H')/\∀x H',(z3 K a).wR i H x H'->g x (jb O vs) H' fun gu a7=>jb gu vs=jb O vs/\kI gu a7 fun b bI=>
    if b=true then te gu bI fun y b6=>∃acc,b6 D=some (.ak acc)/\acc.length<sizeLine/\nX (V b6 D (.ak (acc++[y])))else nX bI):=by
 refine⟨fun i m H=>m=xs.length -i/\i<=xs.length/\e6 i H,⟨xs.length,by simp,jV _,cP⟩,?_⟩;rintro i m H ⟨rfl,aF,p⟩;have q:=aD i H aF p;by_cases eY:i<xs.length
 .refine .inr ⟨⟨xs,xs[i],q,by simp[eY]⟩,e6 (i+1),fun H' lN=>⟨xs.length -(i+1),by omega,z,eY,lN⟩,fun x H' y=>?_⟩;obtain⟨e,y⟩:=y;subst e;exact aL i x _ (y xs q) p
 .have e:i=xs.length:=by omega
  subst e;exact .inl ⟨⟨xs,q,dW _⟩,aG H p⟩
theorem al1{K:Frag}{a:Addr}{xs:List aa}{g:nD}{kI:lB}{te:eB}{vs:List Nat}{O:St}{aI:aA}{D:Addr}{wd:aA->Prop}(e6:Nat->aA->Prop)(cP:e6 0 (V aI D (.ak [])))(aD:∀i H,i<=xs.length->e6 i H->je K H a xs)
  (aL:∀i x H,xs[i]?=some x->e6 i H->g x (jb O vs) H fun gu a7=>jb gu vs=jb O vs/\kI gu a7 fun b bI=>
   if b=true then te gu bI fun y b6=>∃acc,b6 D=some (.ak acc)/\acc.length<sizeLine/\e6 (i+1) (V b6 D (.ak (acc++[y])))else e6 (i+1) bI)(aG:∀H,e6 xs.length H->wd H):
  ∃W:Nat->Nat->aA->Prop,(∃m,W 0 m (V aI D (.ak [])))/\∀i m H,W i m H->
   ((z4 K a).tu i H/\wd H)\/((z4 K a).go i H/\∃nX:aA->Prop,(∀H',nX H'->∃dB,dB<m/\W (i+1) dB H')/\∀x H',(z4 K a).wR i H x H'->g x (jb O vs) H' fun gu a7=>jb gu vs=jb O vs/\kI gu a7 fun b bI=>
    if b=true then te gu bI fun y b6=>∃acc,b6 D=some (.ak acc)/\acc.length<sizeLine/\nX (V b6 D (.ak (acc++[y])))else nX bI):=by
 refine⟨fun i m H=>m=xs.length -i/\i<=xs.length/\e6 i H,⟨xs.length,by simp,jV _,cP⟩,?_⟩;rintro i m H ⟨rfl,aF,p⟩;have q:=aD i H aF p;by_cases eY:i<xs.length
 .refine .inr ⟨⟨xs,xs[i],q,by simp[eY]⟩,e6 (i+1),fun H' lN=>⟨xs.length -(i+1),by omega,z,eY,lN⟩,fun x H' y=>?_⟩;obtain⟨e,y⟩:=y;subst e;exact aL i x _ (y xs q) p
 .have e:i=xs.length:=by omega
  subst e;exact .inl ⟨⟨xs,q,dW _⟩,aG H p⟩
def Vr(N:List Str)(sc scope:Scope)(own:List (Str×Nat)):Bool:=
 (match scope.kind with|.function=>true|_=>false)&&(scope.names.all fun y=>decide (scope.names.lookup y.1=some y.2))&&(own.all fun p=>decide (N[p.2]?=some p.1))&&
  (scope.names.all fun y=>match y.2 with
   |.free=>(match sc.names.lookup y.1 with|some .cell=>true|some .free=>true|_=>false)
   |.local=>decide (y.1∈own.map (·.1))||decide (y.1∉N)
   |.cell=>decide (y.1∈own.map (·.1))||decide (y.1∉N)
   |_=>true)
theorem yy{N:List Str}{sc scope:Scope}{own:List (Str×Nat)}(h:Vr N sc scope own=true):Fl N sc scope own:=by
 unfold Vr at h;simp only[jA,zJ,tB]at h;obtain⟨⟨⟨ai,aj⟩,bN⟩,ez⟩:=h;refine⟨?_,aj,bN,fun y bu e=>?_,fun y bu e=>?_⟩
 .split at ai
  .assumption
  .cases ai
 .have q:=ez y bu;simp only[e]at q;split at q<;>first|exact .inl (by assumption)|exact .inr (by assumption)|cases q
 .have q:=ez y bu;rcases e with e|e<;>(simp only[e,Bool.or_eq_true,tB]at q;exact q)
section
variable{nS:Type}[DecidableEq nS]
def vU(kvs:List (nS×aa))(k:nS):Option aa:=(kvs.find? fun alT=>decide (alT.1=k)).map (·.2)
theorem atv{k:nS}:vU ([]:List (nS×aa)) k=none:=rfl
theorem atw{p:nS×aa}{r:List (nS×aa)}{k:nS}(e:p.1=k):vU (p::r) k=some p.2:=by simp[vU,find?_cons,e]
theorem C5{p:nS×aa}{r:List (nS×aa)}{k:nS}(e:¬p.1=k):vU (p::r) k=vU r k:=by simp[vU,find?_cons,e]
theorem rj.alC{o:Option aa}{u:Option Value}(r:rj o u):o.isSome=u.isSome:=by
 cases o with
 |none=>cases u with
  |none=>rfl
  |some _=>exact(show False from r).elim
 |some _=>cases u with
  |none=>exact(show False from r).elim
  |some _=>rfl
theorem z7.val{kvs:List (nS×aa)}{vs:List (nS×Value)}(r:z7 kvs vs)(k:nS):rj (vU kvs k) (valueAt vs k):=by
 unfold z7 at r
 induction r with
 |nil=>exact True.intro
 |@cons p q ps jv h t eL=>
  obtain⟨ai,aj⟩:=h;by_cases e:p.1=k
  .have c5:q.1=k:=ai.symm.trans e;have b:valueAt (q::jv) k=some q.2:=by simp[valueAt,find?_cons,c5]
   rw[atw e,b];exact aj
  .have c5:¬q.1=k:=fun I=>e (ai.trans I);have b:valueAt (q::jv) k=valueAt jv k:=by simp[valueAt,find?_cons,c5]
   rw[C5 e,b];exact eL
end
theorem YK{P:Program}{w:World}{k:kK}{u:Value}(r:RelV (oZ k) u):(xK P w).is k u=true:=by
 cases k with
 |inl i=>obtain⟨t,e⟩:=(show ∃t,u=Value.int i t from r);subst e;exact anh P w i t
 |inr x=>obtain⟨t,e⟩:=(show ∃t,u=Value.str x t from r);subst e;exact ani P w x t
def Ln(i:Expr):Prop:=∀lq sY,subscripted i false lq sY=operate [lq,sY] (getItem lq sY)
theorem asB{prog:Program}{w:World}{A:Around}{E:Value->Shared->Prop}{s:Shared}{env:Env}{value slice:Expr}{pos:Pos}{T id:String}{Q:Value->Shared->Prop}
  (aD:typeLookup (.type T) "__getitem__"=pure (some (.builtin id)))(aL:Ln slice)
  (h:wpAny (model prog w) A (eval value env) (fun o gJ=>wpAny (model prog w) A (eval slice env) (fun i uV=>uV.TypeIs o T/\wpAny (model prog w) A (getItem o i) Q E uV) E gJ) E s):
  wpAny (model prog w) A (eval (.Subscript value slice pos) env) Q E s:=by
 refine Subscript_ (mH h (fun o gJ Mt=>mH Mt (fun i uV J1=>?_) fun _ _ x=>x) fun _ _ x=>x);obtain⟨dh,J1⟩:=J1;unfold subscriptTail;refine fO ?_;rw[getitemInPython_of_ne dh.not_modules];refine fO (wpAny_specialOf dh aD ?_);have fin:wpAny (model prog w) A (subscripted slice false o i) (fun r EQ=>wpAny (model prog w) A (letTemporaryGo value o r>>=fun _=>pure r) Q E EQ) E uV:=by
  rw[aL o i];exact wpAny_operating (mH J1 (fun r EQ Mu=>fO (wpAny_letTemporaryGo (kJ Mu))) fun _ _ x=>x)
 first
  |exact kJ (fO fin)
  |exact fO (kJ (fO fin))
  |exact fO fin
section
variable{X:cQ}{ao:List (Addr×Obj)}{O:St}{H:aA}{s:Shared}{h':Heap}
theorem Inv.atj{t':Nat}{ch:List Addr}(J:Inv X ao O H s)(k:∀b o,b∉ch->s.heap.get? b=some o->h'.get? b=some o)(bq:∀b∈ch,vc X ao H b):Inv X ao O H {s with heap:=h',toks:=t'}:=by
 have AQ:∀b u,H b=some u->b∉ch:=fun b u e I=>by
  have q:=(bq b I).1;rw[q]at e;cases e
 refine J.step (g':=s.gens) (d':=s.drawn) (ch:=ch) (fun b ae=>⟨(bq b ae).2.2.2.1,(bq b ae).2.1,(bq b ae).2.2.2.2.1,(bq b ae).2.2.2.2.2⟩) (fun b o _ _ aB e _=>k b o aB e) (fun b o _ _ aB e _=>⟨o.slots,k b o aB e⟩)
  (fun _ _ _ _ n=>n) (fun b o aB e=>⟨o,k b o aB e⟩) (fun _ _ e=>e) (fun _ _ _ e=>e) (fun b ps e=>⟨#[],by rw[e];simp⟩) (fun m aM=>?_) (fun b u e=>?_) J.jY
 .obtain⟨o,bX,ig,aT,r⟩:=aM;exact⟨o,bX,ig,k _ o (fun I=>(bq _ I).2.1 rfl) aT,r⟩
 .refine(J.cG b u e).uh (fun c v aB q=>k c v ?_ q) (fun _ q=>q) fun _ _ q=>q;rcases aB with I|I
  .rw[I];exact AQ b u e
  .exact AQ c _ I
theorem Inv.atk{t':Nat}{ch:List Addr}{T:Addr}{cD:cI}(J:Inv X ao O H s)(k:∀b o,b∉ch->s.heap.get? b=some o->h'.get? b=some o)(bq:∀b∈ch,vc X ao H b)(dh:s.heap.objs.size<=T)
  (new:jP X.prog X.w (V H T cD) h' T cD):Inv X ao O (V H T cD) {s with heap:=h',toks:=t'}:=by
 have br:H T=none:=J.cG.fresh dh;have AQ:∀b u,H b=some u->b∉ch:=fun b u e I=>by
  have q:=(bq b I).1;rw[q]at e;cases e
 refine J.step (g':=s.gens) (d':=s.drawn) (ch:=ch) (fun b ae=>⟨(bq b ae).2.2.2.1,(bq b ae).2.1,(bq b ae).2.2.2.2.1,(bq b ae).2.2.2.2.2⟩) (fun b o _ _ aB e _=>k b o aB e) (fun b o _ _ aB e _=>⟨o.slots,k b o aB e⟩)
  (fun b o _ e n=>?_) (fun b o aB e=>⟨o,k b o aB e⟩) (fun b xs e=>?_) (fun b o u e=>?_) (fun b ps e=>⟨#[],?_⟩) (fun m aM=>?_) (fun b u e=>?_) J.jY
 .rw[aK (pn (mY (iW e) dh))];exact n
 .rw[aK (eI e br)];exact e
 .rw[aK (eI e br)];exact e
 .rw[aK (eI e br),e];simp
 .obtain⟨o,bX,ig,aT,r⟩:=aM;exact⟨o,bX,ig,k _ o (fun I=>(bq _ I).2.1 rfl) aT,r⟩
 .by_cases ae:b=T
  .subst ae;rw[aP]at e;cases e;exact new
  .rw[aK ae]at e;refine(J.cG b u e).uh (fun c v aB q=>k c v ?_ q) (fun c q=>by rw[aK (eI q br)];exact q) fun c xs q=>by rw[aK (eI q br)];exact q
   rcases aB with I|I
   .rw[I];exact AQ b u e
   .exact AQ c _ I
end
theorem agj:bootBuiltins "zip"=some (.type "zip"):=by decide+kernel
def z5(K:Frag)(a b:Addr):w5:=
 ⟨fun i H=>∃(xs ys:List aa)(x y:aa),bj K H a xs/\bj K H b ys/\xs[i]?=some x/\ys[i]?=some y,
  fun i H v H'=>∃T x y,v=.ref T/\H T=none/\H'=V H T (.dD [x,y])/\(∀xs,bj K H a xs->xs[i]?=some x)/\∀ys,bj K H b ys->ys[i]?=some y,
  fun i H=>∃xs ys:List aa,bj K H a xs/\bj K H b ys/\(xs.length<=i\/ys.length<=i)⟩
theorem ati{P:Program}{w:World}{K:Frag}{Pf:List Expr}{AF:Nat}{NX:Pos}{a b I nZ sy ej c6:Addr}(D:ZipApart I nZ sy ej c6 a b):
  FM P w K (.Tuple Pf AF NX) (z5 K a b) [I,nZ,sy,ej,c6] I (fun i h=>IsZip h I nZ sy .none/\IsPair h nZ (.ref ej) (.ref c6)/\(∃x y,IsPair h sy x y)/\h.IsListIter ej a i/\h.IsListIter c6 b i) where
 mem:=by simp
 obj:=fun i h st c aB=>by
  obtain⟨bR,wm,⟨x,y,xx⟩,⟨gE,ay,_,lE⟩,⟨nN,aq,_,mL⟩⟩:=st;have c5:c=I\/c=nZ\/c=sy\/c=ej\/c=c6:=by simpa using aB
  rcases c5 with q|q|q|q|q
  .rw[q];exact⟨_,bR,fun v q=>nomatch q⟩
  .rw[q];exact⟨_,wm,fun v q=>nomatch q⟩
  .rw[q];exact⟨_,xx,fun v q=>nomatch q⟩
  .rw[q];exact⟨gE,ay,fun v q=>by rw[lE]at q;cases q⟩
  .rw[q];exact⟨nN,aq,fun v q=>by rw[mL]at q;cases q⟩
 keep:=fun i h h' st k=>by
  obtain⟨bR,wm,⟨x,y,xx⟩,ai,aj⟩:=st;exact⟨k I (by simp) _ bR,k nZ (by simp) _ wm,⟨x,y,k sy (by simp) _ xx⟩,ai.at fun o q=>k ej (by simp) o q,aj.at fun o q=>k c6 (by simp) o q⟩
 item:=by
  intro X pK hw j1 aB i ao s O H E J bq st dz;subst pK hw j1;obtain⟨bR,wm,⟨bg,yc,xx⟩,ai,aj⟩:=st;obtain⟨xs,ys,x,y,D7,D8,Y,bu⟩:=dz;obtain⟨bK,ia,p,_⟩:=J.list D7;obtain⟨ww,Nv,l6,_⟩:=J.list D8;obtain⟨u,ck,o9⟩:=ia.get Y;obtain⟨jy,tX,SR⟩:=Nv.get bu;have Yu:I<s.heap.objs.size:=iW bR;refine wpAny_pyNext_zip_item D bR wm xx ai aj p.isList l6.isList (x:=u) (y:=jy) (by simpa using ck) (by simpa using tX) fun h' qv aeV ajD L4 dh hsz aJ=>?_;refine⟨_,z,wpAny_letOwnedTupleGo_zip (s:={s with heap:=h'}) qv fun DQ atX iZ=>?_⟩;have ajQ:DQ.get? s.heap.objs.size=some {cls:=.type "tuple",data:=.seq #[u,jy]}:=(iZ.2 _ (Nat.ne_of_gt Yu)).trans dh;have new:jP X.prog X.w (V H s.heap.objs.size (.dD [x,y])) DQ s.heap.objs.size (.dD [x,y]):=
   ⟨by show 2<=sizeLine;decide,[u,jy],.cons o9 (.cons SR .nil),⟨_,ajQ,z,_,z⟩⟩
  have bY:Inv X ao O (V H s.heap.objs.size (.dD [x,y])) {s with heap:=DQ}:=
   J.atk (t':=s.toks) (ch:=[I,nZ,sy,ej,c6]) (fun c o ae q=>(iZ.2 c (fun eW=>ae (by simp[eW]))).trans (aJ c o (fun eW=>ae (by simp[eW])) (fun eW=>ae (by simp[eW])) (fun eW=>ae (by simp[eW])) (fun eW=>ae (by simp[eW])) q)) bq (dW _) new
  refine⟨.ref s.heap.objs.size,_,bY,z,⟨_,x,y,z,J.cG.fresh (dW _),z,fun l aD=>by rw[J.Rg aD D7];exact Y,fun l aD=>by rw[J.Rg aD D8];exact bu⟩,⟨atX,?_,⟨u,jy,?_⟩,?_,?_⟩,fun c Ma=>?_⟩
  .exact(iZ.2 _ D.TIz).trans (aJ _ _ D.TIz D.TITO D.TIi1 D.TIi2 wm)
  .exact(iZ.2 _ D.TOz).trans aeV
  .exact ajD.at fun o q=>(iZ.2 _ D.i1z).trans q
  .exact L4.at fun o q=>(iZ.2 _ D.i2z).trans q
  .have eY:c<s.heap.objs.size:=by
    have c5:c=I\/c=nZ\/c=sy\/c=ej\/c=c6:=by simpa using Ma
    rcases c5 with q|q|q|q|q
    .rw[q];exact Yu
    .rw[q];exact iW wm
    .rw[q];exact iW xx
    .rw[q];obtain⟨_,ay,_⟩:=ai;exact iW ay
    .rw[q];obtain⟨_,aq,_⟩:=aj;exact iW aq
   rw[aK (pn eY)];exact(bq c Ma).1
 done:=by
  intro X pK hw j1 aB i ao s O H E J bq st dz;subst pK hw j1;obtain⟨bR,wm,⟨bg,yc,xx⟩,ai,aj⟩:=st;obtain⟨xs,ys,D7,D8,i8⟩:=dz;obtain⟨bK,ia,p,_⟩:=J.list D7;obtain⟨ww,Nv,l6,_⟩:=J.list D8;have fL:=ia.length;have iJ:=Nv.length;have cz:bK.toArray[i]?=none\/ww.toArray[i]?=none:=by
   rcases i8 with q|q
   .exact .inl (by simp;omega)
   .exact .inr (by simp;omega)
  exact wpAny_pyNext_zip_end (J.ok.aG aB) D bR wm xx ai aj p.isList l6.isList cz fun h' aJ=>⟨z,J.atj (t':=s.toks) (ch:=[I,nZ,sy,ej,c6]) (fun c o ae q=>
   aJ c o (fun eW=>ae (by simp[eW])) (fun eW=>ae (by simp[eW])) (fun eW=>ae (by simp[eW])) (fun eW=>ae (by simp[eW])) q) bq⟩
 self:=fun A i s Q E st h=>wpAny_pyIter_zip st.1 h
def alv(K:Frag)(eR:nY):nZ:=fun O H R=>eR O H fun vs aI=>∃a b xs ys,vs=[.ref a,.ref b]/\bj K aI a xs/\bj K aI b ys/\R (z5 K a b) aI
theorem Nd{X:cQ}{e aq:Expr}{eR:nY}{p pos NX:Pos}{Pf:List Expr}{AF:Nat}(dz:qw X "zip")(aM:X.az "zip"=none)(cC:tI X [e,aq] eR)
  (aL:starEach [e,aq] X.env=(false,eval e X.env)::starEach [aq] X.env:=by rfl)(pM:(backTo pos (starEach [aq] X.env)).any (·.1)=false:=by rfl):
  Ab X (.Tuple Pf AF NX) (.Call (.Name "zip" p) [e,aq] [] pos) (alv X.K eR):=by
 intro ao s O H R J h;refine Call_ (Kc J dz aM agj (PyProof.Rows.callWith_type1 (eJ (cC pos ao s O H _ J h) fun us aU⟨vs,aI,bY,fE,aW⟩=>?_) aL pM));obtain⟨a,b,xs,ys,ex,D7,D8,q⟩:=aW;subst ex;cases fE with
 |cons r CQ=>
  cases CQ with
  |cons g7 CQ=>
   cases CQ;cases r;cases g7;obtain⟨bK,ia,o7,_⟩:=bY.list D7;obtain⟨ww,Nv,l6,_⟩:=bY.list D8;have pP:a<aU.heap.objs.size:=o7.lt;have alZ:b<aU.heap.objs.size:=l6.lt;refine call_zip_2 o7.isList l6.isList fun h' bR wm xx ai aj hsz aJ=>wpAny_pyIter_zip bR ?_;have fy:Inv X ao O aI {aU with heap:=h'}:=bY.kept (t':=aU.toks) aJ;refine⟨aU.heap.objs.size+4,[aU.heap.objs.size+4,aU.heap.objs.size+2,aU.heap.objs.size+3,aU.heap.objs.size,aU.heap.objs.size+1],_,_,aI,z,fy,ati (PySem.W.ktu_apart aU.heap.objs.size a b pP alZ),⟨bR,wm,⟨_,_,xx⟩,ai,aj⟩,fun c Ma=>?_,q⟩;have c5:c=aU.heap.objs.size+4\/c=aU.heap.objs.size+2\/c=aU.heap.objs.size+3\/c=aU.heap.objs.size\/c=aU.heap.objs.size+1:=by simpa using Ma
   have kQ:aU.heap.objs.size<=c:=by
    rcases c5 with I|I|I|I|I
    .rw[I];exact le_add_right _ _
    .rw[I];exact le_add_right _ _
    .rw[I];exact le_add_right _ _
    .rw[I];exact dW _
    .rw[I];exact le_add_right _ _
   exact bY.Jo kQ (bY.cG.fresh kQ)
end bF
section
namespace T9
open PySem PyProof.Rows
theorem age{x:Int}(k:Nat)(Y:0<=x):Builtin.bitAnd x (2^k -1)=x%2^k:=by
 obtain⟨n,rfl⟩:=Int.eq_ofNat_of_zero_le Y;have aN:0<2^k:=Nat.two_pow_pos k;rw[two_pow_cast];have e:((2^k:Nat):Int) -1=((2^k -1:Nat):Int):=by
  generalize (2:Nat)^k=m at aN;omega
 rw[e,bitAnd_pp (by omega) (by omega),uq,uq,Nat.and_two_pow_sub_one_eq_mod]
 first
  |rfl
  |exact Int.natCast_emod _ _
  |simp
end T9
end
section
namespace aeU
open PySem PySem.Builtin PySem.Builtin.Str PySem.StrLaws
end aeU
end
namespace bF
open PySem PySem.Spec PyProof.Rows
end bF
namespace ad2
open PySem PySem.W PySem.Calls PyProof.Rows
end ad2
namespace bF
open PySem PySem.Spec PyProof.Rows
def iS(s:Stmt)(j:Nat):Stmt:=match s with
 |.ClassDef _ _ _ body _ _ _ _ _ _ _=>body.getD j (.Pass ⟨0,0,0,0⟩)
 |_=>.Pass ⟨0,0,0,0⟩
def LJ(s:Stmt):Arguments:=match s with
 |.FunctionDef _ a _ _ _ _ _ _ _ _=>a
 |_=>{posonlyargs:=[],args:=[],vararg:=none,kwonlyargs:=[],kw_defaults:=[],kwarg:=none,defaults:=[]}
def DH(s:Stmt):List Stmt:=match s with
 |.FunctionDef _ _ b _ _ _ _ _ _ _=>b
 |_=>[]
def cT(s:Stmt):Scope:=match s with
 |.FunctionDef _ _ _ _ _ _ sc _ _ _=>sc
 |_=>{kind:=.function,names:=[],isGenerator:=false,isCoroutine:=false}
structure dJ(K:Frag)(x qual:Str)(st:Stmt)(f:Addr)(gO:FuncData):Prop where
 ex:∃(gq:Value)(iX:Option Addr)(oZ doc s8:Value)(tN:Option Addr)(cJ k9:Value)(zq:Array (Option Value)),
  gO=fnOf x qual (LJ st) (DH st) (cT st) .none oZ doc s8 tN cJ k9/\K.lookup f=some ⟨gq,iX,.func gO,zq⟩/\codeIn K cJ qual=true
 cN:keepIn K (.ref f)=true
section
variable{P:Program}{w:World}{K:Frag}{az:Str->Option Value}{base:Heap}
theorem dJ.Dz{x qual:Str}{st:Stmt}{f:Addr}{gO:FuncData}{ps:List Str}(F:dJ K x qual st f gO)
  (h:∀(oZ doc s8:Value)(tN:Option Addr)(cJ k9:Value)(us:List Value),us.length=ps.length->bindArgs (fnOf x qual (LJ st) (DH st) (cT st) .none oZ doc s8 tN cJ k9) ⟨us,[]⟩=pure (ps.zip us)):Binds K gO ps []:=by
 obtain⟨gq,iX,oZ,doc,s8,tN,cJ,k9,zq,rfl,lk,lI⟩:=F.ex;exact .all (h oZ doc s8 tN cJ k9)
theorem aiW{x qual:Str}{st:Stmt}{f:Addr}{gq:Value}{iX tN:Option Addr}{zq:Array (Option Value)}{oZ doc s8 cJ k9:Value}(l:K.lookup f=some ⟨gq,iX,.func (fnOf x qual (LJ st) (DH st) (cT st) .none oZ doc s8 tN cJ k9),zq⟩)
  (c:codeIn K cJ qual=true)(k:keepIn K (.ref f)=true):dJ K x qual st f (fnOf x qual (LJ st) (DH st) (cT st) .none oZ doc s8 tN cJ k9):=⟨⟨gq,iX,oZ,doc,s8,tN,cJ,k9,zq,z,l,c⟩,k⟩
end
section
variable{X:cQ}
theorem af(i:Nat){x:Str}{pos:Pos}(h7:X.N[i]?=some x:=by rfl)(a6:FO X.env.scope x:=by first|exact Or.inl rfl|exact Or.inr (Or.inl rfl)|exact Or.inr (Or.inr rfl))(aG:(x==("__debug__":Str))=false:=by decide)
  (lI:(x==("__classdict__":Str))=false:=by decide):dS X (.Name x pos) (TG i):=ape h7 a6 aG lI
end
theorem nt{A B:Prop}(h:B):if false=true then A else B:=by
 rw[bz oB];exact h
theorem lY{A B:Prop}(h:A):if true=true then A else B:=by
 rw[bT z];exact h
def be(H H':aA):Prop:=∀b o,H b=some o->H' b=some o
theorem be.refl(H:aA):be H H:=fun _ _ h=>h
theorem be.trans{H aI a7:aA}(a:be H aI)(b:be aI a7):be H a7:=fun c o h=>b c o (a c o h)
theorem be.free{H H':aA}(e:be H H'){l:Addr}(h:H' l=Option.none):H l=Option.none:=by
 cases q:H l with
 |none=>rfl
 |some o=>
  rw[e l o q]at h;cases h
theorem be.seq{K:Frag}{H H':aA}{a:Addr}{xs:List aa}(e:be H H')(h:bj K H a xs):bj K H' a xs:=by
 rcases h with(h|⟨o,h⟩)|h
 .exact .inl (.inl (e _ _ h))
 .exact .inl (.inr ⟨o,e _ _ h⟩)
 .exact .inr h
theorem Ku{cL:Type}{l:List cL}(h7:l.Nodup){i j:Nat}{x:cL}(a:l[i]?=some x)(b:l[j]?=some x):i=j:=by
 obtain⟨ai,ay⟩:=gn.mp a;obtain⟨aj,aq⟩:=gn.mp b;exact(List.getElem_inj h7).mp (ay.trans aq.symm)
open PySem.W (WData Codec OpenSpec Well WellAll ReadsW ReadsAllW)
mutual
inductive nT(K:Frag)(H:aA):aa->WData->Prop
 |b9:nT K H .b9 .none
 |av (b:Bool):nT K H (.av b) (.bool b)
 |int (i:Int):nT K H (.int i) (.int i)
 |str (x:Str):nT K H (.str x) (.str x)
 |p8 (b:Array UInt8):nT K H (.p8 b) (.bytes b.toList)
 |ak {a:Addr} {xs:List aa} {bH:List WData}:bj K H a xs->u6 K H xs bH->nT K H (.ref a) (.list bH)
 |dD {a:Addr} {xs:List aa} {bH:List WData}:je K H a xs->u6 K H xs bH->nT K H (.ref a) (.tuple bH)
inductive u6(K:Frag)(H:aA):List aa->List WData->Prop
 |nil:u6 K H [] []
 |cons {v:aa} {vs:List aa} {d:WData} {bH:List WData}:nT K H v d->u6 K H vs bH->u6 K H (v::vs) (d::bH)
end
theorem V2{K:Frag}{H:aA}:∀ns:List Int,u6 K H (ns.map aa.int) (ns.map WData.int)
 |[]=>.nil
 |n::r=>.cons (.int n) (V2 r)
theorem Yz{K:Frag}{H:aA}:∀(ns:List Int)(xs:List aa),u6 K H xs (ns.map WData.int)->xs=ns.map aa.int
 |[],xs,h=>by
  cases h;rfl
 |n::r,xs,h=>by
  cases h with
  |cons ai aj=>
   cases ai;rw[Yz r _ aj]<;>rfl
section
variable{P:Program}{w:World}{K:Frag}{H:aA}{h:Heap}{R:WRecords}{cl:Str->Option Addr}
theorem asw{a:Addr}{xs:List aa}(cG:jW P w H h)(i5:K.In h)(q:bj K H a xs):∃(bK:List Value)(o:Obj)(n:Nat),eS xs bK/\h.get? a=some o/\o.cls=.type "list"/\o.data=.seq bK.toArray n:=by
 rcases q with q|⟨o,bK,n,e,aB,_,aG,_,a6⟩
 .obtain⟨_,bK,n,a6,e⟩:=(show jP P w H h a (.ak xs)from q.ok cG);exact⟨bK,_,n,a6,e,z,z⟩
 .exact⟨bK.toList,o,n,a6,i5 _ _ e,aB,by simp[aG]⟩
theorem asx{a:Addr}{xs:List aa}(cG:jW P w H h)(i5:K.In h)(q:je K H a xs):∃(bK:List Value)(o:Obj)(n:Nat),eS xs bK/\h.get? a=some o/\o.cls=.type "tuple"/\o.data=.seq bK.toArray n:=by
 rcases q with q|⟨o,bK,n,e,aB,aG,_,a6⟩
 .obtain⟨_,bK,a6,o,e,aB,n,aG⟩:=(show jP P w H h a (.dD xs)from q.ok cG);exact⟨bK,o,n,a6,e,aB,aG⟩
 .exact⟨bK.toList,o,n,a6,i5 _ _ e,aB,by simp[aG]⟩
mutual
theorem nT.aa9(cG:jW P w H h)(i5:K.In h):∀(d:WData)(v:aa)(u:Value),nT K H v d->RelV v u->∃mJ,ReadsW R cl h u d mJ
 |.none,_,_,x,r=>by
  cases x;cases r;exact⟨_,ReadsW.none⟩
 |.bool b,_,_,x,r=>by
  cases x;cases r;exact⟨_,ReadsW.bool b⟩
 |.int i,_,_,x,r=>by
  cases x;obtain⟨t,rfl⟩:=r;exact⟨_,ReadsW.int i t⟩
 |.str s,_,_,x,r=>by
  cases x;obtain⟨t,rfl⟩:=r;exact⟨_,ReadsW.str s t⟩
 |.bytes b,_,_,x,r=>by
  cases x;obtain⟨t,rfl⟩:=r;exact⟨_,ReadsW.bytes _ t⟩
 |.list bH,_,_,x,r=>by
  cases x with
  |ak aL cC=>
   cases r;obtain⟨bK,o,n,ia,aT,aB,aG⟩:=asw cG i5 aL;obtain⟨mJ,aO⟩:=nT.SI cG i5 bH _ bK cC ia;exact⟨_,ReadsW.list aT aB aG aO⟩
 |.tuple bH,_,_,x,r=>by
  cases x with
  |dD aL cC=>
   cases r;obtain⟨bK,o,n,ia,aT,aB,aG⟩:=asx cG i5 aL;obtain⟨mJ,aO⟩:=nT.SI cG i5 bH _ bK cC ia;exact⟨_,ReadsW.tuple aT aB aG aO⟩
 |.float _,_,_,x,_=>by cases x
 |.dict _,_,_,x,_=>by cases x
 |.bytearray _,_,_,x,_=>by cases x
 |.set _,_,_,x,_=>by cases x
 |.frozenset _,_,_,x,_=>by cases x
 |.obj _ _,_,_,x,_=>by cases x
theorem nT.SI(cG:jW P w H h)(i5:K.In h):∀(bH:List WData)(vs:List aa)(us:List Value),u6 K H vs bH->eS vs us->∃mJ,ReadsAllW R cl h us bH mJ
 |[],_,_,x,r=>by
  cases x;cases r;exact⟨_,ReadsAllW.nil⟩
 |d::bH,_,_,x,r=>by
  cases x with
  |cons ai aj=>
   cases r with
   |cons fE gQ=>
    obtain⟨mJ,aW⟩:=nT.aa9 cG i5 d _ _ ai fE;obtain⟨bs,bf⟩:=nT.SI cG i5 bH _ _ aj gQ;exact⟨_,ReadsAllW.cons aW bf⟩
end
end
mutual
def nP:WData->Bool
 |.none=>true
 |.bool _=>true
 |.int _=>true
 |.str _=>true
 |.bytes _=>true
 |.list xs=>vK xs
 |.tuple xs=>vK xs
 |_=>false
def vK:List WData->Bool
 |[]=>true
 |x::r=>nP x&&vK r
end
theorem aaU{cL:Type}{f:cL->WData}(h:∀a,nP (f a)=true):∀l:List cL,vK (l.map f)=true
 |[]=>rfl
 |x::r=>by
  show(nP (f x)&&vK (r.map f))=true;rw[h x,aaU h r]<;>rfl
theorem AZ:∀(c:Codec)(a:c.denote),nP (c.enc a)=true
 |.unit,_=>rfl
 |.bool,_=>rfl
 |.int _ _,_=>rfl
 |.nat _ _,_=>rfl
 |.u8,_=>rfl
 |.bytes _ _,_=>rfl
 |.text _ _ _ _,_=>rfl
 |.list _ _ c,a=>aaU (fun x=>AZ c x) a
 |.pair c d,a=>by
  show(nP (c.enc a.1)&&(nP (d.enc a.2)&&true))=true;rw[AZ c a.1,AZ d a.2]<;>rfl
 |.triple c d e,a=>by
  show(nP (c.enc a.1)&&(nP (d.enc a.2.1)&&(nP (e.enc a.2.2)&&true)))=true;rw[AZ c a.1,AZ d a.2.1,AZ e a.2.2]<;>rfl
 |.option c,none=>rfl
 |.option c,some x=>AZ c x
theorem aaV:∀(cs:List Codec)(a:Codec.denoteAll cs),vK (Codec.encAll cs a)=true
 |[],_=>rfl
 |c::cs,a=>by
  show(nP (c.enc a.1)&&vK (Codec.encAll cs a.2))=true;rw[AZ c a.1,aaV cs a.2]<;>rfl
theorem TT:∀{xs:List WData}{d:WData},d∈xs->d.weight<=WData.weightAll xs
 |[],d,h=>absurd h (by simp)
 |x::r,d,h=>by
  show d.weight<=x.weight+1+WData.weightAll r;rcases dG.mp h with e|m
  .rw[e];omega
  .have I:=TT m;omega
def qZ:Value->aa
 |.none=>.b9
 |.bool b=>.av b
 |.int i _=>.int i
 |.str x _=>.str x
 |.bytes b _=>.p8 b
 |.ref a=>.ref a
 |_=>.b9
def uy(A:List Addr):Value->Prop
 |.none=>True
 |.bool _=>True
 |.int _ _=>True
 |.str _ _=>True
 |.bytes _ _=>True
 |.ref a=>a∈A
 |_=>False
theorem uy.c7{A B:List Addr}(h:∀a∈A,a∈B):∀{u:Value},uy A u->uy B u:=fun{u}x=>by
 cases u with
 |ref a=>exact h a x
 |none=>trivial
 |bool b=>trivial
 |int i t=>trivial
 |str s t=>trivial
 |bytes b t=>trivial
 |_=>exact False.elim x
theorem apT{A:List Addr}{u:Value}(x:uy A u):RelV (qZ u) u:=by
 cases u with
 |ref a=>rfl
 |none=>rfl
 |bool b=>rfl
 |int i t=>exact⟨t,z⟩
 |str s t=>exact⟨t,z⟩
 |bytes b t=>exact⟨t,z⟩
 |_=>exact False.elim x
theorem E1{A:List Addr}:∀{vs:List Value},(∀u∈vs,uy A u)->eS (vs.map qZ) vs
 |[],_=>.nil
 |u::r,h=>.cons (apT (h u (iO ..))) (E1 fun x Y=>h x (gz _ Y))
def u4(h:Heap)(A:List Addr)(a:Addr):Prop:=∃vs:List Value,vs.length<=sizeLine/\(∀u∈vs,uy A u)/\
 (h.get? a=some {cls:=.type "list",data:=.seq vs.toArray}\/h.get? a=some {cls:=.type "tuple",data:=.seq vs.toArray})
theorem u4.c7{h:Heap}{A B:List Addr}{a:Addr}(k:∀a∈A,a∈B)(x:u4 h A a):u4 h B a:=by
 obtain⟨vs,ai,aj,bN⟩:=x;exact⟨vs,ai,fun u ck=>(aj u ck).c7 k,bN⟩
theorem N5{P:Params}{h:Heap}:∀{vs:List Value}{bH:List WData},WellAll P h vs bH->vs.length=bH.length
 |_,_,.nil=>rfl
 |_,_,.cons _ b=>by
  show _+1=_+1;rw[N5 b]
theorem adO{P:Params}{h:Heap}{v:Value}{bH:List WData}(x:Well P h v (.list bH)):∃(a:Addr)(vs:List Value),v=.ref a/\h.get? a=some {cls:=.type "list",data:=.seq vs.toArray}/\WellAll P h vs bH:=by
 cases x with
 |list aT qF=>exact⟨_,_,z,aT,qF⟩
theorem adP{P:Params}{h:Heap}{v:Value}{bH:List WData}(x:Well P h v (.tuple bH)):∃(a:Addr)(vs:List Value),v=.ref a/\h.get? a=some {cls:=.type "tuple",data:=.seq vs.toArray}/\WellAll P h vs bH:=by
 cases x with
 |tuple aT qF=>exact⟨_,_,z,aT,qF⟩
theorem adN{P:Params}{h:Heap}{us:List Value}{d:WData}{bH:List WData}(x:WellAll P h us (d::bH)):∃(v:Value)(vs:List Value),us=v::vs/\Well P h v d/\WellAll P h vs bH:=by
 cases x with
 |cons a b=>exact⟨_,_,z,a,b⟩
theorem YU{n:Nat}(h:n<=1048576):n<=sizeLine:=i3 h (by decide)
section
variable{P:Params}{h:Heap}
mutual
theorem afc:∀(d:WData)(v:Value),Well P h v d->nP d=true->d.weight<=1048576->∃A:List Addr,uy A v/\∀a∈A,u4 h A a
 |.none,_,x,_,_=>by
  cases x;exact⟨[],trivial,fun a m=>absurd m (by simp)⟩
 |.bool b,_,x,_,_=>by
  cases x;exact⟨[],trivial,fun a m=>absurd m (by simp)⟩
 |.int i,_,x,_,_=>by
  cases x;exact⟨[],trivial,fun a m=>absurd m (by simp)⟩
 |.str s,_,x,_,_=>by
  cases x;exact⟨[],trivial,fun a m=>absurd m (by simp)⟩
 |.bytes b,_,x,_,_=>by
  cases x;exact⟨[],trivial,fun a m=>absurd m (by simp)⟩
 |.list bH,_,x,p,I=>by
  obtain⟨a,vs,rfl,aT,qF⟩:=adO x;have gb:WData.weightAll bH<=1048576:=I;obtain⟨A,ai,aj⟩:=Lv bH _ qF p fun d aG=>i3 (TT aG) gb;have k:∀b∈A,b∈a::A:=fun b ae=>gz _ ae;refine⟨a::A,iO ..,fun b ae=>?_⟩;rcases dG.mp ae with e|m
  .rw[e];exact⟨vs,YU (by rw[N5 qF];exact i3 (PySem.W.length_le_weightAllW bH) gb),fun u ck=>(ai u ck).c7 k,.inl aT⟩
  .exact(aj b m).c7 k
 |.tuple bH,_,x,p,I=>by
  obtain⟨a,vs,rfl,aT,qF⟩:=adP x;have gb:WData.weightAll bH<=1048576:=I;obtain⟨A,ai,aj⟩:=Lv bH _ qF p fun d aG=>i3 (TT aG) gb;have k:∀b∈A,b∈a::A:=fun b ae=>gz _ ae;refine⟨a::A,iO ..,fun b ae=>?_⟩;rcases dG.mp ae with e|m
  .rw[e];exact⟨vs,YU (by rw[N5 qF];exact i3 (PySem.W.length_le_weightAllW bH) gb),fun u ck=>(ai u ck).c7 k,.inr aT⟩
  .exact(aj b m).c7 k
 |.float _,_,_,p,_=>noConfusion (show false=true from p)
 |.dict _,_,_,p,_=>noConfusion (show false=true from p)
 |.bytearray _,_,_,p,_=>noConfusion (show false=true from p)
 |.set _,_,_,p,_=>noConfusion (show false=true from p)
 |.frozenset _,_,_,p,_=>noConfusion (show false=true from p)
 |.obj _ _,_,_,p,_=>noConfusion (show false=true from p)
theorem Lv:∀(bH:List WData)(vs:List Value),WellAll P h vs bH->vK bH=true->(∀d∈bH,d.weight<=1048576)->∃A:List Addr,(∀u∈vs,uy A u)/\∀a∈A,u4 h A a
 |[],_,x,_,_=>by
  cases x;exact⟨[],fun u m=>absurd m (by simp),fun a m=>absurd m (by simp)⟩
 |d::bH,_,x,p,I=>by
  obtain⟨v,vs,rfl,bk,bP⟩:=adN x;have q:nP d=true/\vK bH=true:=Bool.and_eq_true_iff.mp p;obtain⟨A,iG,kN⟩:=afc d v bk q.1 (I d (iO ..));obtain⟨B,kB,m6⟩:=Lv bH vs bP q.2 fun e cz=>I e (gz _ cz);have YH:∀b∈A,b∈A++B:=fun b ae=>fN.mpr (.inl ae);have YI:∀b∈B,b∈A++B:=fun b ae=>fN.mpr (.inr ae);refine⟨A++B,fun u ck=>?_,fun b ae=>?_⟩
  .rcases dG.mp ck with e|m
   .rw[e];exact iG.c7 YH
   .exact(kB u m).c7 YI
  .rcases fN.mp ae with m|m
   .exact(kN b m).c7 YH
   .exact(m6 b m).c7 YI
end
end
def Mi(o:Obj):Option cI:=match o.data with
 |.seq vs _=>if (o.cls==Value.type "list")=true then some (.mO o (.ak (vs.toList.map qZ)))else some (.mO o (.dD (vs.toList.map qZ)))
 |_=>none
def pI(K:Frag)(h:Heap)(A:List Addr):aA:=fun b=>if b∈A then(if (K.lookup b).isNone=true then(h.get? b).bind Mi else none)else none
def FF(H:aA):Prop:=∀b,H b=none\/∃o u,H b=some (.mO o u)
theorem X3(vs:List Value):Mi {cls:=.type "list",data:=.seq vs.toArray}=some (.mO {cls:=.type "list",data:=.seq vs.toArray} (.ak (vs.map qZ))):=by
 show(if (Value.type "list"==Value.type "list")=true then some (cI.mO {cls:=.type "list",data:=.seq vs.toArray} (.ak (vs.toArray.toList.map qZ)))else some (cI.mO {cls:=.type "list",data:=.seq vs.toArray} (.dD (vs.toArray.toList.map qZ))))=_;rw[bT (beq_self_eq_true _)]
theorem X4(vs:List Value):Mi {cls:=.type "tuple",data:=.seq vs.toArray}=some (.mO {cls:=.type "tuple",data:=.seq vs.toArray} (.dD (vs.map qZ))):=by
 show(if (Value.type "tuple"==Value.type "list")=true then some (cI.mO {cls:=.type "tuple",data:=.seq vs.toArray} (.ak (vs.toArray.toList.map qZ)))else some (cI.mO {cls:=.type "tuple",data:=.seq vs.toArray} (.dD (vs.toArray.toList.map qZ))))=_;rw[bz (by decide)]
section
variable{P:Program}{w:World}{K:Frag}{h:Heap}{A:List Addr}
theorem Lw{b:Addr}{o:Obj}(ae:b∈A)(aJ:K.lookup b=none)(e:h.get? b=some o):pI K h A b=Mi o:=by
 unfold pI;rw[bT ae,aJ,bT (show(none:Option Obj).isNone=true from rfl),e]<;>rfl
theorem an7{b:Addr}{u:cI}(q:pI K h A b=some u):b∈A/\K.lookup b=none:=by
 unfold pI at q;by_cases ae:b∈A
 .rw[bT ae]at q;cases aJ:K.lookup b with
  |none=>exact⟨ae,z⟩
  |some o=>
   rw[aJ,bz (by simp)]at q;cases q
 .rw[bz ae]at q;cases q
theorem Lx(ar:∀a∈A,u4 h A a){b:Addr}{u:cI}(q:pI K h A b=some u):K.lookup b=none/\∃vs:List Value,vs.length<=sizeLine/\(∀u∈vs,uy A u)/\
  ((h.get? b=some {cls:=.type "list",data:=.seq vs.toArray}/\u=.mO {cls:=.type "list",data:=.seq vs.toArray} (.ak (vs.map qZ)))\/
   (h.get? b=some {cls:=.type "tuple",data:=.seq vs.toArray}/\u=.mO {cls:=.type "tuple",data:=.seq vs.toArray} (.dD (vs.map qZ)))):=by
 obtain⟨ae,aJ⟩:=an7 q;obtain⟨vs,ai,aj,bN⟩:=ar b ae;refine⟨aJ,vs,ai,aj,?_⟩;rcases bN with e|e
 .rw[Lw ae aJ e,X3]at q;exact .inl ⟨e,(j7 q).symm⟩
 .rw[Lw ae aJ e,X4]at q;exact .inr ⟨e,(j7 q).symm⟩
theorem afe(ar:∀a∈A,u4 h A a):FF (pI K h A):=fun b=>by
 cases q:pI K h A b with
 |none=>exact .inl z
 |some u=>
  obtain⟨_,vs,_,_,⟨_,e⟩|⟨_,e⟩⟩:=Lx ar q
  .exact .inr ⟨_,_,by rw[e]⟩
  .exact .inr ⟨_,_,by rw[e]⟩
theorem afd(ar:∀a∈A,u4 h A a):jW P w (pI K h A) h:=fun b u q=>by
 obtain⟨_,vs,ai,aj,⟨e,rfl⟩|⟨e,rfl⟩⟩:=Lx ar q
 .exact⟨e,by rw[cA];exact ai,vs,_,E1 aj,e⟩
 .exact⟨e,by rw[cA];exact ai,vs,E1 aj,_,e,z,_,z⟩
theorem NJ{c c':Value}{vs us:List Value}(e:(some {cls:=c,data:=.seq vs.toArray}:Option Obj)=some {cls:=c',data:=.seq us.toArray}):c=c'/\vs=us:=by
 have ay:=j7 e;have aq:c=c':=oA Obj.cls ay;have bB:Data.seq vs.toArray=Data.seq us.toArray:=oA Obj.data ay;injection bB with dQ
 refine⟨aq,?_⟩;have f7:=oA toList dQ;simpa using f7
theorem afg(i5:K.In h)(ar:∀a∈A,u4 h A a){a:Addr}{vs:List Value}(cC:a∈A)(e:h.get? a=some {cls:=.type "list",data:=.seq vs.toArray}):(∀u∈vs,uy A u)/\bj K (pI K h A) a (vs.map qZ):=by
 obtain⟨us,ai,aj,bN⟩:=ar a cC;have ck:us=vs:=by
  rcases bN with q|q
  .rw[e]at q;exact(NJ q).2.symm
  .rw[e]at q;exact absurd (Value.type.inj (NJ q).1) (by decide)
 subst ck;refine⟨aj,?_⟩;cases aJ:K.lookup a with
 |none=>exact .inl (.inr ⟨_,by rw[Lw cC aJ e,X3]⟩)
 |some o=>
  have aq:=i5 a o aJ;rw[e]at aq;obtain rfl:=j7 aq;exact .inr ⟨_,us.toArray,_,aJ,z,z,z,by rw[mj];exact ai,by simpa using E1 aj⟩
theorem afh(i5:K.In h)(ar:∀a∈A,u4 h A a){a:Addr}{vs:List Value}(cC:a∈A)(e:h.get? a=some {cls:=.type "tuple",data:=.seq vs.toArray}):(∀u∈vs,uy A u)/\je K (pI K h A) a (vs.map qZ):=by
 obtain⟨us,ai,aj,bN⟩:=ar a cC;have ck:us=vs:=by
  rcases bN with q|q
  .rw[e]at q;exact absurd (Value.type.inj (NJ q).1) (by decide)
  .rw[e]at q;exact(NJ q).2.symm
 subst ck;refine⟨aj,?_⟩;cases aJ:K.lookup a with
 |none=>exact .inl (.inr ⟨_,by rw[Lw cC aJ e,X4]⟩)
 |some o=>
  have aq:=i5 a o aJ;rw[e]at aq;obtain rfl:=j7 aq;exact .inr ⟨_,us.toArray,_,aJ,z,z,by rw[mj];exact ai,by simpa using E1 aj⟩
mutual
theorem ahq{Ox:Params}(i5:K.In h)(ar:∀a∈A,u4 h A a):∀(d:WData)(v:Value),Well Ox h v d->nP d=true->uy A v->nT K (pI K h A) (qZ v) d
 |.none,_,x,_,_=>by
  cases x;exact .b9
 |.bool b,_,x,_,_=>by
  cases x;exact .av b
 |.int i,_,x,_,_=>by
  cases x;exact .int i
 |.str s,_,x,_,_=>by
  cases x;exact .str s
 |.bytes b,_,x,_,_=>by
  cases x;have I:=nT.p8 (K:=K) (H:=pI K h A) b.toArray;exact I
 |.list bH,_,x,p,ck=>by
  obtain⟨a,vs,rfl,aT,qF⟩:=adO x;obtain⟨aj,aL⟩:=afg i5 ar ck aT;exact .ak aL (LL i5 ar bH _ qF p aj)
 |.tuple bH,_,x,p,ck=>by
  obtain⟨a,vs,rfl,aT,qF⟩:=adP x;obtain⟨aj,aL⟩:=afh i5 ar ck aT;exact .dD aL (LL i5 ar bH _ qF p aj)
 |.float _,_,_,p,_=>noConfusion (show false=true from p)
 |.dict _,_,_,p,_=>noConfusion (show false=true from p)
 |.bytearray _,_,_,p,_=>noConfusion (show false=true from p)
 |.set _,_,_,p,_=>noConfusion (show false=true from p)
 |.frozenset _,_,_,p,_=>noConfusion (show false=true from p)
 |.obj _ _,_,_,p,_=>noConfusion (show false=true from p)
theorem LL{Ox:Params}(i5:K.In h)(ar:∀a∈A,u4 h A a):∀(bH:List WData)(vs:List Value),WellAll Ox h vs bH->vK bH=true->(∀u∈vs,uy A u)->u6 K (pI K h A) (vs.map qZ) bH
 |[],_,x,_,_=>by
  cases x;exact .nil
 |d::bH,_,x,p,ck=>by
  obtain⟨v,vs,rfl,bk,bP⟩:=adN x;have q:nP d=true/\vK bH=true:=Bool.and_eq_true_iff.mp p;exact .cons (ahq i5 ar d v bk q.1 (ck _ (iO ..))) (LL i5 ar bH vs bP q.2 fun u m=>ck u (gz _ m))
end
end
theorem asv{P:Program}{w:World}{K:Frag}{az AG:Str->Option Value}{g4:u5}{k:Nat}{tT:Addr}{gO:FuncData}{ps:List Str}{sp:dj}{gJ:Shared}{x9:List Value}{bH:List WData}{R:WRecords}{cl:Str->Option Addr}{d0:WData}
  (i5:K.In gJ.heap)(D3:gJ.heap.Ns mainGlobals az)(ae:gJ.heap.Ns builtinsNs AG)(Qe:∀x:Str,x≠"__name__"->AG x=bootBuiltins x)(akr:gJ.heap.NoLimit)(dz:gJ.gens=#[])
  (J0:WellAll w.params gJ.heap x9 bH)(pM:vK bH=true)(alc:∀d∈bH,d.weight<=1048576)(aO:kM k callerA)
  (F:∀base:Heap,K.In base->base.Ns mainGlobals az->cZ P w K az base g4 k tT gO ps sp)(ajX:∀(s:Shared)(us:List Value),us.length=ps.length->BindsTo s gO ⟨us,[]⟩ (ps.zip us))(gv:bH.length=ps.length)
  (xD:∀(H:aA)(xs:List aa),FF H->u6 K H xs bH->sp xs H (fun v H'=>nT K H' v d0) fun _ _ _=>False)
  (JA:∀H e aZ,g4 [] H gJ (fun _ _ _=>False) e aZ->False):
  codeAny (model P w) callerA (.call (.ref tT) ⟨x9,[]⟩) (fun r aZ=>∃u mJ,r=.ok (.ret u)/\ReadsW R cl aZ.heap u d0 mJ/\OldK gJ.heap aZ.heap/\aZ.os=gJ.os/\AllBare aZ.gens) gJ:=by
 obtain⟨A,aT,ar⟩:=Lv bH x9 J0 pM alc;have rD:FF (pI K gJ.heap A):=afe ar;have cG:jW P w (pI K gJ.heap A) gJ.heap:=afd ar;have uI:=LL i5 ar bH x9 J0 pM aT;have ajR:=E1 aT;have j1:∀b u,pI K gJ.heap A b=some u->K.lookup b=none:=fun b u q=>(Lx ar q).1;have Ew:∀{b:Addr}{o:Obj}{bX:Array DictEntry}{ig:Nat},gJ.heap.get? b=some o->o.data=.dict bX ig->pI K gJ.heap A b=none:=fun{b o bX ig}e d=>by
  cases q:pI K gJ.heap A b with
  |none=>rfl
  |some u=>
   obtain⟨_,vs,_,_,⟨aq,_⟩|⟨aq,_⟩⟩:=Lx ar q
   .rw[aq]at e;cases e;have d':Data.seq vs.toArray _=Data.dict bX ig:=d;cases d'
   .rw[aq]at e;cases e;have d':Data.seq vs.toArray _=Data.dict bX ig:=d;cases d'
 generalize pI K gJ.heap A=H at rD cG uI j1 Ew;have UZ:∀{b:Addr}{o:Obj},gJ.heap.get? b=some o->H b=none->(yS gJ.heap H).get? b=some o:=fun e n=>akf e n;have M1:∀{b:Addr}{m:Str->Option Value},gJ.heap.Ns b m->(yS gJ.heap H).Ns b m:=fun{b m}⟨o,bX,ig,e,d,r⟩=>⟨o,bX,ig,UZ e (Ew e d),d,r⟩;have anw:∀b o,K.lookup b=some o->H b=none:=fun b o e=>by
  cases q:H b with
  |none=>rfl
  |some u=>
   rw[j1 b u q]at e;cases e
 have Xx:K.In (yS gJ.heap H):=fun b o e=>UZ (i5 b o e) (anw b o e);have oU:Mod K az (yS gJ.heap H):=⟨Xx,M1 D3,⟨AG,M1 ae,Qe⟩,let⟨xJ,ai,aj⟩:=akr;⟨xJ,M1 ai,aj⟩⟩;have ie:Bp P w K az (yS gJ.heap H) callerA [] gJ H:=⟨z,oU,fun b o e=>an8 e,le_of_eq (akg _ _),trivial,fun b ae=>absurd (show b∈([]:List Addr)from ae) (by simp),cG,.of_eq dz⟩;have aD:x9.length=ps.length:=by rw[N5 J0];exact gv
 refine codeAny_mono ((F _ Xx (M1 D3)).run callerA [] gJ H ⟨x9,[]⟩ x9 (x9.map qZ) _ _ aO ie (ajX gJ x9 aD) ajR (xD H _ rD uI)) fun r aZ x=>?_;cases r with
 |error e=>exact(JA H e aZ x).elim
 |ok i6=>
  cases i6 with
  |next=>exact False.elim x
  |brk=>exact False.elim x
  |cont=>exact False.elim x
  |ret u=>
   obtain⟨v,H',os,jY,fu,X5,g7,q⟩:=x;have kept:∀b o,gJ.heap.get? b=some o->aZ.heap.get? b=some o:=fun b o e=>by
    cases bf:H b with
    |none=>exact fu.keep b o e bf (by intro I;exact absurd (show b∈([]:List Addr)from I) (by simp)) (by simp)
    |some jy=>
     rcases rD b with I|⟨cD,NZ,I⟩
     .rw[bf]at I;cases I
     .have gb:=fu.oS b cD _ I;obtain⟨ay,_⟩:=cG b _ I;obtain⟨aq,_⟩:=X5 b _ gb;rw[e]at ay;cases ay;exact aq
   have aet:K.In aZ.heap:=fun b o e=>kept b o (i5 b o e);obtain⟨mJ,D9⟩:=nT.aa9 (R:=R) (cl:=cl) X5 aet d0 v u q g7;exact⟨u,mJ,z,D9,OldK.of_keep kept,os,jY⟩
theorem alY{bH:List WData}(h:WData.layableAll bH=true):∀d∈bH,d.weight<=1048576:=fun d aG=>
 (PySem.W.layableW_iff.mp (zJ.mp h d aG)).2.2
theorem V8:∀(cs:List Codec)(a:Codec.denoteAll cs),(Codec.encAll cs a).length=cs.length
 |[],_=>rfl
 |c::cs,a=>by
  show(Codec.encAll cs a.2).length+1=cs.length+1;rw[V8 cs a.2]
theorem atD{r:OpenSpec}{k:Nat}{q:Program}{Rj:List Str}{OD:(Str->Option Value)->Heap->Prop}{BA:World->Heap->Prop}{d:DefRec}{K:Params->Frag}{g4:World->u5}{ps:List Str}{sp:World->dj}
  (QV:r.wellSaid=true)(XM:d.params.defaults=[])(gv:r.args.length=ps.length)(aO:kM k callerA)
  (JC:∀(w:World)(h:Heap),BA w h->(K w.params).In h)
  (F:∀(w:World)(az:Str->Option Value)(tT:Addr)(h:Heap),BA w h->(K w.params).In h->h.Ns mainGlobals az->az d.name=some (.ref tT)->
   ∃gO:FuncData,(∀(s:Shared)(us:List Value),us.length=ps.length->BindsTo s gO ⟨us,[]⟩ (ps.zip us))/\
    ∀base:Heap,(K w.params).In base->base.Ns mainGlobals az->cZ r.prog w (K w.params) az base (g4 w) k tT gO ps (sp w))
  (xD:∀(w:World)(H:aA)(xs:List aa)(a:Codec.denoteAll r.args),FF H->Codec.withinAll r.args a=true->Codec.app r.args r.asked a=true->u6 (K w.params) H xs (Codec.encAll r.args a)->
   sp w xs H (fun v H'=>nT (K w.params) H' v (r.ret.enc (Codec.app r.args r.f a))) fun _ _ _=>False)
  (JA:∀(w:World)(H:aA)(s:Shared)(e:Value)(aZ:Shared),g4 w [] H s (fun _ _ _=>False) e aZ->False):
  WalkOS q Rj OD BA r d [] (fun f vs=>PySem.call f vs):=by
 intro w jw gJ az AG G eK tT o s8 dm doc O4 oZ aT aG lI lH QA dz args x9 mJ akS akp D9 J0 auL;obtain⟨a,ay,aq⟩:=PySem.W.os_pre_some akS;obtain⟨bB,Mr⟩:=Codec.encAll_of_decAll r.args args a ay;subst bB;have i5:=JC w _ eK;obtain⟨gO,ae,ajI⟩:=F w az tT _ eK i5 G.T.g QA;refine PySem.W.enter_call (codeAny_mono (asv (R:=[]) (cl:=classAt jw.heap) (d0:=r.ret.enc (Codec.app r.args r.f a)) i5 G.T.g G.T.b G.T.builtins G.T.nolimit dz J0 (aaV _ _) (alY akp) aO ajI ae (by rw[V8];exact gv)
  (fun H xs rD uI=>xD w H xs a rD Mr aq uI) fun H e aZ=>JA w H gJ e aZ) fun g7 aZ a9=>?_)
 obtain⟨u,afi,rfl,ai,aj,bN,ez⟩:=a9;exact⟨.inl ⟨u,_,afi,z,fun _=>rfl,ai,(OpenSpec.post_iff QV Mr _ _).mpr z,fun I=>noConfusion (show false=true from I)⟩,aj,bN,ez⟩
end bF
namespace Z
open Cz
structure jd where
 eZ:Nat
 depth:Nat
 bJ:Nat
structure jO where
 kind:Nat
 value:Nat
 jj:Nat
 eZ:Nat
 bJ:Nat
structure fV where
 eZ:Nat
 own:Nat
 bJ:Nat
def cU:Term->Nat->Nat->Nat->List jO
 |.num x,n,h,_=>[⟨0,x,0,n,h⟩]
 |.var v,n,h,_=>[⟨1,v,0,n,h⟩]
 |.fn b,n,h,k=>⟨2,k,1,n,h⟩::cU b (n+1) k (k+1)
 |.fix b,n,h,k=>⟨3,k,1,n,h⟩::cU b (n+2) k (k+1)
 |.app f a,n,h,k=>⟨4,0,2,n,h⟩::(cU f n h k++cU a n h (k+f.fns))
 |.add a b,n,h,k=>⟨5,0,2,n,h⟩::(cU a n h k++cU b n h (k+a.fns))
 |.sub a b,n,h,k=>⟨6,0,2,n,h⟩::(cU a n h k++cU b n h (k+a.fns))
 |.less a b,n,h,k=>⟨7,0,2,n,h⟩::(cU a n h k++cU b n h (k+a.fns))
 |.cond c a b,n,h,k=>⟨8,0,3,n,h⟩::(cU c n h k++(cU a n h (k+c.fns)++cU b n h (k+c.fns+a.fns)))
 |.name a b,n,h,k=>⟨9,0,2,n,h⟩::(cU a n h k++cU b (n+1) h (k+a.fns))
def fP:Term->Nat->Nat->Nat->List fV
 |.num _,_,_,_=>[]
 |.var _,_,_,_=>[]
 |.fn b,n,h,k=>⟨n,1,h⟩::fP b (n+1) k (k+1)
 |.fix b,n,h,k=>⟨n,2,h⟩::fP b (n+2) k (k+1)
 |.app f a,n,h,k=>fP f n h k++fP a n h (k+f.fns)
 |.add a b,n,h,k=>fP a n h k++fP b n h (k+a.fns)
 |.sub a b,n,h,k=>fP a n h k++fP b n h (k+a.fns)
 |.less a b,n,h,k=>fP a n h k++fP b n h (k+a.fns)
 |.cond c a b,n,h,k=>fP c n h k++(fP a n h (k+c.fns)++fP b n h (k+c.fns+a.fns))
 |.name a b,n,h,k=>fP a n h k++fP b (n+1) h (k+a.fns)
theorem iA:∀(t:Term)(n h k:Nat),(fP t n h k).length=t.fns
 |.num _,_,_,_=>rfl
 |.var _,_,_,_=>rfl
 |.fn b,n,h,k=>by simp[fP,Term.fns,iA b]
 |.fix b,n,h,k=>by simp[fP,Term.fns,iA b]
 |.app f a,n,h,k=>by simp[fP,Term.fns,iA f,iA a]
 |.add f a,n,h,k=>by simp[fP,Term.fns,iA f,iA a]
 |.sub f a,n,h,k=>by simp[fP,Term.fns,iA f,iA a]
 |.less f a,n,h,k=>by simp[fP,Term.fns,iA f,iA a]
 |.cond c f a,n,h,k=>by simp[fP,Term.fns,iA c,iA f,iA a]
 |.name f a,n,h,k=>by simp[fP,Term.fns,iA f,iA a]
def ko:List jd->Bytes->Nat->Option ((List jO×List fV)×Bytes)
 |[],r,_=>some (([],[]),r)
 |sp::ah,r,k=>(readT (33 -sp.depth) sp.eZ r).bind fun x=>(ko ah x.2 (k+x.1.fns)).map fun y=>
   ((cU x.1 sp.eZ sp.bJ k++y.1.1,fP x.1 sp.eZ sp.bJ k++y.1.2),y.2)
def fin(N:List jO)(B:List fV)(ah:List jd)(r:Bytes):Option (List jO×List fV×Bytes):=
 (ko ah r B.length).bind fun y=>if B.length+y.1.2.length<=65 then some (N++y.1.1,B++y.1.2,y.2)else none
theorem ahZ{N:List jO}{B:List fV}{r:Bytes}(h:B.length<=65):fin N B [] r=some (N,B,r):=by
 simp[fin,ko,h]
theorem ahV{N:List jO}{B:List fV}{sp:jd}{ah:List jd}{r:Bytes}(h:32<sp.depth):fin N B (sp::ah) r=none:=by
 have e:33 -sp.depth=0:=by omega
 simp[fin,ko,e,readT]
theorem ahW{N:List jO}{B:List fV}{sp:jd}{ah:List jd}:fin N B (sp::ah) []=none:=by
 cases e:33 -sp.depth<;>simp[fin,ko,e,readT]
section
variable{N:List jO}{B:List fV}{n d h:Nat}{ah:List jd}{op:UInt8}{r:Bytes}
theorem uf(aG:d<=32):33 -d=(33 -(d+1))+1:=by omega
theorem ah0(aG:d<=32)(aT:op.toNat=0)(aD:4<=r.length):
  fin N B (⟨n,d,h⟩::ah) (op::r)=fin (N++[⟨0,le (r.take 4),0,n,h⟩]) B ah (r.drop 4):=by
 simp[fin,ko,uf aG,readT,aT,aD,cU,fP,Term.fns];cases ko ah (List.drop 4 r) B.length<;>simp
theorem ah1(aG:d<=32)(aT:op.toNat=0)(aD:r.length<4):fin N B (⟨n,d,h⟩::ah) (op::r)=none:=by
 have:¬4<=r.length:=by omega
 simp[fin,ko,uf aG,readT,aT,this]
theorem ah4{k:UInt8}(aG:d<=32)(aT:op.toNat=1)(aJ:k.toNat<n):
  fin N B (⟨n,d,h⟩::ah) (op::k::r)=fin (N++[⟨1,k.toNat,0,n,h⟩]) B ah r:=by
 simp[fin,ko,uf aG,readT,aT,aJ,cU,fP,Term.fns];cases ko ah r B.length<;>simp
theorem ah5{k:UInt8}(aG:d<=32)(aT:op.toNat=1)(aJ:n<=k.toNat):fin N B (⟨n,d,h⟩::ah) (op::k::r)=none:=by
 have:¬k.toNat<n:=by omega
 simp[fin,ko,uf aG,readT,aT,this]
theorem ah6(aG:d<=32)(aT:op.toNat=1):fin N B (⟨n,d,h⟩::ah) [op]=none:=by
 simp[fin,ko,uf aG,readT,aT]
theorem Wl(aG:d<=32)(aT:op.toNat=2):
  fin N B (⟨n,d,h⟩::ah) (op::r)=fin (N++[⟨2,B.length,1,n,h⟩]) (B++[⟨n,1,h⟩]) (⟨n+1,d+1,B.length⟩::ah) r:=by
 simp only[fin,ko,uf aG,readT,aT,g8,Oa];cases e:readT (33 -(d+1)) (n+1) r with
 |none=>simp
 |some x=>
  simp only[ur,j8,Term.fns];have aq:B.length+(x.1.fns+1)=B.length+1+x.1.fns:=by omega
  rw[aq];cases bB:ko ah x.2 (B.length+1+x.1.fns)with
  |none=>simp
  |some y=>
   simp[cU,fP];have dQ:B.length+(List.length (fP x.fst (n+1) B.length (B.length+1))+y.fst.snd.length+1)=B.length+1+(List.length (fP x.fst (n+1) B.length (B.length+1))+y.fst.snd.length):=by omega
   rw[dQ]
theorem Wk(aG:d<=32)(aT:op.toNat=3):
  fin N B (⟨n,d,h⟩::ah) (op::r)=fin (N++[⟨3,B.length,1,n,h⟩]) (B++[⟨n,2,h⟩]) (⟨n+2,d+1,B.length⟩::ah) r:=by
 simp only[fin,ko,uf aG,readT,aT,g8,Oa];cases e:readT (33 -(d+1)) (n+2) r with
 |none=>simp
 |some x=>
  simp only[ur,j8,Term.fns];have aq:B.length+(x.1.fns+1)=B.length+1+x.1.fns:=by omega
  rw[aq];cases bB:ko ah x.2 (B.length+1+x.1.fns)with
  |none=>simp
  |some y=>
   simp[cU,fP];have dQ:B.length+(List.length (fP x.fst (n+2) B.length (B.length+1))+y.fst.snd.length+1)=B.length+1+(List.length (fP x.fst (n+2) B.length (B.length+1))+y.fst.snd.length):=by omega
   rw[dQ]
theorem Wm{sp:jd}(ae:65<B.length):fin N B (sp::ah) r=none:=by
 unfold fin;cases ko (sp::ah) r B.length with
 |none=>rfl
 |some y=>
  have:¬B.length+y.1.2.length<=65:=by omega
  simp[this]
theorem ahT(aG:d<=32)(aT:op.toNat=4):
  fin N B (⟨n,d,h⟩::ah) (op::r)=fin (N++[⟨4,0,2,n,h⟩]) B (⟨n,d+1,h⟩::⟨n,d+1,h⟩::ah) r:=by
 simp only[fin,ko,uf aG,readT,aT];cases e:readT (33 -(d+1)) n r with
 |none=>simp
 |some x=>
  simp only[j8];cases ay:readT (33 -(d+1)) n x.2 with
  |none=>simp
  |some y=>
   simp only[ur,j8,Term.fns,oF];cases bB:ko ah y.2 (B.length+(x.1.fns+y.1.fns))<;>simp[cU,fP]
theorem ahS(aG:d<=32)(aT:op.toNat=5):
  fin N B (⟨n,d,h⟩::ah) (op::r)=fin (N++[⟨5,0,2,n,h⟩]) B (⟨n,d+1,h⟩::⟨n,d+1,h⟩::ah) r:=by
 simp only[fin,ko,uf aG,readT,aT];cases e:readT (33 -(d+1)) n r with
 |none=>simp
 |some x=>
  simp only[j8];cases ay:readT (33 -(d+1)) n x.2 with
  |none=>simp
  |some y=>
   simp only[ur,j8,Term.fns,oF];cases bB:ko ah y.2 (B.length+(x.1.fns+y.1.fns))<;>simp[cU,fP]
theorem ah3(aG:d<=32)(aT:op.toNat=6):
  fin N B (⟨n,d,h⟩::ah) (op::r)=fin (N++[⟨6,0,2,n,h⟩]) B (⟨n,d+1,h⟩::⟨n,d+1,h⟩::ah) r:=by
 simp only[fin,ko,uf aG,readT,aT];cases e:readT (33 -(d+1)) n r with
 |none=>simp
 |some x=>
  simp only[j8];cases ay:readT (33 -(d+1)) n x.2 with
  |none=>simp
  |some y=>
   simp only[ur,j8,Term.fns,oF];cases bB:ko ah y.2 (B.length+(x.1.fns+y.1.fns))<;>simp[cU,fP]
theorem ahX(aG:d<=32)(aT:op.toNat=7):
  fin N B (⟨n,d,h⟩::ah) (op::r)=fin (N++[⟨7,0,2,n,h⟩]) B (⟨n,d+1,h⟩::⟨n,d+1,h⟩::ah) r:=by
 simp only[fin,ko,uf aG,readT,aT];cases e:readT (33 -(d+1)) n r with
 |none=>simp
 |some x=>
  simp only[j8];cases ay:readT (33 -(d+1)) n x.2 with
  |none=>simp
  |some y=>
   simp only[ur,j8,Term.fns,oF];cases bB:ko ah y.2 (B.length+(x.1.fns+y.1.fns))<;>simp[cU,fP]
theorem ahU(aG:d<=32)(aT:op.toNat=8):
  fin N B (⟨n,d,h⟩::ah) (op::r)=fin (N++[⟨8,0,3,n,h⟩]) B (⟨n,d+1,h⟩::⟨n,d+1,h⟩::⟨n,d+1,h⟩::ah) r:=by
 simp only[fin,ko,uf aG,readT,aT];cases e:readT (33 -(d+1)) n r with
 |none=>simp
 |some x=>
  simp only[j8];cases ay:readT (33 -(d+1)) n x.2 with
  |none=>simp
  |some y=>
   simp only[j8];cases aq:readT (33 -(d+1)) n y.2 with
   |none=>simp
   |some I=>
    simp only[ur,j8,Term.fns,oF];cases bB:ko ah I.2 (B.length+(x.1.fns+(y.1.fns+I.1.fns)))<;>simp[cU,fP,oF]
theorem ahY(aG:d<=32)(aT:op.toNat=9):
  fin N B (⟨n,d,h⟩::ah) (op::r)=fin (N++[⟨9,0,2,n,h⟩]) B (⟨n,d+1,h⟩::⟨n+1,d+1,h⟩::ah) r:=by
 simp only[fin,ko,uf aG,readT,aT];cases e:readT (33 -(d+1)) n r with
 |none=>simp
 |some x=>
  simp only[j8];cases ay:readT (33 -(d+1)) (n+1) x.2 with
  |none=>simp
  |some y=>
   simp only[ur,j8,Term.fns,oF];cases bB:ko ah y.2 (B.length+(x.1.fns+y.1.fns))<;>simp[cU,fP]
theorem ah2(aG:d<=32)(aT:9<op.toNat):fin N B (⟨n,d,h⟩::ah) (op::r)=none:=by
 simp only[fin,ko,uf aG,readT];split<;>first|omega|simp
end
theorem Wj(aR:Bytes):fin [] [⟨0,0,0⟩] [⟨0,1,0⟩] aR=(readT 32 0 aR).bind fun x=>if x.1.fns<=64 then some (cU x.1 0 0 1,⟨0,0,0⟩::fP x.1 0 0 1,x.2)else none:=by
 simp only[fin,ko];cases e:readT 32 0 aR with
 |none=>simp[e]
 |some x=>
  simp[e,iA];by_cases q:x.1.fns<=64
  .rw[bT q,bT (by omega)]
  .rw[bz q,bz (by omega)]
def iw:Term->Nat->Prop
 |.num _,_=>True
 |.var k,n=>k<n
 |.fn b,n=>iw b (n+1)
 |.fix b,n=>iw b (n+2)
 |.app f a,n=>iw f n/\iw a n
 |.add f a,n=>iw f n/\iw a n
 |.sub f a,n=>iw f n/\iw a n
 |.less f a,n=>iw f n/\iw a n
 |.cond c f a,n=>iw c n/\iw f n/\iw a n
 |.name a b,n=>iw a n/\iw b (n+1)
theorem q2:∀(g n:Nat)(r:Bytes)(t:Term)(q:Bytes),readT g n r=some (t,q)->iw t n
 |0,_,_,_,_,h=>by simp[readT]at h
 |_+1,_,[],_,_,h=>by simp[readT]at h
 |g+1,n,op::r,t,q,h=>by
  simp only[readT]at h;split at h
  .split at h
   .simp at h;rw[<-h.1];trivial
   .cases h
  .split at h
   .split at h
    .simp at h;rw[<-h.1];assumption
    .cases h
   .cases h
  .simp only[iy]at h;obtain⟨x,Y,e⟩:=h;cases e;exact q2 g (n+1) r _ _ Y
  .simp only[iy]at h;obtain⟨x,Y,e⟩:=h;cases e;exact q2 g (n+2) r _ _ Y
  .simp only[jL,iy]at h;obtain⟨x,Y,y,bu,e⟩:=h;cases e;exact⟨q2 g n r _ _ Y,q2 g n _ _ _ bu⟩
  .simp only[jL,iy]at h;obtain⟨x,Y,y,bu,e⟩:=h;cases e;exact⟨q2 g n r _ _ Y,q2 g n _ _ _ bu⟩
  .simp only[jL,iy]at h;obtain⟨x,Y,y,bu,e⟩:=h;cases e;exact⟨q2 g n r _ _ Y,q2 g n _ _ _ bu⟩
  .simp only[jL,iy]at h;obtain⟨x,Y,y,bu,e⟩:=h;cases e;exact⟨q2 g n r _ _ Y,q2 g n _ _ _ bu⟩
  .simp only[jL,iy]at h;obtain⟨x,Y,y,bu,I,bR,e⟩:=h;cases e;exact⟨q2 g n r _ _ Y,q2 g n _ _ _ bu,q2 g n _ _ _ bR⟩
  .simp only[jL,iy]at h;obtain⟨x,Y,y,bu,e⟩:=h;cases e;exact⟨q2 g n r _ _ Y,q2 g (n+1) _ _ _ bu⟩
  .cases h
def jI:Term->Nat->List Nat
 |.num _,_=>[]
 |.var k,n=>[n -1 -k]
 |.fn b,n=>jI b (n+1)
 |.fix b,n=>jI b (n+2)
 |.app f a,n=>jI f n++jI a n
 |.add f a,n=>jI f n++jI a n
 |.sub f a,n=>jI f n++jI a n
 |.less f a,n=>jI f n++jI a n
 |.cond c f a,n=>jI c n++(jI f n++jI a n)
 |.name a b,n=>jI a n++jI b (n+1)
theorem Sg(a b:Nat)(l:List Nat):out a (out b l)=out (a+b) l:=by
 induction l with
 |nil=>rfl
 |cons x r eL=>
  simp only[out]at eL⊢;by_cases h:b<=x
  .by_cases aj:a<=x -b
   .have bN:a+b<=x:=by omega
    simp[h,aj,bN,eL];omega
   .have bN:¬a+b<=x:=by omega
    simp[h,aj,bN,eL]
  .have bN:¬a+b<=x:=by omega
   simp[h,bN,eL]
theorem ED(a:Nat)(l r:List Nat):out a (l++r)=out a l++out a r:=by simp[out]
theorem ao8(l:List Nat):out 0 l=l:=by simp[out]
theorem AH{a x:Nat}{l:List Nat}:x∈out a l↔x+a∈l:=by
 simp only[out,vY,mem_filter,tB];constructor
 .rintro ⟨y,⟨ai,aj⟩,rfl⟩;have:y -a+a=y:=by omega
  rw[this];exact ai
 .intro h;exact⟨x+a,⟨h,by omega⟩,by omega⟩
theorem lF:∀(t:Term)(n:Nat),iw t n->∀k∈t.free,k<n
 |.num _,_,_,k,h=>by simp[Term.free]at h
 |.var v,n,w,k,h=>by simp[Term.free]at h;rw[h];exact w
 |.fn b,n,w,k,h=>by
  have:=lF b (n+1) w (k+1) (AH.mp h);omega
 |.fix b,n,w,k,h=>by
  have:=lF b (n+2) w (k+2) (AH.mp h);omega
 |.app f a,n,w,k,h=>by
  rcases fN.mp h with h|h
  .exact lF f n w.1 k h
  .exact lF a n w.2 k h
 |.add f a,n,w,k,h=>by
  rcases fN.mp h with h|h
  .exact lF f n w.1 k h
  .exact lF a n w.2 k h
 |.sub f a,n,w,k,h=>by
  rcases fN.mp h with h|h
  .exact lF f n w.1 k h
  .exact lF a n w.2 k h
 |.less f a,n,w,k,h=>by
  rcases fN.mp h with h|h
  .exact lF f n w.1 k h
  .exact lF a n w.2 k h
 |.cond c f a,n,w,k,h=>by
  rcases fN.mp h with h|h
  .exact lF c n w.1 k h
  .rcases fN.mp h with h|h
   .exact lF f n w.2.1 k h
   .exact lF a n w.2.2 k h
 |.name a b,n,w,k,h=>by
  rcases fN.mp h with h|h
  .exact lF a n w.1 k h
  .have:=lF b (n+1) w.2 (k+1) (AH.mp h);omega
theorem rK:∀(t:Term)(n m:Nat),iw t n->m<=n->(jI t n).filter (fun l=>decide (l<m))=(out (n -m) t.free).map (fun k=>m -1 -k)
 |.num _,_,_,_,_=>rfl
 |.var k,n,m,w,aM=>by
  have aJ:k<n:=w;simp only[jI,Term.free,out];by_cases h:n -m<=k
  .have aj:n -1 -k<m:=by omega
   rw[List.filter_cons_of_pos (by simp[aj]),List.filter_cons_of_pos (by simpa using h)];simp only[List.filter_nil,j6,map_nil,List.cons.injEq,and_true];omega
  .have aj:¬n -1 -k<m:=by omega
   rw[List.filter_cons_of_neg (by simp[aj]),List.filter_cons_of_neg (by simpa using h)];rfl
 |.fn b,n,m,w,aM=>by
  simp only[jI,Term.free,Sg];rw[rK b (n+1) m w (by omega)];have:n+1 -m=n -m+1:=by omega
  rw[this]
 |.fix b,n,m,w,aM=>by
  simp only[jI,Term.free,Sg];rw[rK b (n+2) m w (by omega)];have:n+2 -m=n -m+2:=by omega
  rw[this]
 |.app f a,n,m,w,aM=>by
  simp only[jI,Term.free,Lc,ED,gB,rK f n m w.1 aM,rK a n m w.2 aM]
 |.add f a,n,m,w,aM=>by
  simp only[jI,Term.free,Lc,ED,gB,rK f n m w.1 aM,rK a n m w.2 aM]
 |.sub f a,n,m,w,aM=>by
  simp only[jI,Term.free,Lc,ED,gB,rK f n m w.1 aM,rK a n m w.2 aM]
 |.less f a,n,m,w,aM=>by
  simp only[jI,Term.free,Lc,ED,gB,rK f n m w.1 aM,rK a n m w.2 aM]
 |.cond c f a,n,m,w,aM=>by
  simp only[jI,Term.free,Lc,ED,gB,rK c n m w.1 aM,rK f n m w.2.1 aM,rK a n m w.2.2 aM]
 |.name a b,n,m,w,aM=>by
  simp only[jI,Term.free,Lc,ED,gB,rK a n m w.1 aM,Sg];rw[rK b (n+1) m w.2 (by omega)];have:n+1 -m=n -m+1:=by omega
  rw[this]
def lC(l:List Nat)(x:Nat):List Nat:=if x∈l then l else l++[x]
def rt(l:List Nat)(xs:List Nat):List Nat:=xs.foldl lC l
theorem ae3(l xs ys:List Nat):rt l (xs++ys)=rt (rt l xs) ys:=by simp[rt]
theorem ae4(l:List Nat)(x:Nat)(ys:List Nat):rt l (x::ys)=rt (lC l x) ys:=rfl
theorem R7:∀(xs s aZ:List Nat),(∀x,x∈s↔x∈aZ)->onceFrom s xs=onceFrom aZ xs
 |[],_,_,_=>rfl
 |x::r,s,aZ,h=>by
  simp only[onceFrom,List.contains_eq_mem,tB];by_cases Y:x∈s
  .rw[bT Y,bT ((h x).mp Y)];exact R7 r s aZ h
  .rw[bz Y,bz (fun q=>Y ((h x).mpr q))];rw[R7 r (x::s) (x::aZ) (fun y=>by simp only[dG,h y])]
theorem OG:∀(xs l:List Nat),rt l xs=l++onceFrom l xs
 |[],l=>by simp[rt,onceFrom]
 |x::r,l=>by
  rw[ae4,lC];simp only[onceFrom,List.contains_eq_mem,tB];by_cases Y:x∈l
  .rw[bT Y,bT Y];exact OG r l
  .rw[bz Y,bz Y,OG r,Fe];rw[R7 r (l++[x]) (x::l) (fun y=>by simp only[fN,dG,List.not_mem_nil,or_false];exact Or.comm)];rfl
theorem Sa:∀(xs s:List Nat)(x:Nat),x∈onceFrom s xs->x∈xs
 |y::r,s,x,h=>by
  rw[onceFrom]at h;split at h
  .exact gz _ (Sa r s x h)
  .rcases dG.mp h with e|h
   .rw[e];exact iO
   .exact gz _ (Sa r _ x h)
theorem R8:∀(xs s:List Nat)(x:Nat),x∈xs->x∉s->x∈onceFrom s xs
 |y::r,s,x,h,aL=>by
  rw[onceFrom];split
  .rename_i bu;simp at bu;rcases dG.mp h with e|h
   .subst e;exact absurd bu aL
   .exact R8 r s x h aL
  .by_cases e:x=y
   .rw[e];exact iO
   .rcases dG.mp h with c5|h
    .exact absurd c5 e
    .exact gz _ (R8 r _ x h (by simp[e,aL]))
theorem R9(f:Nat->Nat):∀(xs s:List Nat),(∀a∈xs++s,∀b∈xs++s,f a=f b->a=b)->onceFrom (s.map f) (xs.map f)=(onceFrom s xs).map f
 |[],_,_=>rfl
 |x::r,s,inj=>by
  have e:(f x∈s.map f)↔x∈s:=by
   constructor
   .intro h;obtain⟨y,bu,e⟩:=vY.mp h;have:=inj x (by simp) y (by simp[bu]) e.symm;rw[this];exact bu
   .intro h;exact vY.mpr ⟨x,h,z⟩
  simp only[j6,onceFrom,List.contains_eq_mem,tB];by_cases Y:x∈s
  .rw[bT Y,bT (e.mpr Y)];exact R9 f r s (fun a cC b ae=>inj a (by simp at cC⊢;rcases cC with h|h<;>simp[h]) b (by simp at ae⊢;rcases ae with h|h<;>simp[h]))
  .rw[bz Y,bz (fun q=>Y (e.mp q)),j6];have:=R9 f r (x::s) (fun a cC b ae=>inj a (by simp at cC⊢;rcases cC with h|h|h<;>simp[h]) b (by simp at ae⊢;rcases ae with h|h|h<;>simp[h]));rw[j6]at this;rw[this]
def l8(t:Term)(n:Nat):List Nat:=t.uses.map (fun k=>n -1 -k)
theorem adx(t:Term)(n:Nat)(w:iw t n):rt [] ((jI t n).filter (fun l=>decide (l<n)))=l8 t n:=by
 rw[rK t n n w (dW _),Dc,ao8,OG,List.nil_append,l8,Term.uses];have:=R9 (fun k=>n -1 -k) t.free [] (fun a cC b ae e=>by
  have ai:=lF t n w a (by simpa using cC);have aj:=lF t n w b (by simpa using ae);omega)
 simpa using this
def rR(ar:Nat->Nat)(dY:Nat):List Nat->(Nat->List Nat)->(Nat->List Nat)
 |[],T=>T
 |j::c,T=>if dY<ar j then rR ar dY c (fun i=>if i=j then lC (T j) dY else T i)else T
def wD(ar:Nat->Nat)(ch:Nat->List Nat)(T:Nat->List Nat)(x:jO):Nat->List Nat:=
 if x.kind=1 then rR ar (x.eZ -1 -x.value) (ch x.bJ) T else T
def ji(ar:Nat->Nat)(ch:Nat->List Nat)(T:Nat->List Nat)(l:List jO):Nat->List Nat:=l.foldl (wD ar ch) T
theorem RS{ar ch T l r}:ji ar ch T (l++r)=ji ar ch (ji ar ch T l) r:=by simp[ji]
def Fz(ar:Nat->Nat):List Nat->Prop
 |[]=>True
 |j::c=>(∀i∈c,ar i<=ar j/\i≠j)/\Fz ar c
theorem RT{ar:Nat->Nat}{dY:Nat}:∀{c:List Nat}{T:Nat->List Nat},Fz ar c->∀i,rR ar dY c T i=if i∈c/\dY<ar i then lC (T i) dY else T i
 |[],T,_,i=>by simp[rR]
 |j::c,T,F,i=>by
  rw[rR];by_cases h:dY<ar j
  .rw[bT h,RT F.2];by_cases e:i=j
   .subst e;have br:i∉c:=fun q=>(F.1 i q).2 rfl;simp[br,h]
   .simp[e]
  .rw[bz h];have:¬(i∈j::c/\dY<ar i):=by
    rintro ⟨aM,aD⟩;rcases dG.mp aM with e|aM
    .subst e;exact h aD
    .have:=(F.1 i aM).1;omega
   rw[bz this]
def qx(ar:Nat->Nat)(ch:Nat->List Nat):Term->Nat->Nat->Nat->Prop
 |.num _,_,_,_=>True
 |.var _,_,_,_=>True
 |.fn b,n,h,k=>ar k=n/\ch k=k::ch h/\qx ar ch b (n+1) k (k+1)
 |.fix b,n,h,k=>ar k=n/\ch k=k::ch h/\qx ar ch b (n+2) k (k+1)
 |.app f a,n,h,k=>qx ar ch f n h k/\qx ar ch a n h (k+f.fns)
 |.add f a,n,h,k=>qx ar ch f n h k/\qx ar ch a n h (k+f.fns)
 |.sub f a,n,h,k=>qx ar ch f n h k/\qx ar ch a n h (k+f.fns)
 |.less f a,n,h,k=>qx ar ch f n h k/\qx ar ch a n h (k+f.fns)
 |.cond c f a,n,h,k=>qx ar ch c n h k/\qx ar ch f n h (k+c.fns)/\qx ar ch a n h (k+c.fns+f.fns)
 |.name a b,n,h,k=>qx ar ch a n h k/\qx ar ch b (n+1) h (k+a.fns)
def gF:Term->Nat->List (List Nat)
 |.num _,_=>[]
 |.var _,_=>[]
 |.fn b,n=>l8 (.fn b) n::gF b (n+1)
 |.fix b,n=>l8 (.fix b) n::gF b (n+2)
 |.app f a,n=>gF f n++gF a n
 |.add f a,n=>gF f n++gF a n
 |.sub f a,n=>gF f n++gF a n
 |.less f a,n=>gF f n++gF a n
 |.cond c f a,n=>gF c n++(gF f n++gF a n)
 |.name a b,n=>gF a n++gF b (n+1)
theorem jU:∀(t:Term)(n:Nat),(gF t n).length=t.fns
 |.num _,_=>rfl
 |.var _,_=>rfl
 |.fn b,n=>by simp[gF,Term.fns,jU b]
 |.fix b,n=>by simp[gF,Term.fns,jU b]
 |.app f a,n=>by simp[gF,Term.fns,jU f,jU a]
 |.add f a,n=>by simp[gF,Term.fns,jU f,jU a]
 |.sub f a,n=>by simp[gF,Term.fns,jU f,jU a]
 |.less f a,n=>by simp[gF,Term.fns,jU f,jU a]
 |.cond c f a,n=>by simp[gF,Term.fns,jU c,jU f,jU a]
 |.name f a,n=>by simp[gF,Term.fns,jU f,jU a]
def ve(ar:Nat->Nat)(ch:Nat->List Nat)(T OA:Nat->List Nat)(t:Term)(n h k:Nat):Prop:=
 (∀i,i<k->OA i=if i∈ch h then rt (T i) ((jI t n).filter fun l=>decide (l<ar i))else T i)/\
 (∀i,i<t.fns->OA (k+i)=(gF t n).getD i [])/\
 (∀i,k+t.fns<=i->OA i=T i)
theorem Cy{ar ch T f a n kW h k l r}(aB:∀i∈ch h,i<k)
  (ai:∀T,(∀i,k<=i->T i=[])->ve ar ch T (ji ar ch T l) f n h k)
  (aj:∀T,(∀i,k+f.fns<=i->T i=[])->ve ar ch T (ji ar ch T r) a kW h (k+f.fns))(dh:∀i,k<=i->T i=[]):
  (∀i,i<k->ji ar ch T (l++r) i=if i∈ch h then rt (T i) ((jI f n++jI a kW).filter fun x=>decide (x<ar i))else T i)/\
  (∀i,i<f.fns+a.fns->ji ar ch T (l++r) (k+i)=(gF f n++gF a kW).getD i [])/\
  (∀i,k+(f.fns+a.fns)<=i->ji ar ch T (l++r) i=T i):=by
 obtain⟨iG,kN,m5⟩:=ai T dh;obtain⟨kB,m6,yw⟩:=aj (ji ar ch T l) (fun i aF=>by rw[m5 i aF];exact dh i (by omega));rw[RS];refine⟨fun i aF=>?_,fun i aF=>?_,fun i aF=>?_⟩
 .rw[kB i (by omega),iG i aF];by_cases aM:i∈ch h
  .simp[aM,ae3]
  .simp[aM]
 .by_cases aD:i<f.fns
  .rw[kB (k+i) (by omega)];have br:k+i∉ch h:=fun q=>by have:=aB _ q;omega
   rw[bz br,kN i aD];rw[mZ,mZ,sd (by rw[jU];exact aD)]
  .have e:k+i=k+f.fns+(i -f.fns):=by omega
   rw[e,m6 (i -f.fns) (by omega)];rw[mZ,mZ,q3 (by rw[jU];omega),jU]
 .rw[yw i (by omega),m5 i (by omega)]
theorem zl{ar ch T x}(h:x.kind≠1):wD ar ch T x=T:=by simp[wD,h]
theorem AS{ar ch T x l}:ji ar ch T (x::l)=ji ar ch (wD ar ch T x) l:=rfl
theorem rS:∀(t:Term)(n h k:Nat)(ar:Nat->Nat)(ch:Nat->List Nat)(T:Nat->List Nat),iw t n->qx ar ch t n h k->Fz ar (ch h)->(∀i∈ch h,i<k/\ar i<=n)->(∀i,k<=i->T i=[])->
  ve ar ch T (ji ar ch T (cU t n h k)) t n h k
 |.num x,n,h,k,ar,ch,T,w,L,F,aB,dh=>by
  refine⟨fun i aF=>?_,fun i aF=>by simp[Term.fns]at aF,fun i aF=>?_⟩
  .simp[cU,ji,wD,jI,rt]
  .simp[cU,ji,wD]
 |.var v,n,h,k,ar,ch,T,w,L,F,aB,dh=>by
  refine⟨fun i aF=>?_,fun i aF=>by simp[Term.fns]at aF,fun i aF=>?_⟩
  .simp only[cU,ji,List.foldl_cons,List.foldl_nil,wD,bT];rw[RT F];by_cases aM:i∈ch h
   .by_cases aD:n -1 -v<ar i
    .simp[aM,aD,jI,rt]
    .simp[aM,aD,jI,rt]
   .simp[aM]
  .simp only[cU,ji,List.foldl_cons,List.foldl_nil,wD,bT];rw[RT F,bz];rintro ⟨aM,_⟩;have:=(aB i aM).1;simp[Term.fns]at aF;omega
 |.fn b,n,h,k,ar,ch,T,w,L,F,aB,dh=>by
  obtain⟨fL,iJ,tY⟩:=L;have Dg:Fz ar (ch k):=by
   rw[iJ];exact⟨fun i aF=>⟨by rw[fL];exact(aB i aF).2,by have:=(aB i aF).1;omega⟩,F⟩
  have eL:=rS b (n+1) k (k+1) ar ch T w tY Dg (fun i aF=>by
   rw[iJ]at aF;rcases dG.mp aF with e|aF
   .subst e;exact⟨by omega,by omega⟩
   .have:=aB i aF;exact⟨by omega,by omega⟩) (fun i aF=>dh i (by omega))
  obtain⟨iG,kN,m5⟩:=eL;show ve ar ch T (ji ar ch T (⟨2,k,1,n,h⟩::cU b (n+1) k (k+1))) _ n h k;rw[AS,zl (by simp)];refine⟨fun i aF=>?_,fun i aF=>?_,fun i aF=>?_⟩
  .rw[iG i (by omega),iJ];by_cases aM:i∈ch h
   .have vy:i∈k::ch h:=gz _ aM;rw[bT vy,bT aM];rfl
   .have vy:i∉k::ch h:=fun q=>by
     rcases dG.mp q with e|q
     .omega
     .exact aM q
    rw[bz vy,bz aM]
  .cases i with
   |zero=>
    rw[show k+0=k from rfl,iG k (by omega),iJ,bT iO,dh k (dW _),fL];show rt [] ((jI (.fn b) n).filter fun l=>decide (l<n))=l8 (.fn b) n;exact adx (.fn b) n w
   |succ i=>
    have e:k+(i+1)=k+1+i:=by omega
    rw[e,kN i (by simp[Term.fns]at aF;omega)];rfl
  .exact m5 i (by simp[Term.fns]at aF;omega)
 |.fix b,n,h,k,ar,ch,T,w,L,F,aB,dh=>by
  obtain⟨fL,iJ,tY⟩:=L;have Dg:Fz ar (ch k):=by
   rw[iJ];exact⟨fun i aF=>⟨by rw[fL];exact(aB i aF).2,by have:=(aB i aF).1;omega⟩,F⟩
  have eL:=rS b (n+2) k (k+1) ar ch T w tY Dg (fun i aF=>by
   rw[iJ]at aF;rcases dG.mp aF with e|aF
   .subst e;exact⟨by omega,by omega⟩
   .have:=aB i aF;exact⟨by omega,by omega⟩) (fun i aF=>dh i (by omega))
  obtain⟨iG,kN,m5⟩:=eL;show ve ar ch T (ji ar ch T (⟨3,k,1,n,h⟩::cU b (n+2) k (k+1))) _ n h k;rw[AS,zl (by simp)];refine⟨fun i aF=>?_,fun i aF=>?_,fun i aF=>?_⟩
  .rw[iG i (by omega),iJ];by_cases aM:i∈ch h
   .have vy:i∈k::ch h:=gz _ aM;rw[bT vy,bT aM];rfl
   .have vy:i∉k::ch h:=fun q=>by
     rcases dG.mp q with e|q
     .omega
     .exact aM q
    rw[bz vy,bz aM]
  .cases i with
   |zero=>
    rw[show k+0=k from rfl,iG k (by omega),iJ,bT iO,dh k (dW _),fL];show rt [] ((jI (.fix b) n).filter fun l=>decide (l<n))=l8 (.fix b) n;exact adx (.fix b) n w
   |succ i=>
    have e:k+(i+1)=k+1+i:=by omega
    rw[e,kN i (by simp[Term.fns]at aF;omega)];rfl
  .exact m5 i (by simp[Term.fns]at aF;omega)
 |.app f a,n,h,k,ar,ch,T,w,L,F,aB,dh=>by
  show ve ar ch T (ji ar ch T (⟨4,0,2,n,h⟩::(cU f n h k++cU a n h (k+f.fns)))) _ n h k;rw[AS,zl (by simp)];exact Cy (fun i aF=>(aB i aF).1) (fun T dh=>rS f n h k ar ch T w.1 L.1 F aB dh) (fun T dh=>rS a n h (k+f.fns) ar ch T w.2 L.2 F (fun i aF=>⟨by have:=(aB i aF).1;omega,(aB i aF).2⟩) dh) dh
 |.add f a,n,h,k,ar,ch,T,w,L,F,aB,dh=>by
  show ve ar ch T (ji ar ch T (⟨5,0,2,n,h⟩::(cU f n h k++cU a n h (k+f.fns)))) _ n h k;rw[AS,zl (by simp)];exact Cy (fun i aF=>(aB i aF).1) (fun T dh=>rS f n h k ar ch T w.1 L.1 F aB dh) (fun T dh=>rS a n h (k+f.fns) ar ch T w.2 L.2 F (fun i aF=>⟨by have:=(aB i aF).1;omega,(aB i aF).2⟩) dh) dh
 |.sub f a,n,h,k,ar,ch,T,w,L,F,aB,dh=>by
  show ve ar ch T (ji ar ch T (⟨6,0,2,n,h⟩::(cU f n h k++cU a n h (k+f.fns)))) _ n h k;rw[AS,zl (by simp)];exact Cy (fun i aF=>(aB i aF).1) (fun T dh=>rS f n h k ar ch T w.1 L.1 F aB dh) (fun T dh=>rS a n h (k+f.fns) ar ch T w.2 L.2 F (fun i aF=>⟨by have:=(aB i aF).1;omega,(aB i aF).2⟩) dh) dh
 |.less f a,n,h,k,ar,ch,T,w,L,F,aB,dh=>by
  show ve ar ch T (ji ar ch T (⟨7,0,2,n,h⟩::(cU f n h k++cU a n h (k+f.fns)))) _ n h k;rw[AS,zl (by simp)];exact Cy (fun i aF=>(aB i aF).1) (fun T dh=>rS f n h k ar ch T w.1 L.1 F aB dh) (fun T dh=>rS a n h (k+f.fns) ar ch T w.2 L.2 F (fun i aF=>⟨by have:=(aB i aF).1;omega,(aB i aF).2⟩) dh) dh
 |.name f a,n,h,k,ar,ch,T,w,L,F,aB,dh=>by
  show ve ar ch T (ji ar ch T (⟨9,0,2,n,h⟩::(cU f n h k++cU a (n+1) h (k+f.fns)))) _ n h k;rw[AS,zl (by simp)];exact Cy (fun i aF=>(aB i aF).1) (fun T dh=>rS f n h k ar ch T w.1 L.1 F aB dh) (fun T dh=>rS a (n+1) h (k+f.fns) ar ch T w.2 L.2 F (fun i aF=>⟨by have:=(aB i aF).1;omega,by have:=(aB i aF).2;omega⟩) dh) dh
 |.cond c f a,n,h,k,ar,ch,T,w,L,F,aB,dh=>by
  show ve ar ch T (ji ar ch T (⟨8,0,3,n,h⟩::(cU c n h k++(cU f n h (k+c.fns)++cU a n h (k+c.fns+f.fns))))) _ n h k;rw[AS,zl (by simp)];have fS:∀T,(∀i,k+c.fns<=i->T i=[])->ve ar ch T (ji ar ch T (cU f n h (k+c.fns)++cU a n h (k+c.fns+f.fns))) (.app f a) n h (k+c.fns):=fun T dh=>
   Cy (fun i aF=>by have:=(aB i aF).1;omega) (fun T dh=>rS f n h (k+c.fns) ar ch T w.2.1 L.2.1 F (fun i aF=>⟨by have:=(aB i aF).1;omega,(aB i aF).2⟩) dh) (fun T dh=>rS a n h (k+c.fns+f.fns) ar ch T w.2.2 L.2.2 F (fun i aF=>⟨by have:=(aB i aF).1;omega,(aB i aF).2⟩) dh) dh
  exact Cy (a:=.app f a) (fun i aF=>(aB i aF).1) (fun T dh=>rS c n h k ar ch T w.1 L.1 F aB dh) fS dh
def cf:Term->Nat
 |.num _=>1
 |.var _=>1
 |.fn b=>cf b+1
 |.fix b=>cf b+1
 |.app f a=>max (cf f) (cf a)+1
 |.add f a=>max (cf f) (cf a)+1
 |.sub f a=>max (cf f) (cf a)+1
 |.less f a=>max (cf f) (cf a)+1
 |.cond c f a=>max (cf c) (max (cf f) (cf a))+1
 |.name a b=>max (cf a) (cf b)+1
theorem qC:∀(g n:Nat)(r:Bytes)(t:Term)(q:Bytes),readT g n r=some (t,q)->cf t<=g
 |0,_,_,_,_,h=>by simp[readT]at h
 |_+1,_,[],_,_,h=>by simp[readT]at h
 |g+1,n,op::r,t,q,h=>by
  simp only[readT]at h;split at h
  .split at h
   .simp at h;rw[<-h.1];simp[cf]
   .cases h
  .split at h
   .split at h
    .simp at h;rw[<-h.1];simp[cf]
    .cases h
   .cases h
  .simp only[iy]at h;obtain⟨x,Y,e⟩:=h;cases e;have:=qC g (n+1) r _ _ Y;simp only[cf];omega
  .simp only[iy]at h;obtain⟨x,Y,e⟩:=h;cases e;have:=qC g (n+2) r _ _ Y;simp only[cf];omega
  .simp only[jL,iy]at h;obtain⟨x,Y,y,bu,e⟩:=h;cases e;have ai:=qC g n r _ _ Y;have aj:=qC g n _ _ _ bu;simp only[cf];omega
  .simp only[jL,iy]at h;obtain⟨x,Y,y,bu,e⟩:=h;cases e;have ai:=qC g n r _ _ Y;have aj:=qC g n _ _ _ bu;simp only[cf];omega
  .simp only[jL,iy]at h;obtain⟨x,Y,y,bu,e⟩:=h;cases e;have ai:=qC g n r _ _ Y;have aj:=qC g n _ _ _ bu;simp only[cf];omega
  .simp only[jL,iy]at h;obtain⟨x,Y,y,bu,e⟩:=h;cases e;have ai:=qC g n r _ _ Y;have aj:=qC g n _ _ _ bu;simp only[cf];omega
  .simp only[jL,iy]at h;obtain⟨x,Y,y,bu,I,bR,e⟩:=h;cases e;have ai:=qC g n r _ _ Y;have aj:=qC g n _ _ _ bu;have bN:=qC g n _ _ _ bR;simp only[cf];omega
  .simp only[jL,iy]at h;obtain⟨x,Y,y,bu,e⟩:=h;cases e;have ai:=qC g n r _ _ Y;have aj:=qC g (n+1) _ _ _ bu;simp only[cf];omega
  .cases h
theorem ZY:∀(n:Nat)(l:List Nat),l.Nodup->(∀x∈l,x<n)->l.length<=n
 |0,l,_,h=>by
  cases l with
  |nil=>simp
  |cons x r=>exact absurd (h x iO) (Nat.not_lt_zero _)
 |n+1,l,aH,h=>by
  have e:=ZY n (l.erase n) (aH.erase n) (fun x Y=>by
   have ai:=h x (List.mem_of_mem_erase Y);have aj:x≠n:=(List.Nodup.mem_erase_iff aH).mp Y|>.1;omega)
  rw[List.length_erase]at e;split at e<;>omega
theorem Sb:∀(xs s:List Nat),(onceFrom s xs).Nodup/\∀x∈onceFrom s xs,x∉s
 |[],_=>by simp[onceFrom]
 |y::r,s=>by
  rw[onceFrom];split
  .exact Sb r s
  .rename_i bu;simp at bu;obtain⟨ai,aj⟩:=Sb r (y::s);refine⟨um.mpr ⟨fun q=>aj y q iO,ai⟩,fun x Y=>?_⟩;rcases dG.mp Y with e|Y
   .rw[e];exact bu
   .exact fun q=>aj x Y (gz _ q)
theorem atr(t:Term):t.uses.Nodup:=(Sb _ _).1
theorem zg{t:Term}{k:Nat}:k∈t.uses↔k∈t.free:=⟨Sa _ _ _,fun h=>R8 _ _ _ h (by simp)⟩
theorem C4{t:Term}{n:Nat}(w:iw t n):t.uses.length<=n:=ZY n _ (atr t) fun x Y=>lF t n w x (zg.mp Y)
def nums(b:Bytes):List Nat:=b.map UInt8.toNat
theorem AV(a b:Bytes):nums (a++b)=nums a++nums b:=by simp[nums]
theorem t8(a:UInt8)(b:Bytes):nums (a::b)=a.toNat::nums b:=rfl
def rN(ar own:Nat->Nat)(T:Nat->List Nat)(dY eZ h:Nat):List Nat:=
 if ar h+own h<=dY then[10,eZ -1 -dY]
 else if dY+1=ar h+own h then[1,0]
 else if ar h<=dY then[3,0]
 else[2,(T h).idxOf dY]
def zm(x:Nat):List Nat:=[x%256,x/256%256,x/65536%256,x/16777216%256]
def qL(ar own:Nat->Nat)(T:Nat->List Nat)(x:jO):List Nat:=
 if x.kind=0 then 0::zm x.value
 else if x.kind=1 then rN ar own T (x.eZ -1 -x.value) x.eZ x.bJ
 else if x.kind=2\/x.kind=3 then 11::(x.value -1)::(T x.value).length::(T x.value).flatMap fun l=>rN ar own T l x.eZ x.bJ
 else[x.kind]
def qS(ar own:Nat->Nat)(T:Nat->List Nat)(R:Nat->List Nat)(x:jO):Nat->List Nat:=fun i=>if i=x.bJ then R i++qL ar own T x else R i
def mX(ar own:Nat->Nat)(T:Nat->List Nat)(R:Nat->List Nat)(l:List jO):Nat->List Nat:=l.foldl (qS ar own T) R
theorem SM{ar own T R l r}:mX ar own T R (l++r)=mX ar own T (mX ar own T R l) r:=by simp[mX]
theorem SN{ar own T R x l}:mX ar own T R (x::l)=mX ar own T (qS ar own T R x) l:=rfl
def pD(ar own:Nat->Nat)(T:Nat->List Nat):Term->Nat->Nat->Prop
 |.num _,_,_=>True
 |.var _,_,_=>True
 |.fn b,n,k=>ar k=n/\own k=1/\T k=l8 (.fn b) n/\pD ar own T b (n+1) (k+1)
 |.fix b,n,k=>ar k=n/\own k=2/\T k=l8 (.fix b) n/\pD ar own T b (n+2) (k+1)
 |.app f a,n,k=>pD ar own T f n k/\pD ar own T a n (k+f.fns)
 |.add f a,n,k=>pD ar own T f n k/\pD ar own T a n (k+f.fns)
 |.sub f a,n,k=>pD ar own T f n k/\pD ar own T a n (k+f.fns)
 |.less f a,n,k=>pD ar own T f n k/\pD ar own T a n (k+f.fns)
 |.cond c f a,n,k=>pD ar own T c n k/\pD ar own T f n (k+c.fns)/\pD ar own T a n (k+c.fns+f.fns)
 |.name a b,n,k=>pD ar own T a n k/\pD ar own T b (n+1) (k+a.fns)
theorem u8{k:Nat}(h:k<256):(UInt8.ofNat k).toNat=k:=by simp[UInt8.toNat_ofNat'];omega
def xO(ar own:Nat->Nat)(T:Nat->List Nat)(dY eZ h:Nat):Simple:=
 if ar h+own h<=dY then .kept (eZ -1 -dY)
 else if dY+1=ar h+own h then .arg
 else if ar h<=dY then .self
 else .took ((T h).idxOf dY)
theorem anz{ar own T dY eZ h}(ai:eZ<256)(aj:(T h).idxOf dY<256):nums (xO ar own T dY eZ h).bytes=rN ar own T dY eZ h:=by
 unfold xO rN;split
 .simp only[Simple.bytes,nums,j6,map_nil,u8 (show eZ -1 -dY<256 by omega)];rfl
 .split
  .rfl
  .split
   .rfl
   .simp only[Simple.bytes,nums,j6,map_nil,u8 aj];rfl
def tG(ar own:Nat->Nat)(T:Nat->List Nat)(t:Term)(env:List Simple)(n h:Nat):Prop:=
 env.length=n/\∀v∈t.free,at_ env v=xO ar own T (n -1 -v) n h
theorem ju:∀(t:Term)(env:List Simple)(n:Nat),(made t env n).2.length=t.fns
 |.num _,_,_=>rfl
 |.var _,_,_=>rfl
 |.fn b,env,n=>by simp[made,Term.fns,ju b]
 |.fix b,env,n=>by simp[made,Term.fns,ju b]
 |.app f a,env,n=>by simp[made,Term.fns,ju f,ju a]
 |.add f a,env,n=>by simp[made,Term.fns,ju f,ju a]
 |.sub f a,env,n=>by simp[made,Term.fns,ju f,ju a]
 |.less f a,env,n=>by simp[made,Term.fns,ju f,ju a]
 |.cond c f a,env,n=>by simp[made,Term.fns,ju c,ju f,ju a]
 |.name f a,env,n=>by simp[made,Term.fns,ju f,ju a]
theorem qY:∀(t:Term)(env:List Simple)(m n:Nat),(made t env m).2.map (·.takes)=(gF t n).map List.length
 |.num _,_,_,_=>rfl
 |.var _,_,_,_=>rfl
 |.fn b,env,m,n=>by simp[made,gF,l8,qY b _ (m+1) (n+1)]
 |.fix b,env,m,n=>by simp[made,gF,l8,qY b _ (m+1) (n+2)]
 |.app f a,env,m,n=>by simp[made,gF,qY f env _ n,qY a env _ n]
 |.add f a,env,m,n=>by simp[made,gF,qY f env _ n,qY a env _ n]
 |.sub f a,env,m,n=>by simp[made,gF,qY f env _ n,qY a env _ n]
 |.less f a,env,m,n=>by simp[made,gF,qY f env _ n,qY a env _ n]
 |.cond c f a,env,m,n=>by simp[made,gF,qY c env _ n,qY f env _ n,qY a env _ n]
 |.name f a,env,m,n=>by simp[made,gF,qY f env _ n,qY a _ _ (n+1)]
def FL(R Oz:Nat->List Nat)(t:Term)(env:List Simple)(h k:Nat):Prop:=
 (∀i,i<k->Oz i=if i=h then R i++nums (made t env (k -1)).1.bytes else R i)/\
 (∀i,i<t.fns->Oz (k+i)=(((made t env (k -1)).2.map fun p=>nums p.body.bytes).getD i []))/\
 (∀i,k+t.fns<=i->Oz i=R i)
theorem EL{ar own T R f a Pk Pj h k l r}(aJ:0<k)(ee:h<k)
  (ai:∀R,(∀i,k<=i->R i=[])->FL R (mX ar own T R l) f Pk h k)
  (aj:∀R,(∀i,k+f.fns<=i->R i=[])->FL R (mX ar own T R r) a Pj h (k+f.fns))(er:∀i,k<=i->R i=[]):
  (∀i,i<k->mX ar own T R (l++r) i=if i=h then R i++(nums (made f Pk (k -1)).1.bytes++nums (made a Pj (k -1+f.fns)).1.bytes)else R i)/\
  (∀i,i<f.fns+a.fns->mX ar own T R (l++r) (k+i)=(((made f Pk (k -1)).2++(made a Pj (k -1+f.fns)).2).map fun p=>nums p.body.bytes).getD i [])/\
  (∀i,k+(f.fns+a.fns)<=i->mX ar own T R (l++r) i=R i):=by
 obtain⟨iG,kN,m5⟩:=ai R er;obtain⟨kB,m6,yw⟩:=aj (mX ar own T R l) (fun i aF=>by rw[m5 i aF];exact er i (by omega));have e:k+f.fns -1=k -1+f.fns:=by omega
 rw[e]at kB m6;rw[SM];refine⟨fun i aF=>?_,fun i aF=>?_,fun i aF=>?_⟩
 .rw[kB i (by omega),iG i aF];by_cases aM:i=h
  .simp[aM]
  .simp[aM]
 .by_cases aD:i<f.fns
  .rw[kB (k+i) (by omega),bz (by omega),kN i aD,gB];rw[mZ,mZ,sd (by rw[cA,ju];exact aD)]
  .have e:k+i=k+f.fns+(i -f.fns):=by omega
   rw[e,m6 (i -f.fns) (by omega),gB];rw[mZ,mZ,q3 (by rw[cA,ju];omega),cA,ju]
 .rw[yw i (by omega),m5 i (by omega)]
theorem EK{ar own T R l n h k c p}(aB:3<c)(ai:∀R,(∀i,k<=i->R i=[])->(∀i,i<k->mX ar own T R l i=if i=h then R i++p else R i))(ee:h<k)(er:∀i,k<=i->R i=[]):
  ∀i,i<k->mX ar own T (qS ar own T R ⟨c,0,n,d,h⟩) l i=if i=h then R i++(c::p)else R i:=by
 intro i aF;have ay:qL ar own T ⟨c,0,n,d,h⟩=[c]:=by
  have:¬c=0/\¬c=1/\¬(c=2\/c=3):=⟨by omega,by omega,by omega⟩;simp[qL,this]
 rw[ai _ (fun j bQ=>by simp only[qS];rw[bz (by omega)];exact er j bQ) i aF];simp only[qS,ay];by_cases e:i=h
 .simp[e]
 .simp[e]
theorem ai0(env:List Simple)(i:Nat):(env.map Simple.deeper).getD i .arg=(env.getD i .arg).deeper:=by
 rw[mZ,mZ,h8];cases env[i]?<;>rfl
theorem QZ{n:Nat}:∀(u:List Nat)(i:Nat),(∀k∈u,k<n)->i<n->(u.map fun k=>n -1 -k).idxOf (n -1 -i)=u.idxOf i
 |[],_,_,_=>rfl
 |x::r,i,h,aF=>by
  rw[j6,idxOf_cons,idxOf_cons,QZ r i (fun k aJ=>h k (gz _ aJ)) aF];have Y:=h x iO;by_cases e:x=i
  .subst e;simp
  .have aq:¬n -1 -x=n -1 -i:=by omega
   have kB:(x==i)=false:=by simp[e]
   have m6:(n -1 -x==n -1 -i)=false:=by simp[aq]
   rw[kB,m6]
theorem Py:∀(u:List Nat)(i:Nat),i∈u->u.findIdx? (fun x=>x==i)=some (u.idxOf i)
 |x::r,i,h=>by
  rw[List.findIdx?_cons,idxOf_cons];by_cases e:x=i
  .subst e;simp
  .have kB:(x==i)=false:=by simp[e]
   rw[kB];have aO:i∈r:=by
    rcases dG.mp h with q|q
    .exact absurd q.symm e
    .exact q
   simp[Py r i aO]
theorem tG.c7{ar own T t t' env n h}(E:tG ar own T t env n h)(bq:∀v∈t'.free,v∈t.free):tG ar own T t' env n h:=⟨E.1,fun v a6=>E.2 v (bq v a6)⟩
theorem tG.fn{ar own T b env n h k}(E:tG ar own T (.fn b) env n h)(w:iw (.fn b) n)(ay:ar k=n)(aq:own k=1)(bB:T k=l8 (.fn b) n):
  tG ar own T b (inside [.arg] (Term.fn b).uses env.length) (n+1) k:=by
 refine⟨by simp[inside,E.1],fun v a6=>?_⟩;cases v with
 |zero=>simp[inside,at_,xO,ay,aq]
 |succ i=>
  have aF:i∈(Term.fn b).free:=AH.mpr a6;have br:i<n:=lF _ n w i aF;have ck:i∈(Term.fn b).uses:=zg.mpr aF;have iG:n+1 -1 -(i+1)=n -1 -i:=by omega
  have BG:¬n+1<=n -1 -i:=by omega
  have ry:¬n -1 -i+1=n+1:=by omega
  have Ak:¬n<=n -1 -i:=by omega
  rw[iG];simp only[xO,ay,aq,bB,bz BG,bz ry,bz Ak,l8];rw[QZ _ i (fun k aJ=>lF _ n w k (zg.mp aJ)) br];have q:(range env.length)[i]?=some i:=by rw[getElem?_range (by rw[E.1];exact br)]
  simp[inside,at_,mZ,q,Py _ i ck]
theorem tG.fix{ar own T b env n h k}(E:tG ar own T (.fix b) env n h)(w:iw (.fix b) n)(ay:ar k=n)(aq:own k=2)(bB:T k=l8 (.fix b) n):
  tG ar own T b (inside [.arg,.self] (Term.fix b).uses env.length) (n+2) k:=by
 refine⟨by simp[inside,E.1],fun v a6=>?_⟩
 match v,a6 with
 |0,_=>simp[inside,at_,xO,ay,aq]
 |1,_=>
  have BG:¬n+2<=n+2 -1 -1:=by omega
  have ry:¬n+2 -1 -1+1=n+2:=by omega
  have Ak:n<=n+2 -1 -1:=by omega
  simp only[xO,ay,aq,bz BG,bz ry,bT Ak];simp[inside,at_]
 |i+2,a6=>
  have aF:i∈(Term.fix b).free:=AH.mpr a6;have br:i<n:=lF _ n w i aF;have ck:i∈(Term.fix b).uses:=zg.mpr aF;have iG:n+2 -1 -(i+2)=n -1 -i:=by omega
  have BG:¬n+2<=n -1 -i:=by omega
  have ry:¬n -1 -i+1=n+2:=by omega
  have Ak:¬n<=n -1 -i:=by omega
  rw[iG];simp only[xO,ay,aq,bB,bz BG,bz ry,bz Ak,l8];rw[QZ _ i (fun k aJ=>lF _ n w k (zg.mp aJ)) br];have q:(range env.length)[i]?=some i:=by rw[getElem?_range (by rw[E.1];exact br)]
  simp[inside,at_,mZ,q,Py _ i ck]
theorem tG.name{ar own T a b env n h}(E:tG ar own T (.name a b) env n h)(w:iw (.name a b) n)(iq:ar h+own h<=n):
  tG ar own T b (.kept 0::env.map Simple.deeper) (n+1) h:=by
 refine⟨by simp[E.1],fun v a6=>?_⟩;cases v with
 |zero=>
  have c:n+1 -1 -0=n:=by omega
  simp[at_,xO,c,iq]
 |succ i=>
  have aF:i∈(Term.name a b).free:=r9 _ (AH.mpr a6);have br:i<n:=lF _ n w i aF;have e:=E.2 i aF;have iG:n+1 -1 -(i+1)=n -1 -i:=by omega
  rw[iG];have aU:at_ (.kept 0::env.map Simple.deeper) (i+1)=(at_ env i).deeper:=by
   show(env.map Simple.deeper).getD i .arg=_;rw[ai0];rfl
  rw[aU,e];unfold xO;split
  .simp only[Simple.deeper,Simple.kept.injEq];omega
  .split
   .rfl
   .split<;>rfl
theorem o8{ar own T R x}{i:Nat}(h:i≠x.bJ):qS ar own T R x i=R i:=by simp[qS,h]
theorem OL{ar own T t env n h v}(E:tG ar own T t env n h)(dh:(T h).length<256)(a6:v∈t.free)(br:n<256):nums (at_ env v).bytes=rN ar own T (n -1 -v) n h:=by
 rw[E.2 v a6];refine anz br ?_;have:=List.idxOf_le_length (a:=n -1 -v) (l:=T h);omega
theorem R3{cL:Type}(l:List cL)(f:cL->Bytes):nums (l.flatMap f)=l.flatMap fun x=>nums (f x):=by
 induction l with
 |nil=>rfl
 |cons x r eL=>simp[AV,eL]
theorem PA{cL ik:Type}{l:List cL}{f g:cL->List ik}(h:∀x∈l,f x=g x):l.flatMap f=l.flatMap g:=by
 induction l with
 |nil=>rfl
 |cons x r eL=>
  rw[Dd,Dd,h x iO,eL fun y bu=>h y (gz _ bu)]
theorem rW:∀(t:Term)(env:List Simple)(n h k:Nat)(ar own:Nat->Nat)(T:Nat->List Nat)(R:Nat->List Nat),iw t n->tG ar own T t env n h->pD ar own T t n k->ar h+own h<=n->(T h).length<256->
  n+2*cf t<=64->h<k->k+t.fns<=65->(∀i,k<=i->R i=[])->FL R (mX ar own T R (cU t n h k)) t env h k
 |.num x,env,n,h,k,ar,own,T,R,w,E,S,iq,dh,aG,ee,aJ,er=>by
  refine⟨fun i aF=>?_,fun i aF=>by simp[Term.fns]at aF,fun i aF=>?_⟩
  .have e:nums (Exp.num x).bytes=0::zm x:=by
    simp only[Exp.bytes,low4,nums,j6,map_nil,zm,u8 (show x%256<256 by omega),u8 (show x/256%256<256 by omega),u8 (show x/65536%256<256 by omega),u8 (show x/16777216%256<256 by omega)];rfl
   show(if i=h then R i++qL ar own T ⟨0,x,0,n,h⟩else R i)=if i=h then R i++nums (Exp.num x).bytes else R i
   rw[e];rfl
  .simp[Term.fns]at aF;exact o8 (by show i≠h;omega)
 |.var v,env,n,h,k,ar,own,T,R,w,E,S,iq,dh,aG,ee,aJ,er=>by
  refine⟨fun i aF=>?_,fun i aF=>by simp[Term.fns]at aF,fun i aF=>?_⟩
  .have e:=OL E dh (v:=v) (by simp[Term.free]) (by simp[cf]at aG;omega);show(if i=h then R i++qL ar own T ⟨1,v,0,n,h⟩else R i)=if i=h then R i++nums (at_ env v).bytes else R i
   rw[e];rfl
  .simp[Term.fns]at aF;exact o8 (by show i≠h;omega)
 |.fn b,env,n,h,k,ar,own,T,R,w,E,S,iq,dh,aG,ee,aJ,er=>by
  obtain⟨aU,bD,b4,eo⟩:=S;have ck:=C4 w;have gP:n+2*(cf b+1)<=64:=aG;have qI:k+(b.fns+1)<=65:=aJ;have ay:k -1+1=k:=by omega
  have eL:=rW b (inside [.arg] (Term.fn b).uses env.length) (n+1) k (k+1) ar own T (qS ar own T R ⟨2,k,1,n,h⟩) w (E.fn w aU bD b4) eo (by rw[aU,bD];omega) (by rw[b4,l8,cA];omega) (by omega) (by omega) (by omega)
   (fun i aF=>by rw[o8 (by show i≠h;omega)];exact er i (by omega))
  obtain⟨iG,kN,m5⟩:=eL;have aq:k+1 -1=k -1+1:=by omega
  rw[aq]at iG kN;have HG:nums (Exp.make (k -1) ((Term.fn b).uses.map (at_ env))).bytes=qL ar own T ⟨2,k,1,n,h⟩:=by
   show nums (11::UInt8.ofNat (k -1)::UInt8.ofNat ((Term.fn b).uses.map (at_ env)).length::((Term.fn b).uses.map (at_ env)).flatMap Simple.bytes)=11::(k -1)::(T k).length::(T k).flatMap fun l=>rN ar own T l n h;rw[t8,t8,t8,u8 (by omega),cA,u8 (by omega),R3,flatMap_map,b4,l8,cA,flatMap_map];rw[PA fun v a6=>OL E dh (zg.mp a6) (by omega)];rfl
  show FL R (mX ar own T R (⟨2,k,1,n,h⟩::cU b (n+1) k (k+1))) _ env h k;rw[SN];refine⟨fun i aF=>?_,fun i aF=>?_,fun i aF=>?_⟩
  .rw[iG i (by omega),bz (by omega)];show(if i=h then R i++qL ar own T ⟨2,k,1,n,h⟩else R i)=if i=h then R i++nums (Exp.make (k -1) ((Term.fn b).uses.map (at_ env))).bytes else R i
   rw[HG]
  .cases i with
   |zero=>
    rw[show k+0=k from rfl,iG k (by omega),bT z,o8 (by show k≠h;omega),er k (dW _)];rfl
   |succ i=>
    have e:k+(i+1)=k+1+i:=by omega
    rw[e,kN i (by simp[Term.fns]at aF;omega)];rfl
  .rw[m5 i (by simp[Term.fns]at aF;omega),o8 (by show i≠h;omega)]
 |.fix b,env,n,h,k,ar,own,T,R,w,E,S,iq,dh,aG,ee,aJ,er=>by
  obtain⟨aU,bD,b4,eo⟩:=S;have ck:=C4 w;have gP:n+2*(cf b+1)<=64:=aG;have qI:k+(b.fns+1)<=65:=aJ;have ay:k -1+1=k:=by omega
  have eL:=rW b (inside [.arg,.self] (Term.fix b).uses env.length) (n+2) k (k+1) ar own T (qS ar own T R ⟨3,k,1,n,h⟩) w (E.fix w aU bD b4) eo (by rw[aU,bD];omega) (by rw[b4,l8,cA];omega) (by omega) (by omega) (by omega)
   (fun i aF=>by rw[o8 (by show i≠h;omega)];exact er i (by omega))
  obtain⟨iG,kN,m5⟩:=eL;have aq:k+1 -1=k -1+1:=by omega
  rw[aq]at iG kN;have HG:nums (Exp.make (k -1) ((Term.fix b).uses.map (at_ env))).bytes=qL ar own T ⟨3,k,1,n,h⟩:=by
   show nums (11::UInt8.ofNat (k -1)::UInt8.ofNat ((Term.fix b).uses.map (at_ env)).length::((Term.fix b).uses.map (at_ env)).flatMap Simple.bytes)=11::(k -1)::(T k).length::(T k).flatMap fun l=>rN ar own T l n h;rw[t8,t8,t8,u8 (by omega),cA,u8 (by omega),R3,flatMap_map,b4,l8,cA,flatMap_map];rw[PA fun v a6=>OL E dh (zg.mp a6) (by omega)];rfl
  show FL R (mX ar own T R (⟨3,k,1,n,h⟩::cU b (n+2) k (k+1))) _ env h k;rw[SN];refine⟨fun i aF=>?_,fun i aF=>?_,fun i aF=>?_⟩
  .rw[iG i (by omega),bz (by omega)];show(if i=h then R i++qL ar own T ⟨3,k,1,n,h⟩else R i)=if i=h then R i++nums (Exp.make (k -1) ((Term.fix b).uses.map (at_ env))).bytes else R i
   rw[HG]
  .cases i with
   |zero=>
    rw[show k+0=k from rfl,iG k (by omega),bT z,o8 (by show k≠h;omega),er k (dW _)];rfl
   |succ i=>
    have e:k+(i+1)=k+1+i:=by omega
    rw[e,kN i (by simp[Term.fns]at aF;omega)];rfl
  .rw[m5 i (by simp[Term.fns]at aF;omega),o8 (by show i≠h;omega)]
 |.app f a,env,n,h,k,ar,own,T,R,w,E,S,iq,dh,aG,ee,aJ,er=>by
  have gP:n+2*(max (cf f) (cf a)+1)<=64:=aG;have qI:k+(f.fns+a.fns)<=65:=aJ;have fS:=fun R(er:∀i,k<=i->R i=[])=>EL (ar:=ar) (own:=own) (T:=T) (R:=R) (by omega) ee
   (fun R er=>rW f env n h k ar own T R w.1 (E.c7 fun v a6=>yf _ a6) S.1 iq dh (by omega) ee (by omega) er)
   (fun R er=>rW a env n h (k+f.fns) ar own T R w.2 (E.c7 fun v a6=>r9 _ a6) S.2 iq dh (by omega) (by omega) (by omega) er) er
  have oW:=EK (n:=2) (d:=n) (c:=4) (p:=nums (made f env (k -1)).1.bytes++nums (made a env (k -1+f.fns)).1.bytes) (by decide) (fun R er=>(fS R er).1) ee er;have bw:=fS (qS ar own T R ⟨4,0,2,n,h⟩) (fun i aF=>by rw[o8 (by show i≠h;omega)];exact er i aF);refine⟨fun i aF=>?_,fun i aF=>?_,fun i aF=>?_⟩
  .refine(oW i aF).trans ?_;simp only[made,Exp.bytes,t8,AV,ju];rfl
  .refine(bw.2.1 i aF).trans ?_;simp only[made,ju]
  .refine(bw.2.2 i aF).trans (o8 (by show i≠h;omega))
 |.add f a,env,n,h,k,ar,own,T,R,w,E,S,iq,dh,aG,ee,aJ,er=>by
  have gP:n+2*(max (cf f) (cf a)+1)<=64:=aG;have qI:k+(f.fns+a.fns)<=65:=aJ;have fS:=fun R(er:∀i,k<=i->R i=[])=>EL (ar:=ar) (own:=own) (T:=T) (R:=R) (by omega) ee
   (fun R er=>rW f env n h k ar own T R w.1 (E.c7 fun v a6=>yf _ a6) S.1 iq dh (by omega) ee (by omega) er)
   (fun R er=>rW a env n h (k+f.fns) ar own T R w.2 (E.c7 fun v a6=>r9 _ a6) S.2 iq dh (by omega) (by omega) (by omega) er) er
  have oW:=EK (n:=2) (d:=n) (c:=5) (p:=nums (made f env (k -1)).1.bytes++nums (made a env (k -1+f.fns)).1.bytes) (by decide) (fun R er=>(fS R er).1) ee er;have bw:=fS (qS ar own T R ⟨5,0,2,n,h⟩) (fun i aF=>by rw[o8 (by show i≠h;omega)];exact er i aF);refine⟨fun i aF=>?_,fun i aF=>?_,fun i aF=>?_⟩
  .refine(oW i aF).trans ?_;simp only[made,Exp.bytes,t8,AV,ju];rfl
  .refine(bw.2.1 i aF).trans ?_;simp only[made,ju]
  .refine(bw.2.2 i aF).trans (o8 (by show i≠h;omega))
 |.sub f a,env,n,h,k,ar,own,T,R,w,E,S,iq,dh,aG,ee,aJ,er=>by
  have gP:n+2*(max (cf f) (cf a)+1)<=64:=aG;have qI:k+(f.fns+a.fns)<=65:=aJ;have fS:=fun R(er:∀i,k<=i->R i=[])=>EL (ar:=ar) (own:=own) (T:=T) (R:=R) (by omega) ee
   (fun R er=>rW f env n h k ar own T R w.1 (E.c7 fun v a6=>yf _ a6) S.1 iq dh (by omega) ee (by omega) er)
   (fun R er=>rW a env n h (k+f.fns) ar own T R w.2 (E.c7 fun v a6=>r9 _ a6) S.2 iq dh (by omega) (by omega) (by omega) er) er
  have oW:=EK (n:=2) (d:=n) (c:=6) (p:=nums (made f env (k -1)).1.bytes++nums (made a env (k -1+f.fns)).1.bytes) (by decide) (fun R er=>(fS R er).1) ee er;have bw:=fS (qS ar own T R ⟨6,0,2,n,h⟩) (fun i aF=>by rw[o8 (by show i≠h;omega)];exact er i aF);refine⟨fun i aF=>?_,fun i aF=>?_,fun i aF=>?_⟩
  .refine(oW i aF).trans ?_;simp only[made,Exp.bytes,t8,AV,ju];rfl
  .refine(bw.2.1 i aF).trans ?_;simp only[made,ju]
  .refine(bw.2.2 i aF).trans (o8 (by show i≠h;omega))
 |.less f a,env,n,h,k,ar,own,T,R,w,E,S,iq,dh,aG,ee,aJ,er=>by
  have gP:n+2*(max (cf f) (cf a)+1)<=64:=aG;have qI:k+(f.fns+a.fns)<=65:=aJ;have fS:=fun R(er:∀i,k<=i->R i=[])=>EL (ar:=ar) (own:=own) (T:=T) (R:=R) (by omega) ee
   (fun R er=>rW f env n h k ar own T R w.1 (E.c7 fun v a6=>yf _ a6) S.1 iq dh (by omega) ee (by omega) er)
   (fun R er=>rW a env n h (k+f.fns) ar own T R w.2 (E.c7 fun v a6=>r9 _ a6) S.2 iq dh (by omega) (by omega) (by omega) er) er
  have oW:=EK (n:=2) (d:=n) (c:=7) (p:=nums (made f env (k -1)).1.bytes++nums (made a env (k -1+f.fns)).1.bytes) (by decide) (fun R er=>(fS R er).1) ee er;have bw:=fS (qS ar own T R ⟨7,0,2,n,h⟩) (fun i aF=>by rw[o8 (by show i≠h;omega)];exact er i aF);refine⟨fun i aF=>?_,fun i aF=>?_,fun i aF=>?_⟩
  .refine(oW i aF).trans ?_;simp only[made,Exp.bytes,t8,AV,ju];rfl
  .refine(bw.2.1 i aF).trans ?_;simp only[made,ju]
  .refine(bw.2.2 i aF).trans (o8 (by show i≠h;omega))
 |.name f a,env,n,h,k,ar,own,T,R,w,E,S,iq,dh,aG,ee,aJ,er=>by
  have gP:n+2*(max (cf f) (cf a)+1)<=64:=aG;have qI:k+(f.fns+a.fns)<=65:=aJ;have fS:=fun R(er:∀i,k<=i->R i=[])=>EL (ar:=ar) (own:=own) (T:=T) (R:=R) (by omega) ee
   (fun R er=>rW f env n h k ar own T R w.1 (E.c7 fun v a6=>yf _ a6) S.1 iq dh (by omega) ee (by omega) er)
   (fun R er=>rW a (.kept 0::env.map Simple.deeper) (n+1) h (k+f.fns) ar own T R w.2 (E.name w iq) S.2 (by omega) dh (by omega) (by omega) (by omega) er) er
  have oW:=EK (n:=2) (d:=n) (c:=9) (p:=nums (made f env (k -1)).1.bytes++nums (made a (.kept 0::env.map Simple.deeper) (k -1+f.fns)).1.bytes) (by decide) (fun R er=>(fS R er).1) ee er;have bw:=fS (qS ar own T R ⟨9,0,2,n,h⟩) (fun i aF=>by rw[o8 (by show i≠h;omega)];exact er i aF);refine⟨fun i aF=>?_,fun i aF=>?_,fun i aF=>?_⟩
  .refine(oW i aF).trans ?_;simp only[made,Exp.bytes,t8,AV,ju];rfl
  .refine(bw.2.1 i aF).trans ?_;simp only[made,ju]
  .refine(bw.2.2 i aF).trans (o8 (by show i≠h;omega))
 |.cond c f a,env,n,h,k,ar,own,T,R,w,E,S,iq,dh,aG,ee,aJ,er=>by
  have gP:n+2*(max (cf c) (max (cf f) (cf a))+1)<=64:=aG;have qI:k+(c.fns+(f.fns+a.fns))<=65:=aJ;have fS:=fun R(er:∀i,k+c.fns<=i->R i=[])=>EL (ar:=ar) (own:=own) (T:=T) (R:=R) (k:=k+c.fns) (by omega) (by omega)
   (fun R er=>rW f env n h (k+c.fns) ar own T R w.2.1 (E.c7 fun v a6=>r9 _ (yf _ a6)) S.2.1 iq dh (by omega) (by omega) (by omega) er)
   (fun R er=>rW a env n h (k+c.fns+f.fns) ar own T R w.2.2 (E.c7 fun v a6=>r9 _ (r9 _ a6)) S.2.2 iq dh (by omega) (by omega) (by omega) er) er
  have ie:k+c.fns -1=k -1+c.fns:=by omega
  have adA:∀R,(∀i,k<=i->R i=[])->
    (∀i,i<k->mX ar own T R (cU c n h k++(cU f n h (k+c.fns)++cU a n h (k+c.fns+f.fns))) i=if i=h then R i++(nums (made c env (k -1)).1.bytes++(nums (made f env (k -1+c.fns)).1.bytes++nums (made a env (k -1+c.fns+f.fns)).1.bytes))else R i)/\
    (∀i,i<c.fns+(f.fns+a.fns)->mX ar own T R (cU c n h k++(cU f n h (k+c.fns)++cU a n h (k+c.fns+f.fns))) (k+i)=(((made c env (k -1)).2++((made f env (k -1+c.fns)).2++(made a env (k -1+c.fns+f.fns)).2)).map fun p=>nums p.body.bytes).getD i [])/\
    (∀i,k+(c.fns+(f.fns+a.fns))<=i->mX ar own T R (cU c n h k++(cU f n h (k+c.fns)++cU a n h (k+c.fns+f.fns))) i=R i):=by
   intro R er;obtain⟨iG,kN,m5⟩:=rW c env n h k ar own T R w.1 (E.c7 fun v a6=>yf _ a6) S.1 iq dh (by omega) ee (by omega) er;obtain⟨kB,m6,yw⟩:=fS (mX ar own T R (cU c n h k)) (fun i aF=>by rw[m5 i aF];exact er i (by omega));rw[ie]at kB m6;rw[SM];refine⟨fun i aF=>?_,fun i aF=>?_,fun i aF=>?_⟩
   .rw[kB i (by omega),iG i aF];by_cases aM:i=h
    .simp[aM]
    .simp[aM]
   .by_cases aD:i<c.fns
    .rw[kB (k+i) (by omega),bz (by omega),kN i aD,gB];rw[mZ,mZ,sd (by rw[cA,ju];exact aD)]
    .have e:k+i=k+c.fns+(i -c.fns):=by omega
     rw[e,m6 (i -c.fns) (by omega),gB (l₁:=(made c env (k -1)).2)];rw[mZ,mZ,q3 (by rw[cA,ju];omega),cA,ju]
   .rw[yw i (by omega),m5 i (by omega)]
  have oW:=EK (n:=3) (d:=n) (c:=8) (p:=nums (made c env (k -1)).1.bytes++(nums (made f env (k -1+c.fns)).1.bytes++nums (made a env (k -1+c.fns+f.fns)).1.bytes)) (by decide) (fun R er=>(adA R er).1) ee er;have bw:=adA (qS ar own T R ⟨8,0,3,n,h⟩) (fun i aF=>by rw[o8 (by show i≠h;omega)];exact er i aF);refine⟨fun i aF=>?_,fun i aF=>?_,fun i aF=>?_⟩
  .refine(oW i aF).trans ?_;simp only[made,Exp.bytes,t8,AV,ju];rfl
  .refine(bw.2.1 i aF).trans ?_;simp only[made,ju]
  .refine(bw.2.2 i aF).trans (o8 (by show i≠h;omega))
structure jl where
 kind:Nat
 value:Nat
 jj:Nat
 eZ:Nat
 bJ:Nat
 names:List (Nat×Nat)
def l5:Simple->Nat×Nat
 |.arg=>(1,0)
 |.took k=>(2,k)
 |.self=>(3,0)
 |.kept k=>(10,k)
def fg:Exp->Nat->Nat->List jl
 |.num x,n,h=>[⟨0,x,0,n,h,[]⟩]
 |.simple s,n,h=>[⟨(l5 s).1,(l5 s).2,0,n,h,[]⟩]
 |.app f a,n,h=>⟨4,0,2,n,h,[]⟩::(fg f n h++fg a n h)
 |.add f a,n,h=>⟨5,0,2,n,h,[]⟩::(fg f n h++fg a n h)
 |.sub f a,n,h=>⟨6,0,2,n,h,[]⟩::(fg f n h++fg a n h)
 |.less f a,n,h=>⟨7,0,2,n,h,[]⟩::(fg f n h++fg a n h)
 |.cond c f a,n,h=>⟨8,0,3,n,h,[]⟩::(fg c n h++(fg f n h++fg a n h))
 |.keep a b,n,h=>⟨9,0,2,n,h,[]⟩::(fg a n h++fg b (n+1) h)
 |.make p l,n,h=>[⟨11,p+1,0,n,h,l.map l5⟩]
def eu(au:Bool)(tk:Nat):Nat->Exp->Bool
 |_,.num _=>true
 |n,.simple s=>Simple.fine au tk n s
 |n,.app f a=>eu au tk n f&&eu au tk n a
 |n,.add f a=>eu au tk n f&&eu au tk n a
 |n,.sub f a=>eu au tk n f&&eu au tk n a
 |n,.less f a=>eu au tk n f&&eu au tk n a
 |n,.cond c f a=>eu au tk n c&&(eu au tk n f&&eu au tk n a)
 |n,.keep a b=>eu au tk n a&&eu au tk (n+1) b
 |n,.make _ l=>l.all fun s=>Simple.fine au tk n s
def fh(procs:List Proc):Exp->Bool
 |.num _=>true
 |.simple _=>true
 |.app f a=>fh procs f&&fh procs a
 |.add f a=>fh procs f&&fh procs a
 |.sub f a=>fh procs f&&fh procs a
 |.less f a=>fh procs f&&fh procs a
 |.cond c f a=>fh procs c&&(fh procs f&&fh procs a)
 |.keep a b=>fh procs a&&fh procs b
 |.make p l=>match procs[p]? with
   |some q=>q.takes==l.length
   |none=>false
theorem sM(procs:List Proc)(au:Bool)(tk:Nat):∀(e:Exp)(n:Nat),Exp.fine procs au tk n e=(eu au tk n e&&fh procs e)
 |.num _,_=>rfl
 |.simple _,_=>by simp[Exp.fine,eu,fh]
 |.app f a,n=>by
  simp only[Exp.fine,eu,fh,sM procs au tk f n,sM procs au tk a n];cases eu au tk n f<;>cases fh procs f<;>cases eu au tk n a<;>cases fh procs a<;>rfl
 |.add f a,n=>by
  simp only[Exp.fine,eu,fh,sM procs au tk f n,sM procs au tk a n];cases eu au tk n f<;>cases fh procs f<;>cases eu au tk n a<;>cases fh procs a<;>rfl
 |.sub f a,n=>by
  simp only[Exp.fine,eu,fh,sM procs au tk f n,sM procs au tk a n];cases eu au tk n f<;>cases fh procs f<;>cases eu au tk n a<;>cases fh procs a<;>rfl
 |.less f a,n=>by
  simp only[Exp.fine,eu,fh,sM procs au tk f n,sM procs au tk a n];cases eu au tk n f<;>cases fh procs f<;>cases eu au tk n a<;>cases fh procs a<;>rfl
 |.cond c f a,n=>by
  simp only[Exp.fine,eu,fh,sM procs au tk c n,sM procs au tk f n,sM procs au tk a n];cases eu au tk n c<;>cases fh procs c<;>cases eu au tk n f<;>cases fh procs f<;>cases eu au tk n a<;>cases fh procs a<;>rfl
 |.keep f a,n=>by
  simp only[Exp.fine,eu,fh,sM procs au tk f n,sM procs au tk a (n+1)];cases eu au tk n f<;>cases fh procs f<;>cases eu au tk (n+1) a<;>cases fh procs a<;>rfl
 |.make p l,n=>by
  simp only[Exp.fine,eu,fh];exact Bool.and_comm _ _
def pL(takes:List Nat)(x:jl):Prop:=x.kind=11->∃t,takes[x.value]?=some t/\x.names.length=t
theorem anM(s:Simple):(l5 s).1≠11:=by cases s<;>simp[l5]
theorem sU(procs:List Proc):∀(e:Exp)(n h:Nat),fh procs e=true↔∀x∈fg e n h,pL (0::procs.map (·.takes)) x
 |.num _,n,h=>by simp[fh,fg,pL]
 |.simple s,n,h=>by
  have:=anM s;simp[fh,fg,pL,this]
 |.make p l,n,h=>by
  simp only[fh,fg,mem_singleton,forall_eq,pL,true_imp_iff,cA,List.getElem?_cons_succ,h8];cases procs[p]? with
  |none=>simp
  |some q=>simp;exact eq_comm
 |.app f a,n,h=>by
  simp only[fh,jA,sU procs f n h,sU procs a n h,fg,Ld,De];simp[pL]
 |.add f a,n,h=>by
  simp only[fh,jA,sU procs f n h,sU procs a n h,fg,Ld,De];simp[pL]
 |.sub f a,n,h=>by
  simp only[fh,jA,sU procs f n h,sU procs a n h,fg,Ld,De];simp[pL]
 |.less f a,n,h=>by
  simp only[fh,jA,sU procs f n h,sU procs a n h,fg,Ld,De];simp[pL]
 |.cond c f a,n,h=>by
  simp only[fh,jA,sU procs c n h,sU procs f n h,sU procs a n h,fg,Ld,De];simp[pL]
 |.keep f a,n,h=>by
  simp only[fh,jA,sU procs f n h,sU procs a (n+1) h,fg,Ld,De];simp[pL]
def nO(au:Bool)(tk:Nat):List jd->Bytes->Option (List jl×Bytes)
 |[],r=>some ([],r)
 |sp::ah,r=>(readE (65 -sp.depth) r).bind fun x=>if eu au tk sp.eZ x.1=true then(nO au tk ah x.2).map fun y=>(fg x.1 sp.eZ sp.bJ++y.1,y.2)else none
def gH(au:Bool)(tk:Nat)(N:List jl)(ah:List jd)(r:Bytes):Option (List jl×Bytes):=(nO au tk ah r).map fun y=>(N++y.1,y.2)
section
variable{au:Bool}{tk:Nat}{N:List jl}{n d h:Nat}{ah:List jd}{op:UInt8}{r:Bytes}
theorem agI:gH au tk N [] r=some (N,r):=by simp[gH,nO]
theorem agy{sp:jd}(aG:64<sp.depth):gH au tk N (sp::ah) r=none:=by
 have e:65 -sp.depth=0:=by omega
 simp[gH,nO,e,readE]
theorem agz{sp:jd}:gH au tk N (sp::ah) []=none:=by
 cases e:65 -sp.depth<;>simp[gH,nO,e,readE]
theorem wJ(aG:d<=64):65 -d=(65 -(d+1))+1:=by omega
theorem agJ(aG:d<=64)(aT:op.toNat=0)(aD:4<=r.length):
  gH au tk N (⟨n,d,h⟩::ah) (op::r)=gH au tk (N++[⟨0,le (r.take 4),0,n,h,[]⟩]) ah (r.drop 4):=by
 simp[gH,nO,wJ aG,readE,aT,aD,fg,eu];cases nO au tk ah (List.drop 4 r)<;>simp
theorem agK(aG:d<=64)(aT:op.toNat=0)(aD:r.length<4):gH au tk N (⟨n,d,h⟩::ah) (op::r)=none:=by
 have:¬4<=r.length:=by omega
 simp[gH,nO,wJ aG,readE,aT,this]
theorem F0{mk:Exp->Exp->Exp}{c m:Nat}(aG:d<=64)
  (aO:∀g,readE (g+1) (op::r)=(readE g r).bind fun x=>(readE g x.2).map fun y=>(mk x.1 y.1,y.2))
  (bq:∀a b,eu au tk n (mk a b)=(eu au tk n a&&eu au tk m b))(aB:∀a b,fg (mk a b) n h=⟨c,0,2,n,h,[]⟩::(fg a n h++fg b m h)):
  gH au tk N (⟨n,d,h⟩::ah) (op::r)=gH au tk (N++[⟨c,0,2,n,h,[]⟩]) (⟨n,d+1,h⟩::⟨m,d+1,h⟩::ah) r:=by
 simp only[gH,nO,wJ aG,aO];cases e:readE (65 -(d+1)) r with
 |none=>simp
 |some x=>
  simp only[j8];cases ay:readE (65 -(d+1)) x.2 with
  |none=>simp
  |some y=>
   simp only[ur,j8,bq,aB];cases eu au tk n x.1<;>cases eu au tk m y.1<;>simp;cases bB:nO au tk ah y.2<;>simp
theorem agw(aG:d<=64)(aT:op.toNat=4):gH au tk N (⟨n,d,h⟩::ah) (op::r)=gH au tk (N++[⟨4,0,2,n,h,[]⟩]) (⟨n,d+1,h⟩::⟨n,d+1,h⟩::ah) r:=
 F0 (mk:=.app) aG (fun g=>by simp only[readE,aT]) (fun _ _=>rfl) fun _ _=>rfl
theorem agv(aG:d<=64)(aT:op.toNat=5):gH au tk N (⟨n,d,h⟩::ah) (op::r)=gH au tk (N++[⟨5,0,2,n,h,[]⟩]) (⟨n,d+1,h⟩::⟨n,d+1,h⟩::ah) r:=
 F0 (mk:=.add) aG (fun g=>by simp only[readE,aT]) (fun _ _=>rfl) fun _ _=>rfl
theorem agL(aG:d<=64)(aT:op.toNat=6):gH au tk N (⟨n,d,h⟩::ah) (op::r)=gH au tk (N++[⟨6,0,2,n,h,[]⟩]) (⟨n,d+1,h⟩::⟨n,d+1,h⟩::ah) r:=
 F0 (mk:=.sub) aG (fun g=>by simp only[readE,aT]) (fun _ _=>rfl) fun _ _=>rfl
theorem agB(aG:d<=64)(aT:op.toNat=7):gH au tk N (⟨n,d,h⟩::ah) (op::r)=gH au tk (N++[⟨7,0,2,n,h,[]⟩]) (⟨n,d+1,h⟩::⟨n,d+1,h⟩::ah) r:=
 F0 (mk:=.less) aG (fun g=>by simp only[readE,aT]) (fun _ _=>rfl) fun _ _=>rfl
theorem agA(aG:d<=64)(aT:op.toNat=9):gH au tk N (⟨n,d,h⟩::ah) (op::r)=gH au tk (N++[⟨9,0,2,n,h,[]⟩]) (⟨n,d+1,h⟩::⟨n+1,d+1,h⟩::ah) r:=
 F0 (mk:=.keep) aG (fun g=>by simp only[readE,aT]) (fun _ _=>rfl) fun _ _=>rfl
theorem agx(aG:d<=64)(aT:op.toNat=8):
  gH au tk N (⟨n,d,h⟩::ah) (op::r)=gH au tk (N++[⟨8,0,3,n,h,[]⟩]) (⟨n,d+1,h⟩::⟨n,d+1,h⟩::⟨n,d+1,h⟩::ah) r:=by
 simp only[gH,nO,wJ aG,readE,aT];cases e:readE (65 -(d+1)) r with
 |none=>simp
 |some x=>
  simp only[j8];cases ay:readE (65 -(d+1)) x.2 with
  |none=>simp
  |some y=>
   simp only[j8];cases aq:readE (65 -(d+1)) y.2 with
   |none=>simp
   |some I=>
    simp only[ur,j8,eu,fg];by_cases B0:eu au tk n x.1=true
    .by_cases eF:eu au tk n y.1=true
     .by_cases li:eu au tk n I.1=true
      .simp only[B0,eF,li,Bool.and_self,bT];cases bB:nO au tk ah I.2<;>simp
      .simp[B0,eF,li]
     .simp[B0,eF]
    .simp[B0]
def qP(au:Bool)(tk n:Nat)(kind:Nat):Nat:=
 if kind=2 then tk else if kind=10 then n else if (kind=1\/kind=3)/\au=true then 1 else 0
theorem Th{op k:UInt8}{r:Bytes}:
  (readSimple (op::k::r)).bind (fun x=>if Simple.fine au tk n x.1=true then some (l5 x.1,x.2)else none)=if k.toNat<qP au tk n op.toNat then some ((op.toNat,k.toNat),r)else none:=by
 have k0:(k=0)↔k.toNat=0:=by
  constructor
  .intro e;rw[e];rfl
  .intro e;exact UInt8.toNat_inj.mp e
 unfold readSimple;by_cases ai:op.toNat=1
 .simp only[ai];by_cases aJ:k=0
  .have qI:=k0.mp aJ;cases au<;>simp[aJ,qP,Simple.fine,l5]
  .have qI:¬k.toNat=0:=fun I=>aJ (k0.mpr I);cases au<;>simp[aJ,qP,qI]
 .by_cases aj:op.toNat=2
  .simp only[aj];by_cases aD:k.toNat<tk<;>simp[qP,Simple.fine,l5,aD]
  .by_cases bN:op.toNat=3
   .simp only[bN];by_cases aJ:k=0
    .have qI:=k0.mp aJ;cases au<;>simp[aJ,qP,Simple.fine,l5]
    .have qI:¬k.toNat=0:=fun I=>aJ (k0.mpr I);cases au<;>simp[aJ,qP,qI]
   .by_cases ez:op.toNat=10
    .simp only[ez];by_cases aD:k.toNat<n<;>simp[qP,Simple.fine,l5,aD]
    .have e:qP au tk n op.toNat=0:=by simp[qP,ai,aj,bN,ez]
     rw[e,bz (by omega)];have aq:readSimple (op::k::r)=none:=by
      unfold readSimple;split
      .rename_i aj8;cases aj8;split<;>first|contradiction|rfl
      .rename_i Y;exact absurd z (Y op k r)
     unfold readSimple at aq;rw[aq];rfl
theorem agF{k:UInt8}(aG:d<=64)(aT:op.toNat≠0/\(op.toNat<4\/op.toNat=10\/11<op.toNat))(aJ:k.toNat<qP au tk n op.toNat):
  gH au tk N (⟨n,d,h⟩::ah) (op::k::r)=gH au tk (N++[⟨op.toNat,k.toNat,0,n,h,[]⟩]) ah r:=by
 have e:readE (65 -(d+1)+1) (op::k::r)=(readSimple (op::k::r)).map fun x=>(Exp.simple x.1,x.2):=by
  simp only[readE];split<;>first|omega|rfl
 have s:=Th (au:=au) (tk:=tk) (n:=n) (op:=op) (k:=k) (r:=r);rw[bT aJ]at s;obtain⟨x,Y,aL⟩:=jL.mp s;split at aL
 .rename_i bq;cases xB:x with
  |mk a b=>
   rw[xB]at aL bq Y;simp only[tC,u3]at aL;obtain⟨ay,aq⟩:=aL;have bB:(l5 a).1=op.toNat:=by rw[ay]
   have dQ:(l5 a).2=k.toNat:=by rw[ay]
   simp only[gH,nO,wJ aG,e,Y,ur,j8,eu,bq,bT,fg,bB,dQ,aq];cases nO au tk ah r<;>simp
 .cases aL
theorem agG{k:UInt8}(aG:d<=64)(aT:op.toNat≠0/\(op.toNat<4\/op.toNat=10\/11<op.toNat))(aJ:qP au tk n op.toNat<=k.toNat):gH au tk N (⟨n,d,h⟩::ah) (op::k::r)=none:=by
 have e:readE (65 -(d+1)+1) (op::k::r)=(readSimple (op::k::r)).map fun x=>(Exp.simple x.1,x.2):=by
  simp only[readE];split<;>first|omega|rfl
 have s:=Th (au:=au) (tk:=tk) (n:=n) (op:=op) (k:=k) (r:=r);rw[bz (by omega)]at s;simp only[gH,nO,wJ aG,e];cases Y:readSimple (op::k::r)with
 |none=>simp
 |some x=>
  rw[Y]at s;simp only[j8]at s;split at s
  .cases s
  .rename_i bq;simp[eu,bq]
theorem agH(aG:d<=64)(aT:op.toNat≠0/\(op.toNat<4\/op.toNat=10\/11<op.toNat)):gH au tk N (⟨n,d,h⟩::ah) [op]=none:=by
 have e:readE (65 -(d+1)+1) [op]=none:=by
  simp only[readE];split<;>first|omega|rfl
 simp only[gH,nO,wJ aG,e,bind_none,Option.map_none]
def wB(au:Bool)(tk n:Nat):Nat->Bytes->Option (List (Nat×Nat)×Bytes)
 |0,r=>some ([],r)
 |m+1,op::k::r=>if k.toNat<qP au tk n op.toNat then(wB au tk n m r).map fun y=>((op.toNat,k.toNat)::y.1,y.2)else none
 |_+1,_=>none
theorem Tj:∀(m:Nat)(r:Bytes),(readSimples m r).bind (fun x=>if (x.1.all fun s=>Simple.fine au tk n s)=true then some (x.1.map l5,x.2)else none)=wB au tk n m r
 |0,r=>by simp[readSimples,wB]
 |m+1,[]=>by simp[readSimples,readSimple,wB]
 |m+1,[a]=>by simp[readSimples,readSimple,wB]
 |m+1,op::k::r=>by
  have s:=Th (au:=au) (tk:=tk) (n:=n) (op:=op) (k:=k) (r:=r);simp only[readSimples,wB];cases Y:readSimple (op::k::r)with
  |none=>
   rw[Y]at s;simp only[bind_none]at s⊢;by_cases aJ:k.toNat<qP au tk n op.toNat
   .rw[bT aJ]at s;cases s
   .rw[bz aJ]
  |some x=>
   rw[Y]at s;simp only[j8]at s⊢;by_cases bq:Simple.fine au tk n x.1=true
   .rw[bT bq]at s;by_cases aJ:k.toNat<qP au tk n op.toNat
    .rw[bT aJ]at s⊢;simp only[tC,u3]at s;rw[<-Tj m r,<-s.2];cases readSimples m x.2 with
     |none=>simp
     |some y=>
      simp only[ur,j8,all_cons,bq,Bool.true_and,j6,s.1];split<;>simp
    .rw[bz aJ]at s;cases s
   .rw[bz bq]at s;by_cases aJ:k.toNat<qP au tk n op.toNat
    .rw[bT aJ]at s;cases s
    .rw[bz aJ];cases readSimples m x.2<;>simp[bq]
theorem agC{p m:UInt8}{l:List (Nat×Nat)}{q:Bytes}(aG:d<=64)(aT:op.toNat=11)(br:wB au tk n m.toNat r=some (l,q)):
  gH au tk N (⟨n,d,h⟩::ah) (op::p::m::r)=gH au tk (N++[⟨11,p.toNat+1,0,n,h,l⟩]) ah q:=by
 rw[<-Tj]at br;obtain⟨x,Y,aL⟩:=jL.mp br;split at aL
 .rename_i bq;simp only[tC,u3]at aL;simp only[gH,nO,wJ aG,readE,aT,Y,ur,j8,eu,bq,bT,fg,aL.1,aL.2];cases nO au tk ah q<;>simp
 .cases aL
theorem agD{p m:UInt8}(aG:d<=64)(aT:op.toNat=11)(br:wB au tk n m.toNat r=none):gH au tk N (⟨n,d,h⟩::ah) (op::p::m::r)=none:=by
 rw[<-Tj]at br;simp only[gH,nO,wJ aG,readE,aT];cases Y:readSimples m.toNat r with
 |none=>simp
 |some x=>
  rw[Y]at br;simp only[j8]at br;split at br
  .cases br
  .rename_i bq;simp[eu,bq]
theorem agE(aG:d<=64)(aT:op.toNat=11)(aO:r.length<2):gH au tk N (⟨n,d,h⟩::ah) (op::r)=none:=by
 match r,aO with
 |[],_=>simp[gH,nO,wJ aG,readE,aT]
 |[_],_=>simp[gH,nO,wJ aG,readE,aT]
end
theorem aa8:∀(j:Nat)(r:Bytes)(l:List Proc)(q:Bytes),readProcs j r=some (l,q)->l.length=j
 |0,r,l,q,h=>by
  simp only[readProcs,tC,u3]at h;rw[<-h.1];rfl
 |j+1,[],l,q,h=>by simp[readProcs]at h
 |j+1,t::r,l,q,h=>by
  simp only[readProcs,jL,iy]at h;obtain⟨x,Y,y,bu,e⟩:=h;simp only[u3]at e;rw[<-e.1,c9,aa8 j x.2 y.1 y.2 bu]
def ly:List Proc->Nat->List jl
 |[],_=>[]
 |p::l,h=>fg p.body 0 h++ly l (h+1)
theorem aaX:∀(l m:List Proc)(h:Nat),ly (l++m) h=ly l h++ly m (h+l.length)
 |[],m,h=>by simp[ly]
 |p::l,m,h=>by
  have e:h+(l.length+1)=h+1+l.length:=by omega
  simp[ly,aaX l m (h+1),e]
def vt(l:List Proc):Bool:=l.all fun q=>decide (q.takes<=64)&&eu true q.takes 0 q.body
theorem X7(procs:List Proc):∀(l:List Proc)(h:Nat),(l.all fun q=>fh procs q.body)=true↔∀x∈ly l h,pL (0::procs.map (·.takes)) x
 |[],h=>by simp[ly]
 |p::l,h=>by
  rw[ly,De,<-sU procs p.body 0 h,<-X7 procs l (h+1),all_cons,jA]
theorem O2(x:Exp)(l:List Proc):Code.fine ⟨x,l⟩=true↔(l.length<=64/\eu false 0 0 x=true/\vt l=true)/\∀y∈fg x 0 0++ly l 1,pL (0::l.map (·.takes)) y:=by
 rw[De,<-sU l x 0 0,<-X7 l l 1];simp only[Code.fine,vt,sM,jA,tB,zJ];constructor
 .rintro ⟨ai,⟨aj,bN⟩,ez⟩;exact⟨⟨ai,aj,fun q a9=>⟨(ez q a9).1,(ez q a9).2.1⟩⟩,bN,fun q a9=>(ez q a9).2.2⟩
 .rintro ⟨⟨ai,aj,ez⟩,bN,i7⟩;exact⟨ai,⟨aj,bN⟩,fun q a9=>⟨(ez q a9).1,(ez q a9).2,i7 q a9⟩⟩
theorem VB{au:Bool}{tk:Nat}{N:List jl}{h:Nat}{r:Bytes}:
  gH au tk N [⟨0,1,h⟩] r=(readE 64 r).bind fun x=>if eu au tk 0 x.1=true then some (N++fg x.1 0 h,x.2)else none:=by
 simp only[gH,nO];cases readE 64 r with
 |none=>rfl
 |some x=>
  simp only[j8];split<;>simp
def arB(B:List fV)(i:Nat):Nat:=match B[i]? with
 |some b=>b.eZ
 |none=>0
def ownB(B:List fV)(i:Nat):Nat:=match B[i]? with
 |some b=>b.own
 |none=>0
def qA(B:List fV):Nat->Nat->List Nat
 |0,_=>[]
 |f+1,j=>if j=0 then[]else match B[j]? with
  |some b=>j::qA B f b.bJ
  |none=>[]
def ch(B:List fV)(j:Nat):List Nat:=qA B j j
def Fk(B:List fV):Prop:=∀j b,B[j]?=some b->j≠0->b.bJ<j
theorem agM{B:List fV}(h:Fk B):∀(f j:Nat),j<=f->qA B f j=qA B j j:=by
 intro f
 induction f with
 |zero=>intro j bQ;have:j=0:=by omega
        subst this;rfl
 |succ f eL=>
  intro j bQ;cases j with
  |zero=>simp[qA]
  |succ j=>
   rw[qA,qA];cases e:B[j+1]? with
   |none=>rfl
   |some b=>
    have ae:=h (j+1) b e (by omega);simp only[Nat.succ_ne_zero,if_false,Nat.add_one_ne_zero];rw[eL b.bJ (by omega)];have:qA B j b.bJ=qA B b.bJ b.bJ:=by
     rcases Ff j f with q|q
     ·
      exact(agN h j b.bJ (by omega))
     .have:j=f:=by omega
      subst this;exact eL b.bJ (by omega)
    rw[this]
where
 agN {B:List fV} (h:Fk B) (j k:Nat) (aJ:k<=j):qA B j k=qA B k k:=by
  induction j using Nat.strongRecOn generalizing k with
  |_ j eL=>
   cases j with
   |zero=>have:k=0:=by omega
          subst this;rfl
   |succ j=>
    cases k with
    |zero=>simp[qA]
    |succ k=>
     rw[qA,qA];cases e:B[k+1]? with
     |none=>rfl
     |some b=>
      have ae:=h (k+1) b e (by omega);simp only[Nat.add_one_ne_zero,if_false];rw[eL j (by omega) b.bJ (by omega)];rcases Ff k (j+1)with q|q
      .rw[eL k (by omega) b.bJ (by omega)]
      .omega
theorem VD{B:List fV}(h:Fk B){j:Nat}{b:fV}(e:B[j]?=some b)(bQ:j≠0):ch B j=j::ch B b.bJ:=by
 cases j with
 |zero=>exact absurd z bQ
 |succ j=>
  have ae:=h (j+1) b e bQ;show qA B (j+1) (j+1)=(j+1)::qA B b.bJ b.bJ;rw[qA,e];simp only[Nat.add_one_ne_zero,if_false];rw[agM h j b.bJ (by omega)]
theorem OV{B:List fV}:ch B 0=[]:=rfl
def f6(B:List fV)(l:List fV)(k:Nat):Prop:=∀i b,l[i]?=some b->B[k+i]?=some b
theorem f6.left{B l m:List fV}{k:Nat}(h:f6 B (l++m) k):f6 B l k:=fun i b e=>h i b (by rw[sd (gn.mp e).1];exact e)
theorem f6.right{B l m:List fV}{k:Nat}(h:f6 B (l++m) k):f6 B m (k+l.length):=fun i b e=>by
 have:=h (l.length+i) b (by rw[q3 (by omega)];simpa using e);rw[oF];exact this
theorem f6.head{B l:List fV}{x:fV}{k:Nat}(h:f6 B (x::l) k):B[k]?=some x:=h 0 x z
theorem f6.tail{B l:List fV}{x:fV}{k:Nat}(h:f6 B (x::l) k):f6 B l (k+1):=fun i b e=>by
 have:=h (i+1) b e;have aq:k+(i+1)=k+1+i:=by omega
 rw[aq]at this;exact this
theorem rL{B:List fV}{c:Nat->List Nat}(aB:∀j b,B[j]?=some b->j≠0->c j=j::c b.bJ):∀(t:Term)(n h k:Nat),0<k->f6 B (fP t n h k) k->qx (arB B) c t n h k
 |.num _,_,_,_,_,_=>trivial
 |.var _,_,_,_,_,_=>trivial
 |.fn b,n,h,k,aJ,s=>⟨by unfold arB;rw[f6.head s],aB k _ (f6.head s) (by omega),rL aB b (n+1) k (k+1) (by omega) (f6.tail s)⟩
 |.fix b,n,h,k,aJ,s=>⟨by unfold arB;rw[f6.head s],aB k _ (f6.head s) (by omega),rL aB b (n+2) k (k+1) (by omega) (f6.tail s)⟩
 |.app f a,n,h,k,aJ,s=>⟨rL aB f n h k aJ (f6.left s),rL aB a n h (k+f.fns) (by omega) (by have:=f6.right s;rwa[iA]at this)⟩
 |.add f a,n,h,k,aJ,s=>⟨rL aB f n h k aJ (f6.left s),rL aB a n h (k+f.fns) (by omega) (by have:=f6.right s;rwa[iA]at this)⟩
 |.sub f a,n,h,k,aJ,s=>⟨rL aB f n h k aJ (f6.left s),rL aB a n h (k+f.fns) (by omega) (by have:=f6.right s;rwa[iA]at this)⟩
 |.less f a,n,h,k,aJ,s=>⟨rL aB f n h k aJ (f6.left s),rL aB a n h (k+f.fns) (by omega) (by have:=f6.right s;rwa[iA]at this)⟩
 |.cond c f a,n,h,k,aJ,s=>⟨rL aB c n h k aJ (f6.left s),rL aB f n h (k+c.fns) (by omega) (by have:=f6.left (f6.right s);rwa[iA]at this),rL aB a n h (k+c.fns+f.fns) (by omega) (by have:=f6.right (f6.right s);rwa[iA,iA]at this)⟩
 |.name f a,n,h,k,aJ,s=>⟨rL aB f n h k aJ (f6.left s),rL aB a (n+1) h (k+f.fns) (by omega) (by have:=f6.right s;rwa[iA]at this)⟩
def jX(T:Nat->List Nat)(l:List (List Nat))(k:Nat):Prop:=∀i x,l[i]?=some x->T (k+i)=x
theorem jX.left{T:Nat->List Nat}{l m:List (List Nat)}{k:Nat}(h:jX T (l++m) k):jX T l k:=fun i b e=>h i b (by rw[sd (gn.mp e).1];exact e)
theorem jX.right{T:Nat->List Nat}{l m:List (List Nat)}{k:Nat}(h:jX T (l++m) k):jX T m (k+l.length):=fun i b e=>by
 have:=h (l.length+i) b (by rw[q3 (by omega)];simpa using e);rw[oF];exact this
theorem jX.head{T:Nat->List Nat}{l:List (List Nat)}{x:List Nat}{k:Nat}(h:jX T (x::l) k):T k=x:=h 0 x z
theorem jX.tail{T:Nat->List Nat}{l:List (List Nat)}{x:List Nat}{k:Nat}(h:jX T (x::l) k):jX T l (k+1):=fun i b e=>by
 have:=h (i+1) b e;have aq:k+(i+1)=k+1+i:=by omega
 rw[aq]at this;exact this
theorem qo{B:List fV}{T:Nat->List Nat}:∀(t:Term)(n h k:Nat),f6 B (fP t n h k) k->jX T (gF t n) k->pD (arB B) (ownB B) T t n k
 |.num _,_,_,_,_,_=>trivial
 |.var _,_,_,_,_,_=>trivial
 |.fn b,n,h,k,s,u=>⟨by unfold arB;rw[f6.head s],by unfold ownB;rw[f6.head s],jX.head u,qo b (n+1) k (k+1) (f6.tail s) (jX.tail u)⟩
 |.fix b,n,h,k,s,u=>⟨by unfold arB;rw[f6.head s],by unfold ownB;rw[f6.head s],jX.head u,qo b (n+2) k (k+1) (f6.tail s) (jX.tail u)⟩
 |.app f a,n,h,k,s,u=>⟨qo f n h k (f6.left s) (jX.left u),qo a n h (k+f.fns) (by have:=f6.right s;rwa[iA]at this) (by have:=jX.right u;rwa[jU]at this)⟩
 |.add f a,n,h,k,s,u=>⟨qo f n h k (f6.left s) (jX.left u),qo a n h (k+f.fns) (by have:=f6.right s;rwa[iA]at this) (by have:=jX.right u;rwa[jU]at this)⟩
 |.sub f a,n,h,k,s,u=>⟨qo f n h k (f6.left s) (jX.left u),qo a n h (k+f.fns) (by have:=f6.right s;rwa[iA]at this) (by have:=jX.right u;rwa[jU]at this)⟩
 |.less f a,n,h,k,s,u=>⟨qo f n h k (f6.left s) (jX.left u),qo a n h (k+f.fns) (by have:=f6.right s;rwa[iA]at this) (by have:=jX.right u;rwa[jU]at this)⟩
 |.cond c f a,n,h,k,s,u=>⟨qo c n h k (f6.left s) (jX.left u),qo f n h (k+c.fns) (by have:=f6.left (f6.right s);rwa[iA]at this) (by have:=jX.left (jX.right u);rwa[jU]at this),
   qo a n h (k+c.fns+f.fns) (by have:=f6.right (f6.right s);rwa[iA,iA]at this) (by have:=jX.right (jX.right u);rwa[jU,jU]at this)⟩
 |.name f a,n,h,k,s,u=>⟨qo f n h k (f6.left s) (jX.left u),qo a (n+1) h (k+f.fns) (by have:=f6.right s;rwa[iA]at this) (by have:=jX.right u;rwa[jU]at this)⟩
theorem ru:∀(t:Term)(n h k:Nat),h<k->∀i b,(fP t n h k)[i]?=some b->b.bJ<k+i
 |.num _,_,_,_,_,i,b,e=>by simp[fP]at e
 |.var _,_,_,_,_,i,b,e=>by simp[fP]at e
 |.fn t,n,h,k,aJ,0,b,e=>by simp[fP]at e;subst e;exact aJ
 |.fn t,n,h,k,aJ,i+1,b,e=>by
  have:=ru t (n+1) k (k+1) (by omega) i b (by simpa[fP]using e);omega
 |.fix t,n,h,k,aJ,0,b,e=>by simp[fP]at e;subst e;exact aJ
 |.fix t,n,h,k,aJ,i+1,b,e=>by
  have:=ru t (n+2) k (k+1) (by omega) i b (by simpa[fP]using e);omega
 |.app f a,n,h,k,aJ,i,b,e=>fS f a n n h k aJ i b e (fun i b e=>ru f n h k aJ i b e) (fun i b e=>ru a n h (k+f.fns) (by omega) i b e)
 |.add f a,n,h,k,aJ,i,b,e=>fS f a n n h k aJ i b e (fun i b e=>ru f n h k aJ i b e) (fun i b e=>ru a n h (k+f.fns) (by omega) i b e)
 |.sub f a,n,h,k,aJ,i,b,e=>fS f a n n h k aJ i b e (fun i b e=>ru f n h k aJ i b e) (fun i b e=>ru a n h (k+f.fns) (by omega) i b e)
 |.less f a,n,h,k,aJ,i,b,e=>fS f a n n h k aJ i b e (fun i b e=>ru f n h k aJ i b e) (fun i b e=>ru a n h (k+f.fns) (by omega) i b e)
 |.name f a,n,h,k,aJ,i,b,e=>fS f a n (n+1) h k aJ i b e (fun i b e=>ru f n h k aJ i b e) (fun i b e=>ru a (n+1) h (k+f.fns) (by omega) i b e)
 |.cond c f a,n,h,k,aJ,i,b,e=>by
  simp only[fP]at e;by_cases ai:i<c.fns
  .rw[sd (by rw[iA];exact ai)]at e;exact ru c n h k aJ i b e
  .rw[q3 (by rw[iA];omega),iA]at e;have:=fS f a n n h (k+c.fns) (by omega) (i -c.fns) b e (fun i b e=>ru f n h (k+c.fns) (by omega) i b e) (fun i b e=>ru a n h (k+c.fns+f.fns) (by omega) i b e);omega
where
 fS (f a:Term) (n kW h k:Nat) (aJ:h<k) (i:Nat) (b:fV) (e:(fP f n h k++fP a kW h (k+f.fns))[i]?=some b)
  (ai:∀i b,(fP f n h k)[i]?=some b->b.bJ<k+i) (aj:∀i b,(fP a kW h (k+f.fns))[i]?=some b->b.bJ<k+f.fns+i):b.bJ<k+i:=by
  by_cases q:i<f.fns
  .rw[sd (by rw[iA];exact q)]at e;exact ai i b e
  .rw[q3 (by rw[iA];omega),iA]at e;have:=aj (i -f.fns) b e;omega
theorem qM:∀(t:Term)(n h k:Nat),iw t n->h<k->∀x∈cU t n h k,x.bJ<k+t.fns/\(x.kind=1->x.value<x.eZ)
 |.num _,n,h,k,w,aJ,x,Y=>by simp[cU]at Y;subst Y;simp[Term.fns,aJ]
 |.var v,n,h,k,w,aJ,x,Y=>by simp[cU]at Y;subst Y;simp[Term.fns,aJ];exact w
 |.fn b,n,h,k,w,aJ,x,Y=>by
  rcases dG.mp Y with e|Y
  .subst e;simp[Term.fns];omega
  .have:=qM b (n+1) k (k+1) w (by omega) x Y;exact⟨by simp[Term.fns];omega,this.2⟩
 |.fix b,n,h,k,w,aJ,x,Y=>by
  rcases dG.mp Y with e|Y
  .subst e;simp[Term.fns];omega
  .have:=qM b (n+2) k (k+1) w (by omega) x Y;exact⟨by simp[Term.fns];omega,this.2⟩
 |.app f a,n,h,k,w,aJ,x,Y=>by
  rcases dG.mp Y with e|Y
  .subst e;simp[Term.fns];omega
  .rcases fN.mp Y with Y|Y
   .have:=qM f n h k w.1 aJ x Y;exact⟨by simp[Term.fns];omega,this.2⟩
   .have:=qM a n h (k+f.fns) w.2 (by omega) x Y;exact⟨by simp[Term.fns];omega,this.2⟩
 |.add f a,n,h,k,w,aJ,x,Y=>by
  rcases dG.mp Y with e|Y
  .subst e;simp[Term.fns];omega
  .rcases fN.mp Y with Y|Y
   .have:=qM f n h k w.1 aJ x Y;exact⟨by simp[Term.fns];omega,this.2⟩
   .have:=qM a n h (k+f.fns) w.2 (by omega) x Y;exact⟨by simp[Term.fns];omega,this.2⟩
 |.sub f a,n,h,k,w,aJ,x,Y=>by
  rcases dG.mp Y with e|Y
  .subst e;simp[Term.fns];omega
  .rcases fN.mp Y with Y|Y
   .have:=qM f n h k w.1 aJ x Y;exact⟨by simp[Term.fns];omega,this.2⟩
   .have:=qM a n h (k+f.fns) w.2 (by omega) x Y;exact⟨by simp[Term.fns];omega,this.2⟩
 |.less f a,n,h,k,w,aJ,x,Y=>by
  rcases dG.mp Y with e|Y
  .subst e;simp[Term.fns];omega
  .rcases fN.mp Y with Y|Y
   .have:=qM f n h k w.1 aJ x Y;exact⟨by simp[Term.fns];omega,this.2⟩
   .have:=qM a n h (k+f.fns) w.2 (by omega) x Y;exact⟨by simp[Term.fns];omega,this.2⟩
 |.name f a,n,h,k,w,aJ,x,Y=>by
  rcases dG.mp Y with e|Y
  .subst e;simp[Term.fns];omega
  .rcases fN.mp Y with Y|Y
   .have:=qM f n h k w.1 aJ x Y;exact⟨by simp[Term.fns];omega,this.2⟩
   .have:=qM a (n+1) h (k+f.fns) w.2 (by omega) x Y;exact⟨by simp[Term.fns];omega,this.2⟩
 |.cond c f a,n,h,k,w,aJ,x,Y=>by
  rcases dG.mp Y with e|Y
  .subst e;simp[Term.fns];omega
  .rcases fN.mp Y with Y|Y
   .have:=qM c n h k w.1 aJ x Y;exact⟨by simp[Term.fns];omega,this.2⟩
   .rcases fN.mp Y with Y|Y
    .have:=qM f n h (k+c.fns) w.2.1 (by omega) x Y;exact⟨by simp[Term.fns];omega,this.2⟩
    .have:=qM a n h (k+c.fns+f.fns) w.2.2 (by omega) x Y;exact⟨by simp[Term.fns];omega,this.2⟩
def ic(t:Term):List fV:=⟨0,0,0⟩::fP t 0 0 1
def oN(t:Term)(i:Nat):List Nat:=([]::gF t 0).getD i []
theorem US(t:Term):Fk (ic t):=fun j b e bQ=>by
 cases j with
 |zero=>exact absurd z bQ
 |succ j=>
  have:=ru t 0 0 1 (by omega) j b (by simpa[ic]using e);omega
theorem Lu(t:Term):f6 (ic t) (fP t 0 0 1) 1:=fun i b e=>by
 have aq:1+i=i+1:=by omega
 rw[aq];exact e
theorem OH(t:Term):jX (oN t) (gF t 0) 1:=fun i x e=>by
 have aq:1+i=i+1:=by omega
 rw[aq];show(gF t 0).getD i []=x;rw[mZ,e];rfl
theorem anX(t:Term)(w:iw t 0)(i:Nat):ji (arB (ic t)) (ch (ic t)) (fun _=>[]) (cU t 0 0 1) i=oN t i:=by
 have L:=rL (c:=ch (ic t)) (fun j b e bQ=>VD (US t) e bQ) t 0 0 1 (by omega) (Lu t);obtain⟨ai,aj,bN⟩:=rS t 0 0 1 (arB (ic t)) (ch (ic t)) (fun _=>[]) w L trivial (fun i aF=>by simp[OV]at aF) (fun _ _=>rfl);rcases Ff i 1 with q|q
 .rw[ai i q];have:i=0:=by omega
  subst this;simp[OV,oN]
 .obtain⟨j,rfl⟩:∃j,i=1+j:=⟨i -1,by omega⟩;rcases Ff j t.fns with bf|bf
  .rw[aj j bf];have aq:1+j=j+1:=by omega
   rw[aq];rfl
  .rw[bN (1+j) (by omega)];have aq:1+j=j+1:=by omega
   rw[aq];show[]=(gF t 0).getD j [];rw[mZ,Fd (by rw[jU];exact bf)];rfl
structure Dr(ar:Nat->Nat)(T:Nat->List Nat)(L:Nat)(x:jO):Prop where
 bJ:x.bJ<L
 var:x.kind=1->x.value<x.eZ/\(x.eZ -1 -x.value<ar x.bJ->x.eZ -1 -x.value∈T x.bJ)
 fn:x.kind=2\/x.kind=3->0<x.value/\x.value<L/\(T x.value).length<=64/\∀l∈T x.value,l<x.eZ/\(l<ar x.bJ->l∈T x.bJ)
def zY(ar:Nat->Nat)(T:Nat->List Nat)(l:List Nat)(n h:Nat):Prop:=∀v∈l,n -1 -v<ar h->n -1 -v∈T h
theorem zY.c7{ar T l m n h}(H:zY ar T l n h)(s:∀v∈m,v∈l):zY ar T m n h:=fun v a6=>H v (s v a6)
theorem BR{ar T L k v p n h}(ee:h<L)(aJ:3<k\/k=0):Dr ar T L ⟨k,v,p,n,h⟩:=⟨ee,fun e=>by dsimp at e;omega,fun e=>by dsimp at e;omega⟩
theorem ajT{ar T n h}{b:Term}(H:zY ar T (out 1 b.free) n h)(w:∀v∈b.free,v<n+1)(br:ar h<=n):zY ar T b.free (n+1) h:=fun v a6 eY=>by
 have:=w v a6;rcases v with _|v
 .omega
 .have e:n+1 -1 -(v+1)=n -1 -v:=by omega
  rw[e]at eY⊢;exact H v (AH.mpr a6) eY
theorem XA{ar T n k j}{b t:Term}(bO:t.free=out j b.free)(ay:ar k=n)(bB:T k=l8 t n):zY ar T b.free (n+j) k:=fun v a6 eY=>by
 rw[ay]at eY;rw[bB];have bQ:j<=v:=by omega
 have aM:v -j∈t.free:=by rw[bO];exact AH.mpr (by rw[Nat.sub_add_cancel bQ];exact a6)
 refine vY.mpr ⟨v -j,zg.mpr aM,by omega⟩
theorem Wn{ar T L n h k q}{t:Term}(w:iw t n)(br:n<=64)(a9:q=2\/q=3)(H:zY ar T t.free n h)(bB:T k=l8 t n)(ee:h<k)(aJ:k<L):Dr ar T L ⟨q,k,1,n,h⟩:=by
 refine⟨by show h<L;omega,fun e=>by dsimp at e;omega,fun _=>⟨by show 0<k;omega,aJ,?_,fun l aD=>?_⟩⟩
 .show(T k).length<=64;rw[bB,l8,cA];exact i3 (C4 w) br
 .have aD:l∈l8 t n:=bB▸aD;obtain⟨v,a6,rfl⟩:=vY.mp aD;have a6:=zg.mp a6;have:=lF t n w v a6;exact⟨by show n -1 -v<n;omega,H v a6⟩
theorem rO{ar own:Nat->Nat}{T:Nat->List Nat}{L:Nat}:∀(t:Term)(n h k:Nat),iw t n->zY ar T t.free n h->pD ar own T t n k->ar h<=n->n+2*cf t<=64->h<k->k+t.fns<=L->0<L->h<L->∀x∈cU t n h k,Dr ar T L x
 |.num y,n,h,k,w,H,S,br,aG,aJ,jp,cP,aD,x,Y=>by
  obtain rfl:=mem_singleton.mp Y;exact BR aD (.inr z)
 |.var v,n,h,k,w,H,S,br,aG,aJ,jp,cP,aD,x,Y=>by
  obtain rfl:=mem_singleton.mp Y;exact⟨aD,fun _=>⟨w,H v (by simp[Term.free])⟩,fun e=>by dsimp at e;omega⟩
 |.fn b,n,h,k,w,H,S,br,aG,aJ,jp,cP,aD,x,Y=>by
  obtain⟨ay,aq,bB,S⟩:=S;simp only[cf]at aG;simp only[Term.fns]at jp;rcases dG.mp Y with rfl|Y
  .exact Wn (t:=.fn b) w (by omega) (.inl z) H bB aJ (by omega)
  .exact rO b (n+1) k (k+1) w (XA (t:=.fn b) (j:=1) z ay bB) S (by omega) (by omega) (by omega) (by omega) cP (by omega) x Y
 |.fix b,n,h,k,w,H,S,br,aG,aJ,jp,cP,aD,x,Y=>by
  obtain⟨ay,aq,bB,S⟩:=S;simp only[cf]at aG;simp only[Term.fns]at jp;rcases dG.mp Y with rfl|Y
  .exact Wn (t:=.fix b) w (by omega) (.inr z) H bB aJ (by omega)
  .exact rO b (n+2) k (k+1) w (XA (t:=.fix b) (j:=2) z ay bB) S (by omega) (by omega) (by omega) (by omega) cP (by omega) x Y
 |.app f a,n,h,k,w,H,S,br,aG,aJ,jp,cP,aD,x,Y=>by
  simp only[cf]at aG;simp only[Term.fns]at jp;rcases dG.mp Y with rfl|Y
  .exact BR aD (.inl (by omega))
  .rcases fN.mp Y with Y|Y
   .exact rO f n h k w.1 (H.c7 fun v a6=>by simp[Term.free,a6]) S.1 br (by omega) aJ (by omega) cP aD x Y
   .exact rO a n h (k+f.fns) w.2 (H.c7 fun v a6=>by simp[Term.free,a6]) S.2 br (by omega) (by omega) (by omega) cP aD x Y
 |.add f a,n,h,k,w,H,S,br,aG,aJ,jp,cP,aD,x,Y=>by
  simp only[cf]at aG;simp only[Term.fns]at jp;rcases dG.mp Y with rfl|Y
  .exact BR aD (.inl (by omega))
  .rcases fN.mp Y with Y|Y
   .exact rO f n h k w.1 (H.c7 fun v a6=>by simp[Term.free,a6]) S.1 br (by omega) aJ (by omega) cP aD x Y
   .exact rO a n h (k+f.fns) w.2 (H.c7 fun v a6=>by simp[Term.free,a6]) S.2 br (by omega) (by omega) (by omega) cP aD x Y
 |.sub f a,n,h,k,w,H,S,br,aG,aJ,jp,cP,aD,x,Y=>by
  simp only[cf]at aG;simp only[Term.fns]at jp;rcases dG.mp Y with rfl|Y
  .exact BR aD (.inl (by omega))
  .rcases fN.mp Y with Y|Y
   .exact rO f n h k w.1 (H.c7 fun v a6=>by simp[Term.free,a6]) S.1 br (by omega) aJ (by omega) cP aD x Y
   .exact rO a n h (k+f.fns) w.2 (H.c7 fun v a6=>by simp[Term.free,a6]) S.2 br (by omega) (by omega) (by omega) cP aD x Y
 |.less f a,n,h,k,w,H,S,br,aG,aJ,jp,cP,aD,x,Y=>by
  simp only[cf]at aG;simp only[Term.fns]at jp;rcases dG.mp Y with rfl|Y
  .exact BR aD (.inl (by omega))
  .rcases fN.mp Y with Y|Y
   .exact rO f n h k w.1 (H.c7 fun v a6=>by simp[Term.free,a6]) S.1 br (by omega) aJ (by omega) cP aD x Y
   .exact rO a n h (k+f.fns) w.2 (H.c7 fun v a6=>by simp[Term.free,a6]) S.2 br (by omega) (by omega) (by omega) cP aD x Y
 |.cond c f a,n,h,k,w,H,S,br,aG,aJ,jp,cP,aD,x,Y=>by
  simp only[cf]at aG;simp only[Term.fns]at jp;rcases dG.mp Y with rfl|Y
  .exact BR aD (.inl (by omega))
  .rcases fN.mp Y with Y|Y
   .exact rO c n h k w.1 (H.c7 fun v a6=>by simp[Term.free,a6]) S.1 br (by omega) aJ (by omega) cP aD x Y
   .rcases fN.mp Y with Y|Y
    .exact rO f n h (k+c.fns) w.2.1 (H.c7 fun v a6=>by simp[Term.free,a6]) S.2.1 br (by omega) (by omega) (by omega) cP aD x Y
    .exact rO a n h (k+c.fns+f.fns) w.2.2 (H.c7 fun v a6=>by simp[Term.free,a6]) S.2.2 br (by omega) (by omega) (by omega) cP aD x Y
 |.name f a,n,h,k,w,H,S,br,aG,aJ,jp,cP,aD,x,Y=>by
  simp only[cf]at aG;simp only[Term.fns]at jp;rcases dG.mp Y with rfl|Y
  .exact BR aD (.inl (by omega))
  .rcases fN.mp Y with Y|Y
   .exact rO f n h k w.1 (H.c7 fun v a6=>by simp[Term.free,a6]) S.1 br (by omega) aJ (by omega) cP aD x Y
   .exact rO a (n+1) h (k+f.fns) w.2 (ajT (H.c7 fun v a6=>by simp[Term.free,a6]) (lF a (n+1) w.2) br) S.2 (by omega) (by omega) (by omega) (by omega) cP aD x Y
theorem OI(t:Term)(w:iw t 0)(aG:cf t<=32):∀x∈cU t 0 0 1,Dr (arB (ic t)) (oN t) (ic t).length x:=
 rO (own:=ownB (ic t)) t 0 0 1 w (fun v a6=>absurd (lF t 0 w v a6) (by omega)) (qo t 0 0 1 (Lu t) (OH t)) (dW _) (by omega) (by omega)
  (by show 1+t.fns<=(fP t 0 0 1).length+1;rw[iA];omega) (by show 0<(fP t 0 0 1).length+1;omega) (by show 0<(fP t 0 0 1).length+1;omega)
def oM(t:Term):Nat->List Nat:=mX (arB (ic t)) (ownB (ic t)) (oN t) (fun _=>[]) (cU t 0 0 1)
theorem ap5(t:Term)(w:iw t 0)(aG:cf t<=32)(bq:t.fns<=64):oM t 0=nums (made t [] 0).1.bytes/\∀i,i<t.fns->oM t (1+i)=((made t [] 0).2.map fun p=>nums p.body.bytes).getD i []:=by
 have r:=rW t [] 0 0 1 (arB (ic t)) (ownB (ic t)) (oN t) (fun _=>[]) w ⟨z,fun v a6=>absurd (lF t 0 w v a6) (by omega)⟩ (qo t 0 0 1 (Lu t) (OH t)) (dW _) (by show 0<256;omega) (by omega) (by omega) (by omega) (fun _ _=>rfl);refine⟨?_,r.2.1⟩;have:=r.1 0 (by omega);simpa[oM]using this
theorem rY:∀(t:Term)(n:Nat),iw t n->n+2*cf t<=64->∀l∈gF t n,l.length<=64
 |.num _,n,w,aG,l,aD=>by simp[gF]at aD
 |.var _,n,w,aG,l,aD=>by simp[gF]at aD
 |.fn b,n,w,aG,l,aD=>by
  simp only[cf]at aG;rcases dG.mp aD with rfl|aD
  .rw[l8,cA];exact i3 (C4 (t:=.fn b) w) (by omega)
  .exact rY b (n+1) w (by omega) l aD
 |.fix b,n,w,aG,l,aD=>by
  simp only[cf]at aG;rcases dG.mp aD with rfl|aD
  .rw[l8,cA];exact i3 (C4 (t:=.fix b) w) (by omega)
  .exact rY b (n+2) w (by omega) l aD
 |.app f a,n,w,aG,l,aD=>by
  simp only[cf]at aG;rcases fN.mp aD with aD|aD
  .exact rY f n w.1 (by omega) l aD
  .exact rY a n w.2 (by omega) l aD
 |.add f a,n,w,aG,l,aD=>by
  simp only[cf]at aG;rcases fN.mp aD with aD|aD
  .exact rY f n w.1 (by omega) l aD
  .exact rY a n w.2 (by omega) l aD
 |.sub f a,n,w,aG,l,aD=>by
  simp only[cf]at aG;rcases fN.mp aD with aD|aD
  .exact rY f n w.1 (by omega) l aD
  .exact rY a n w.2 (by omega) l aD
 |.less f a,n,w,aG,l,aD=>by
  simp only[cf]at aG;rcases fN.mp aD with aD|aD
  .exact rY f n w.1 (by omega) l aD
  .exact rY a n w.2 (by omega) l aD
 |.cond c f a,n,w,aG,l,aD=>by
  simp only[cf]at aG;rcases fN.mp aD with aD|aD
  .exact rY c n w.1 (by omega) l aD
  .rcases fN.mp aD with aD|aD
   .exact rY f n w.2.1 (by omega) l aD
   .exact rY a n w.2.2 (by omega) l aD
 |.name f a,n,w,aG,l,aD=>by
  simp only[cf]at aG;rcases fN.mp aD with aD|aD
  .exact rY f n w.1 (by omega) l aD
  .exact rY a (n+1) w.2 (by omega) l aD
theorem Wt{cL:Type}(f:cL->List Nat):∀(l:List cL),l.flatMap f=(range l.length).flatMap fun i=>(l.map f).getD i []
 |[]=>rfl
 |x::l=>by
  rw[Dd,c9,List.range_succ_eq_map,Dd,Wt f l,flatMap_map];rfl
theorem UT(t:Term)(i:Nat):oN t (1+i)=(gF t 0).getD i []:=by
 have e:1+i=i+1:=by omega
 rw[e];rfl
theorem ag1(t:Term)(w:iw t 0)(aG:cf t<=32)(bq:t.fns<=64):nums (compiled t).bytes=t.fns::(oM t 0++(range t.fns).flatMap fun i=>(oN t (1+i)).length::oM t (1+i)):=by
 obtain⟨ai,aj⟩:=ap5 t w aG bq;have aD:(made t [] 0).2.length=t.fns:=ju t [] 0;show nums (UInt8.ofNat (made t [] 0).2.length::((made t [] 0).1.bytes++(made t [] 0).2.flatMap fun p=>UInt8.ofNat p.takes::p.body.bytes))=_;rw[t8,AV,<-ai,aD,u8 (by omega),R3,Wt,aD]
 congr 2
 have bO:=qY t [] 0 0;have dh:∀l∈gF t 0,l.length<=64:=rY t 0 w (by omega);refine PA fun i aF=>?_;have aF:i<t.fns:=List.mem_range.mp aF;rw[aj i aF,UT];have aN:i<(made t [] 0).2.length:=by omega
 have ay:((made t [] 0).2.map (·.takes))[i]?=((gF t 0).map List.length)[i]?:=by rw[bO]
 rw[h8,h8,gA aN,gA (by rw[jU];exact aF)]at ay;have aq:((made t [] 0).2[i]).takes=((gF t 0)[i]'(by rw[jU];exact aF)).length:=by simpa using ay
 have ae:=dh _ (List.getElem_mem (by rw[jU];exact aF:i<(gF t 0).length));simp only[mZ,h8,gA aN,gA (by rw[jU];exact aF:i<(gF t 0).length),ur,Option.getD_some];rw[t8,aq,u8 (by omega)]
def mK(x:Exp)(m:Nat)(l:List Proc)(r:Bytes):Option Code:=(readProcs m r).bind fun y=>if y.2=[]/\Code.fine ⟨x,l++y.1⟩=true then some ⟨x,l++y.1⟩else none
theorem agZ{b:Bytes}(h:8192<b.length):code b=none:=by
 unfold code;rw[bT (show CODE<b.length from h)]
theorem VO{n:UInt8}{r:Bytes}(h:readE 64 r=none):code (n::r)=none:=by
 unfold code;simp only[h];split<;>rfl
theorem O3{n:UInt8}{r:Bytes}{x:Exp}{q:Bytes}(aD:(n::r).length<=8192)(h:readE 64 r=some (x,q)):code (n::r)=mK x n.toNat [] q:=by
 unfold code mK;rw[bz (show ¬CODE<(n::r).length from by show ¬8192<(n::r).length;omega)];simp only[h];cases e:readProcs n.toNat q with
 |none=>rfl
 |some y=>
  obtain⟨l,eW⟩:=y;cases eW with
  |nil=>simp
  |cons a b=>simp
theorem VJ{x:Exp}{m:Nat}{l:List Proc}{t:UInt8}{r:Bytes}(h:readE 64 r=none):mK x (m+1) l (t::r)=none:=by
 unfold mK;simp[readProcs,h]
theorem O0{x y:Exp}{m:Nat}{l:List Proc}{t:UInt8}{r q:Bytes}(h:readE 64 r=some (y,q)):mK x (m+1) l (t::r)=mK x m (l++[⟨t.toNat,y⟩]) q:=by
 unfold mK;simp only[readProcs,h,j8];cases readProcs m q with
 |none=>rfl
 |some I=>simp
theorem OZ{x:Exp}{m:Nat}{l:List Proc}{r:Bytes}(h:∀oh,oh.length=m->Code.fine ⟨x,l++oh⟩=false):mK x m l r=none:=by
 unfold mK;cases e:readProcs m r with
 |none=>rfl
 |some y=>
  have:=h y.1 (aa8 m r y.1 y.2 e);simp[this]
theorem RQ{x:Exp}{l:List Proc}(h:¬(l.length<=64/\eu false 0 0 x=true/\vt l=true)):Code.fine ⟨x,l⟩=false:=by
 cases e:Code.fine ⟨x,l⟩with
 |false=>rfl
 |true=>exact absurd ((O2 x l).mp e).1 h
theorem agV{x:Exp}{m:Nat}{r:Bytes}(h:64<m):mK x m [] r=none:=OZ fun oh e=>RQ fun I=>by
 have:=I.1;rw[List.nil_append]at this;omega
theorem agU{x:Exp}{m:Nat}{l:List Proc}{r:Bytes}(h:eu false 0 0 x=false):mK x m l r=none:=OZ fun oh e=>RQ fun I=>by rw[h]at I;cases I.2.1
theorem VK{x:Exp}{m:Nat}{l:List Proc}{r:Bytes}(h:vt l=false):mK x m l r=none:=OZ fun oh e=>RQ fun I=>by
 have I:=I.2.2;unfold vt at I h;rw[List.all_append,h]at I;cases I
theorem agW{x:Exp}{l:List Proc}{r:Bytes}(h:r≠[]):mK x 0 l r=none:=by
 unfold mK;simp[readProcs,h]
theorem agR{x:Exp}{l:List Proc}:mK x 0 l []=if Code.fine ⟨x,l⟩=true then some ⟨x,l⟩else none:=by
 unfold mK;simp[readProcs]
theorem Pz{l:List Proc}{t:Nat}{y:Exp}:vt (l++[⟨t,y⟩])=(vt l&&(decide (t<=64)&&eu true t 0 y)):=by
 unfold vt;rw[List.all_append];simp
theorem agQ{x:Exp}{m:Nat}{l:List Proc}{t:UInt8}{r:Bytes}(h:64<t.toNat):mK x (m+1) l (t::r)=none:=by
 cases e:readE 64 r with
 |none=>exact VJ e
 |some y=>
  rw[O0 (y:=y.1) (q:=y.2) e];refine VK ?_;rw[Pz];have:¬t.toNat<=64:=by omega
  simp[this]
theorem agS{x:Exp}{m:Nat}{l:List Proc}{t:UInt8}{r:Bytes}(N:List jl)(h:Nat)(aD:vt l=true)(bO:t.toNat<=64):
  (gH true t.toNat N [⟨0,1,h⟩] r=none->mK x (m+1) l (t::r)=none)/\
  ∀iQ q,gH true t.toNat N [⟨0,1,h⟩] r=some (iQ,q)->∃y,mK x (m+1) l (t::r)=mK x m (l++[⟨t.toNat,y⟩]) q/\vt (l++[⟨t.toNat,y⟩])=true/\iQ=N++fg y 0 h:=by
 rw[VB];cases e:readE 64 r with
 |none=>exact⟨fun _=>VJ e,fun iQ q I=>by simp at I⟩
 |some y=>
  rw[j8];by_cases bq:eu true t.toNat 0 y.1=true
  .rw[bT bq];refine⟨fun I=>(by cases I),fun iQ q I=>?_⟩;cases I;exact⟨y.1,O0 (y:=y.1) (q:=y.2) e,by rw[Pz,aD,bq];simp[bO],z⟩
  .rw[bz bq];refine⟨fun _=>?_,fun iQ q I=>by cases I⟩;rw[O0 (y:=y.1) (q:=y.2) e];refine VK ?_;rw[Pz];simp[bq]
theorem agX{n:UInt8}{r:Bytes}(aD:(n::r).length<=8192):
  (gH false 0 [] [⟨0,1,0⟩] r=none->code (n::r)=none)/\
  ∀iQ q,gH false 0 [] [⟨0,1,0⟩] r=some (iQ,q)->∃x,code (n::r)=mK x n.toNat [] q/\eu false 0 0 x=true/\iQ=fg x 0 0:=by
 rw[VB];cases e:readE 64 r with
 |none=>exact⟨fun _=>VO e,fun iQ q I=>by simp at I⟩
 |some y=>
  rw[j8];by_cases bq:eu false 0 0 y.1=true
  .rw[bT bq];refine⟨fun I=>(by cases I),fun iQ q I=>?_⟩;cases I;exact⟨y.1,O3 aD e,bq,by simp⟩
  .rw[bz bq];refine⟨fun _=>?_,fun iQ q I=>by cases I⟩;rw[O3 (x:=y.1) (q:=y.2) aD e];exact agU (by simpa using bq)
theorem ag0{n:UInt8}{r:Bytes}(aD:(n::r).length<=8192)(h:64<n.toNat):code (n::r)=none:=by
 cases e:readE 64 r with
 |none=>exact VO e
 |some y=>rw[O3 (x:=y.1) (q:=y.2) aD e];exact agV h
theorem agT{x:Exp}{l:List Proc}(aD:l.length<=64)(Y:eu false 0 0 x=true)(bq:vt l=true):
  ((∀y∈fg x 0 0++ly l 1,pL (0::l.map (·.takes)) y)->mK x 0 l []=some ⟨x,l⟩)/\(¬(∀y∈fg x 0 0++ly l 1,pL (0::l.map (·.takes)) y)->mK x 0 l []=none):=by
 rw[agR];refine⟨fun h=>?_,fun h=>?_⟩
 .rw[bT ((O2 x l).mpr ⟨⟨aD,Y,bq⟩,h⟩)]
 .rw[bz (fun I=>h ((O2 x l).mp I).2)]
open PyWqawaj (shape whole)
theorem abd{l x t:List Int}(h:PyFlat.row l=some (x,t)):∃n r,l=n::r/\0<=n/\n.toNat<=r.length/\x=r.take n.toNat/\t=r.drop n.toNat:=by
 cases l with
 |nil=>simp[PyFlat.row]at h
 |cons n r=>
  simp only[PyFlat.row]at h;split at h
  .rename_i q;simp only[tC,u3]at h;exact⟨n,r,z,q.1,q.2,h.1.symm,h.2.symm⟩
  .cases h
theorem abe{l t:List Int}{xs:List (List Int)}(h:PyFlat.rows 1 l=some (xs,t)):∃n r,l=n::r/\0<=n/\n.toNat<=r.length/\xs=[r.take n.toNat]/\t=r.drop n.toNat:=by
 simp only[PyFlat.rows]at h;cases e:PyFlat.row l with
 |none=>rw[e]at h;cases h
 |some y=>
  rw[e]at h;obtain⟨n,r,ai,aj,bN,ez,i7⟩:=abd (x:=y.1) (t:=y.2) e;simp only[tC,u3]at h;exact⟨n,r,ai,aj,bN,by rw[<-h.1,ez],by rw[<-h.2,i7]⟩
theorem apY{l t:List Int}{xs:List (List Int)}(h:PyFlat.rows 2 l=some (xs,t)):∃n r m q,l=n::r/\0<=n/\n.toNat<=r.length/\r.drop n.toNat=m::q/\0<=m/\m.toNat<=q.length/\xs=[r.take n.toNat,q.take m.toNat]/\t=q.drop m.toNat:=by
 rw[PyFlat.rows]at h;cases e:PyFlat.row l with
 |none=>rw[e]at h;cases h
 |some y=>
  rw[e]at h;obtain⟨n,r,ai,aj,bN,ez,i7⟩:=abd (x:=y.1) (t:=y.2) e;simp only at h;cases aq:PyFlat.rows 1 y.2 with
  |none=>rw[aq]at h;cases h
  |some I=>
   rw[aq]at h;obtain⟨m,q,k1,k2,k3,jh,k5⟩:=abe (xs:=I.1) (t:=I.2) aq;simp only[tC,u3]at h;exact⟨n,r,m,q,ai,aj,bN,by rw[<-i7,k1],k2,k3,by rw[<-h.1,ez,jh],by rw[<-h.2,k5]⟩
inductive nA:List Int->List (List Int)->List Int->Prop
 |row {p n:Int} {r:List Int}:(p=1\/p=2\/p=3\/p=5)->0<=n->n.toNat<=r.length->nA (p::n::r) [[p],r.take n.toNat] (r.drop n.toNat)
 |mean {x n m:Int} {r q:List Int}:0<=n->n.toNat<=r.length->r.drop n.toNat=m::q->0<=m->m.toNat<=q.length->nA (4::x::n::r) [[4,x],r.take n.toNat,q.take m.toNat] (q.drop m.toNat)
 |plain {p:Int} {r:List Int}:(p=6\/p=10\/p=11\/p=12)->nA (p::r) [[p]] r
 |pQ {p x:Int} {r:List Int}:(p=7\/p=8)->nA (p::x::r) [[p,x]] r
 |fS {x y:Int} {r:List Int}:nA (9::x::y::r) [[9,x,y]] r
theorem ago{l t:List Int}{c:List (List Int)}(h:PyFlat.call shape l=some (c,t)):nA l c t:=by
 cases l with
 |nil=>simp[PyFlat.call]at h
 |cons p r=>
  simp only[PyFlat.call]at h;unfold shape at h;have Nu:∀{p:Int}{c:List (List Int)}{t:List Int},(p=1\/p=2\/p=3\/p=5)->(if r.length<0 then(none:Option (List (List Int)×List Int))else match PyFlat.rows 1 (r.drop 0)with|none=>none|some (xs,t)=>some ((p::r.take 0)::xs,t))=some (c,t)->nA (p::r) c t:=fun{p c t}aN h=>by
   rw[bz (by omega)]at h;cases e:PyFlat.rows 1 (r.drop 0)with
   |none=>rw[e]at h;cases h
   |some y=>
    rw[e]at h;obtain⟨n,q,k1,k2,k3,jh,k5⟩:=abe (xs:=y.1) (t:=y.2) e;simp only[tC,u3]at h;rw[List.drop_zero]at k1;subst k1;rw[<-h.1,<-h.2,jh,k5];exact .row aN k2 k3
  have Ng:∀{p:Int}{c:List (List Int)}{t:List Int},(p=6\/p=10\/p=11\/p=12)->(if r.length<0 then(none:Option (List (List Int)×List Int))else match PyFlat.rows 0 (r.drop 0)with|none=>none|some (xs,t)=>some ((p::r.take 0)::xs,t))=some (c,t)->nA (p::r) c t:=fun{p c t}aN h=>by
   rw[bz (by omega)]at h;simp only[PyFlat.rows,tC,u3]at h;rw[<-h.1,<-h.2];exact .plain aN
  have aav:∀{p:Int}{c:List (List Int)}{t:List Int},(p=7\/p=8)->(if r.length<1 then(none:Option (List (List Int)×List Int))else match PyFlat.rows 0 (r.drop 1)with|none=>none|some (xs,t)=>some ((p::r.take 1)::xs,t))=some (c,t)->nA (p::r) c t:=fun{p c t}aN h=>by
   split at h
   .cases h
   .cases r with
    |nil=>rename_i I;simp at I
    |cons x r=>
     simp only[PyFlat.rows,tC,u3]at h;rw[<-h.1,<-h.2];exact .pQ aN
  by_cases fT:p=1
  .subst fT;exact Nu (by omega) h
  by_cases gb:p=2
  .subst gb;exact Nu (by omega) h
  by_cases nR:p=3
  .subst nR;exact Nu (by omega) h
  by_cases r8:p=4
  .subst r8;have h:(if r.length<1 then(none:Option (List (List Int)×List Int))else match PyFlat.rows 2 (r.drop 1)with|none=>none|some (xs,t)=>some ((4::r.take 1)::xs,t))=some (c,t):=h;split at h
   .cases h
   .cases r with
    |nil=>rename_i I;simp at I
    |cons x r=>
     cases e:PyFlat.rows 2 (List.drop 1 (x::r))with
     |none=>rw[e]at h;cases h
     |some y=>
      rw[e]at h;obtain⟨n,q,m,s,k1,k2,k3,jh,k5,Cn,YG,alJ⟩:=apY (xs:=y.1) (t:=y.2) e;simp only[tC,u3]at h;have k1:r=n::q:=k1;subst k1;rw[<-h.1,<-h.2,YG,alJ];exact .mean k2 k3 jh k5 Cn
  by_cases yd:p=5
  .subst yd;exact Nu (by omega) h
  by_cases Bj:p=6
  .subst Bj;exact Ng (by omega) h
  by_cases Bk:p=7
  .subst Bk;exact aav (by omega) h
  by_cases N9:p=8
  .subst N9;exact aav (by omega) h
  by_cases ad0:p=9
  .subst ad0;have h:(if r.length<2 then(none:Option (List (List Int)×List Int))else match PyFlat.rows 0 (r.drop 2)with|none=>none|some (xs,t)=>some ((9::r.take 2)::xs,t))=some (c,t):=h;split at h
   .cases h
   .match r with
    |[]=>rename_i I;simp at I
    |[_]=>rename_i I;simp at I
    |x::y::r=>
     simp only[PyFlat.rows,tC,u3]at h;rw[<-h.1,<-h.2];exact .fS
  by_cases adX:p=10
  .subst adX;exact Ng (by omega) h
  by_cases adY:p=11
  .subst adY;exact Ng (by omega) h
  by_cases adZ:p=12
  .subst adZ;exact Ng (by omega) h
  rw[bz fT,bz gb,bz nR,bz r8,bz yd,bz Bj,bz Bk,bz N9,bz ad0,bz adX,bz adY,bz adZ]at h;cases h
theorem nA.whole{l t:List Int}{c:List (List Int)}(h:nA l c t):whole c=c:=by
 cases h with
 |row aN _ _=>rcases aN with rfl|rfl|rfl|rfl<;>rfl
 |mean _ _ _ _ _=>rfl
 |plain aN=>rcases aN with rfl|rfl|rfl|rfl<;>rfl
 |pQ aN=>rcases aN with rfl|rfl<;>rfl
 |fS=>rfl
theorem nA.aq1{l t:List Int}{c:List (List Int)}(h:nA l c t):t.length<l.length:=by
 cases h with
 |row _ _ _=>simp;omega
 |mean _ _ e _ _=>
  have:=oA List.length e;simp at this⊢;omega
 |plain _=>simp
 |pQ _=>simp;omega
 |fS=>simp;omega
inductive zO:List Int->List (List (List Int))->Prop
 |nil:zO [] []
 |cons {l t:List Int} {c:List (List Int)} {cs:List (List (List Int))}:nA l c t->zO t cs->zO l (c::cs)
theorem Vw:∀(f:Nat)(l:List Int)(cs:List (List (List Int))),PyFlat.calls shape f l=some cs->zO l cs
 |0,[],cs,h=>by
  simp only[PyFlat.calls,tC]at h;rw[<-h];exact .nil
 |f+1,[],cs,h=>by
  simp only[PyFlat.calls,tC]at h;rw[<-h];exact .nil
 |0,p::r,cs,h=>by simp[PyFlat.calls]at h
 |f+1,p::r,cs,h=>by
  simp only[PyFlat.calls]at h;cases e:PyFlat.call shape (p::r)with
  |none=>rw[e]at h;cases h
  |some y=>
   rw[e]at h;simp only at h;cases aq:PyFlat.calls shape f y.2 with
   |none=>rw[aq]at h;cases h
   |some I=>
    rw[aq]at h;simp only[tC]at h;rw[<-h];exact .cons (ago (c:=y.1) (t:=y.2) e) (Vw f y.2 I aq)
theorem zO.adQ{l:List Int}{cs:List (List (List Int))}(h:zO l cs):cs.map whole=cs:=by
 induction h with
 |nil=>rfl
 |cons ai _ eL=>rw[j6,ai.whole,eL]
theorem afk{l:List Int}(h:PyWqawaj.answers_asked l=true):∃cs,zO l cs/\(∀c∈cs,CzNeutral.asked1 c=true)/\cs.length<=60/\PyWqawaj.answers l=PyFlat.told (PyFlat.played CzNeutral.step CzNeutral.start cs):=by
 unfold PyWqawaj.answers_asked PyWqawaj.calls at h;cases e:PyFlat.calls shape l.length l with
 |none=>rw[e]at h;simp at h
 |some cs=>
  rw[e]at h;have C:=Vw _ _ _ e;simp only[C.adQ,PyFlat.atMost,CzNeutral.asked,jA,tB,zJ]at h;refine⟨cs,C,h.2.1.1,h.1,?_⟩;unfold PyWqawaj.answers PyWqawaj.calls;rw[e];simp only[C.adQ]
end Z
namespace Z
open Cz
abbrev eO:=Nat×Nat
abbrev Rows:=Nat->List eO
structure rm where
 kind:Nat
 jj:Nat
 bJ:Nat
 own:List eO
inductive iz where
 |s6 (kind:Nat) (own:List eO)
 |fn (kind:Nat) (own:List eO) (k:Nat) (body:iz)
 |fS (kind:Nat) (a b:iz)
 |cond (c a b:iz)
 |keep (a b:iz)
def iz.ii:iz->Nat->List rm
 |.s6 bW own,h=>[⟨bW,0,h,own⟩]
 |.fn bW own k b,h=>⟨bW,1,h,own⟩::b.ii k
 |.fS bW a b,h=>⟨bW,2,h,[]⟩::(a.ii h++b.ii h)
 |.cond c a b,h=>⟨8,3,h,[]⟩::(c.ii h++(a.ii h++b.ii h))
 |.keep a b,h=>⟨9,2,h,[]⟩::(a.ii h++b.ii h)
def iz.sO:iz->Prop
 |.s6 _ _=>True
 |.fn bW _ _ b=>bW<8/\b.sO
 |.fS bW a b=>bW<8/\a.sO/\b.sO
 |.cond c a b=>c.sO/\a.sO/\b.sO
 |.keep a b=>a.sO/\b.sO
structure oK where
 kind:Nat
 jj:Nat
 bJ:Nat
 done:Nat
 iT:Nat
def fM(R:Rows)(h:Nat)(l:List eO):Rows:=fun i=>if i=h then l else R i
theorem tg{R:Rows}{h:Nat}{l:List eO}:fM R h l h=l:=by simp[fM]
theorem kq{R:Rows}{h i:Nat}{l:List eO}(e:i≠h):fM R h l i=R i:=by simp[fM,e]
theorem KM{R:Rows}{h:Nat}:fM R h (R h)=R:=by
 funext i
 by_cases e:i=h<;>simp[fM,e]
def jo(kind done iT:Nat)(row:List eO):List eO:=
 if kind=8 then(if done=1 then row++[(8,0)]else if done=2 then(row++[(9,0)]).set iT (8,row.length+1)else row.set iT (9,row.length))
 else if kind=9 then row++[(if done=1 then 10 else 11,0)]
 else if done=2 then row++[(kind,0)]else row
def tU(kind iT:Nat)(row:List eO):Nat:=if kind=8 then row.length else iT
def mw:List oK->Rows->List oK×Rows
 |[],R=>([],R)
 |u::us,R=>if u.done+1=u.jj then mw us (fM R u.bJ (jo u.kind (u.done+1) u.iT (R u.bJ)))
  else(⟨u.kind,u.jj,u.bJ,u.done+1,tU u.kind u.iT (R u.bJ)⟩::us,fM R u.bJ (jo u.kind (u.done+1) u.iT (R u.bJ)))
def zk(S:List oK×Rows)(x:rm):List oK×Rows:=
 if 0<x.jj then(⟨x.kind,x.jj,x.bJ,0,0⟩::S.1,fM S.2 x.bJ (S.2 x.bJ++x.own))else mw S.1 (fM S.2 x.bJ (S.2 x.bJ++x.own))
def jt(l:List rm)(S:List oK×Rows):List oK×Rows:=l.foldl zk S
theorem AR{l r:List rm}{S}:jt (l++r) S=jt r (jt l S):=by simp[jt]
theorem MZ{x:rm}{r:List rm}{S}:jt (x::r) S=jt r (zk S x):=rfl
def kT:iz->Nat->Rows->Rows
 |.s6 _ own,h,R=>fM R h (R h++own)
 |.fn _ own k b,h,R=>kT b k (fM R h (R h++own))
 |.fS bW a b,h,R=>let Q:=kT b h (kT a h R)
  fM Q h (Q h++[(bW,0)])
 |.keep a b,h,R=>let P:=kT a h R
  let Q:=kT b h (fM P h (P h++[(10,0)]))
  fM Q h (Q h++[(11,0)])
 |.cond c a b,h,R=>let P:=kT c h R
  let rh:=kT a h (fM P h (P h++[(8,0)]))
  let Bw:=kT b h (fM rh h ((rh h++[(9,0)]).set (P h).length (8,(rh h).length+1)))
  fM Bw h ((Bw h).set (rh h).length (9,(Bw h).length))
theorem wy:∀(t:iz)(h:Nat)(U:List oK)(R:Rows),t.sO->jt (t.ii h) (U,R)=mw U (kT t h R)
 |.s6 bW own,h,U,R,_=>rfl
 |.fn bW own k b,h,U,R,g=>by
  have g1:bW≠8:=by have:=g.1;omega
  have g2:bW≠9:=by have:=g.1;omega
  rw[iz.ii,MZ];show jt (b.ii k) (⟨bW,1,h,0,0⟩::U,fM R h (R h++own))=_;rw[wy b k _ _ g.2,mw,bT z];show mw U (fM _ h (jo bW 1 0 _))=_;unfold jo;rw[bz g1,bz g2,bz (by decide),KM];rfl
 |.fS bW a b,h,U,R,g=>by
  have g1:bW≠8:=by have:=g.1;omega
  have g2:bW≠9:=by have:=g.1;omega
  rw[iz.ii,MZ,AR];show jt (b.ii h) (jt (a.ii h) (⟨bW,2,h,0,0⟩::U,fM R h (R h++[])))=_;rw[zI,KM,wy a h _ _ g.2.1,mw,bz (by dsimp only;omega)];show jt (b.ii h) (⟨bW,2,h,1,tU bW 0 _⟩::U,fM _ h (jo bW 1 0 _))=_;unfold jo tU;rw[bz g1,bz g1,bz g2,bz (by decide),KM,wy b h _ _ g.2.2,mw,bT z];show mw U (fM _ h (jo bW 2 0 _))=_;unfold jo;rw[bz g1,bz g2,bT z];rfl
 |.keep a b,h,U,R,g=>by
  rw[iz.ii,MZ,AR];show jt (b.ii h) (jt (a.ii h) (⟨9,2,h,0,0⟩::U,fM R h (R h++[])))=_;rw[zI,KM,wy a h _ _ g.1,mw,bz (by dsimp only;omega)];show jt (b.ii h) (⟨9,2,h,1,tU 9 0 _⟩::U,fM _ h (jo 9 1 0 _))=_;rw[wy b h _ _ g.2,mw,bT z];rfl
 |.cond c a b,h,U,R,g=>by
  rw[iz.ii,MZ,AR,AR];show jt (b.ii h) (jt (a.ii h) (jt (c.ii h) (⟨8,3,h,0,0⟩::U,fM R h (R h++[]))))=_;rw[zI,KM,wy c h _ _ g.1,mw,bz (by dsimp only;omega)];show jt (b.ii h) (jt (a.ii h) (⟨8,3,h,1,tU 8 0 _⟩::U,fM _ h (jo 8 1 0 _)))=_;rw[wy a h _ _ g.2.1,mw,bz (by dsimp only;omega)];show jt (b.ii h) (⟨8,3,h,2,tU 8 _ _⟩::U,fM _ h (jo 8 2 _ _))=_;rw[wy b h _ _ g.2.2,mw,bT z];rfl
def cE:iz->Nat->List eO
 |.s6 _ own,_=>own
 |.fn _ own _ _,_=>own
 |.fS bW a b,n=>cE a n++(cE b (n+(cE a n).length)++[(bW,0)])
 |.keep a b,n=>cE a n++((10,0)::(cE b (n+(cE a n).length+1)++[(11,0)]))
 |.cond c a b,n=>
  let x:=cE c n
  let y:=cE a (n+x.length+1)
  let I:=cE b (n+x.length+1+y.length+1)
  x++((8,n+x.length+1+y.length+1)::(y++((9,n+x.length+1+y.length+1+I.length)::I)))
def iz.num:iz->Nat->Nat->Prop
 |.s6 _ _,k,m=>m=k
 |.fn _ _ j b,k,m=>j=k/\b.num (k+1) m
 |.fS _ a b,k,m=>∃j,a.num k j/\b.num j m
 |.keep a b,k,m=>∃j,a.num k j/\b.num j m
 |.cond c a b,k,m=>∃i j,c.num k i/\a.num i j/\b.num j m
theorem mT:∀(t:iz)(k m:Nat),t.num k m->k<=m
 |.s6 _ _,k,m,h=>le_of_eq h.symm
 |.fn _ _ j b,k,m,h=>by have:=mT b _ _ h.2;omega
 |.fS _ a b,k,m,⟨j,ai,aj⟩=>i3 (mT a _ _ ai) (mT b _ _ aj)
 |.keep a b,k,m,⟨j,ai,aj⟩=>i3 (mT a _ _ ai) (mT b _ _ aj)
 |.cond c a b,k,m,⟨i,j,cP,ai,aj⟩=>i3 (mT c _ _ cP) (i3 (mT a _ _ ai) (mT b _ _ aj))
def iz.i9:iz->Rows->Prop
 |.s6 _ _,_=>True
 |.fn _ _ k b,R=>R k=cE b 0/\b.i9 R
 |.fS _ a b,R=>a.i9 R/\b.i9 R
 |.keep a b,R=>a.i9 R/\b.i9 R
 |.cond c a b,R=>c.i9 R/\a.i9 R/\b.i9 R
theorem sZ:∀(t:iz)(k m:Nat)(R Q:Rows),t.num k m->(∀i,k<=i->i<m->Q i=R i)->t.i9 R->t.i9 Q
 |.s6 _ _,_,_,_,_,_,_,_=>trivial
 |.fn _ _ j b,k,m,R,Q,n,e,h=>by
  obtain⟨rfl,n⟩:=n;have:=mT b _ _ n;exact⟨(e j (dW _) (by omega)).trans h.1,sZ b _ _ R Q n (fun i ai aj=>e i (by omega) aj) h.2⟩
 |.fS _ a b,k,m,R,Q,⟨j,ed,fc⟩,e,h=>by
  have fL:=mT a _ _ ed;have iJ:=mT b _ _ fc;exact⟨sZ a _ _ R Q ed (fun i ai aj=>e i ai (by omega)) h.1,sZ b _ _ R Q fc (fun i ai aj=>e i (by omega) aj) h.2⟩
 |.keep a b,k,m,R,Q,⟨j,ed,fc⟩,e,h=>by
  have fL:=mT a _ _ ed;have iJ:=mT b _ _ fc;exact⟨sZ a _ _ R Q ed (fun i ai aj=>e i ai (by omega)) h.1,sZ b _ _ R Q fc (fun i ai aj=>e i (by omega) aj) h.2⟩
 |.cond c a b,k,m,R,Q,⟨Ci,j,o5,ed,fc⟩,e,h=>by
  have zc:=mT c _ _ o5;have fL:=mT a _ _ ed;have iJ:=mT b _ _ fc;exact⟨sZ c _ _ R Q o5 (fun i ai aj=>e i ai (by omega)) h.1,sZ a _ _ R Q ed (fun i ai aj=>e i (by omega) (by omega)) h.2.1,sZ b _ _ R Q fc (fun i ai aj=>e i (by omega) aj) h.2.2⟩
structure Ug(t:iz)(h k m:Nat)(R Q:Rows):Prop where
 own:Q h=R h++cE t (R h).length
 nu:∀i,i≠h->(i<k\/m<=i)->Q i=R i
 i9:t.i9 Q
theorem ac4{l r:List eO}{x y:eO}:(l++x::r).set l.length y=l++y::r:=by
 rw[List.set_append_right _ _ (dW _),Dc];rfl
theorem vB:∀(t:iz)(h k m:Nat)(R:Rows),t.num k m->h<k->(∀i,k<=i->R i=[])->Ug t h k m R (kT t h R)
 |.s6 bW own,h,k,m,R,n,ee,e=>⟨tg,fun i aF _=>kq aF,trivial⟩
 |.fn bW own j b,h,k,m,R,n,ee,e=>by
  obtain⟨rfl,n⟩:=n;have l:=mT b _ _ n;have eL:=vB b j (j+1) m (fM R h (R h++own)) n (by omega) (fun i aF=>by rw[kq (by omega)];exact e i (by omega));have I:fM R h (R h++own) j=[]:=by rw[kq (by omega)];exact e j (dW _)
  refine⟨?_,fun i aF aT=>?_,?_,eL.i9⟩
  .show kT b j _ h=_;rw[eL.nu h (by omega) (by omega),tg];rfl
  .show kT b j _ i=_;rw[eL.nu i (by omega) (by omega),kq aF]
  .show kT b j _ j=_;rw[eL.own,I];rfl
 |.fS bW a b,h,k,m,R,⟨j,ed,fc⟩,ee,e=>by
  have fL:=mT a _ _ ed;have iJ:=mT b _ _ fc;have ej:=vB a h k j R ed ee e;have c6:=vB b h j m (kT a h R) fc (by omega) (fun i aF=>by rw[ej.nu i (by omega) (by omega)];exact e i (by omega));refine⟨?_,fun i aF aT=>?_,?_,?_⟩
  .show fM _ h _ h=_;rw[tg,c6.own,ej.own];simp[cE,Fe]
  .show fM _ h _ i=_;rw[kq aF,c6.nu i aF (by omega),ej.nu i aF (by omega)]
  .refine sZ a k j (kT a h R) _ ed (fun i ai aj=>?_) ej.i9;show fM _ h _ i=_;rw[kq (by omega),c6.nu i (by omega) (by omega)]
  .refine sZ b j m _ _ fc (fun i ai aj=>?_) c6.i9;show fM _ h _ i=_;rw[kq (by omega)]
 |.keep a b,h,k,m,R,⟨j,ed,fc⟩,ee,e=>by
  have fL:=mT a _ _ ed;have iJ:=mT b _ _ fc;have ej:=vB a h k j R ed ee e;have c6:=vB b h j m (fM (kT a h R) h (kT a h R h++[(10,0)])) fc (by omega) (fun i aF=>by rw[kq (by omega),ej.nu i (by omega) (by omega)];exact e i (by omega));refine⟨?_,fun i aF aT=>?_,?_,?_⟩
  .show fM _ h _ h=_;rw[tg,c6.own,tg,ej.own];simp[cE,Fe,oF]
  .show fM _ h _ i=_;rw[kq aF,c6.nu i aF (by omega),kq aF,ej.nu i aF (by omega)]
  .refine sZ a k j (kT a h R) _ ed (fun i ai aj=>?_) ej.i9;show fM _ h _ i=_;rw[kq (by omega),c6.nu i (by omega) (by omega),kq (by omega)]
  .refine sZ b j m _ _ fc (fun i ai aj=>?_) c6.i9;show fM _ h _ i=_;rw[kq (by omega)]
 |.cond c a b,h,k,m,R,⟨Ci,j,o5,ed,fc⟩,ee,e=>by
  have zc:=mT c _ _ o5;have fL:=mT a _ _ ed;have iJ:=mT b _ _ fc;have Ef:=vB c h k Ci R o5 ee e;have Ck:=vB a h Ci j (fM (kT c h R) h (kT c h R h++[(8,0)])) ed (by omega) (fun i aF=>by rw[kq (by omega),Ef.nu i (by omega) (by omega)];exact e i (by omega));generalize pK:kT c h R=P at Ef Ck;generalize ajN:kT a h (fM P h (P h++[(8,0)]))=rh at Ck;have Eg:=vB b h j m (fM rh h ((rh h++[(9,0)]).set (P h).length (8,(rh h).length+1))) fc (by omega) (fun i aF=>by
   rw[kq (by omega),Ck.nu i (by omega) (by omega),kq (by omega),Ef.nu i (by omega) (by omega)];exact e i (by omega))
  generalize ajO:kT b h (fM rh h ((rh h++[(9,0)]).set (P h).length (8,(rh h).length+1)))=Bw at Eg;have eq:kT (.cond c a b) h R=fM Bw h ((Bw h).set (rh h).length (9,(Bw h).length)):=by
   simp only[kT,pK,ajN,ajO]
  rw[eq];refine⟨?_,fun i aF aT=>?_,?_,?_,?_⟩
  .rw[tg];have ay:=Ck.own;rw[tg,g8]at ay;have aq:=Eg.own;rw[tg]at aq;rw[ay]at aq;have aU:((P h++[(8,0)]++cE a ((P h).length+[((8,0):eO)].length))++[(9,0)]).set (P h).length (8,(P h++[(8,0)]++cE a ((P h).length+[((8,0):eO)].length)).length+1)=
     P h++(8,(P h++[(8,0)]++cE a ((P h).length+[((8,0):eO)].length)).length+1)::(cE a ((P h).length+[((8,0):eO)].length)++[(9,0)]):=by
    rw[show((P h++[(8,0)]++cE a ((P h).length+[((8,0):eO)].length))++[(9,0)])=P h++(8,0)::(cE a ((P h).length+[((8,0):eO)].length)++[(9,0)]) by simp[Fe]];exact ac4
   rw[aU]at aq;have bD:∀(A I:List eO)(q:eO)(y:eO),((P h++q::(A++[(9,0)]))++I).set (P h++[(8,0)]++A).length y=P h++q::(A++y::I):=fun A I q y=>by
    have:(P h++q::(A++[(9,0)]))++I=(P h++q::A)++(9,0)::I:=by simp
    have as6:(P h++[(8,0)]++A).length=(P h++q::A).length:=by simp only[g8,c9,yh];omega
    rw[this,as6,ac4];simp
   rw[ay,aq,bD,Ef.own];simp[cE,oF,add_comm,Nat.add_left_comm]
  .rw[kq aF,Eg.nu i aF (by omega),kq aF,Ck.nu i aF (by omega),kq aF,Ef.nu i aF (by omega)]
  .refine sZ c k Ci _ _ o5 (fun i ai aj=>?_) Ef.i9;rw[kq (by omega),Eg.nu i (by omega) (by omega),kq (by omega),Ck.nu i (by omega) (by omega),kq (by omega)]
  .refine sZ a Ci j _ _ ed (fun i ai aj=>?_) Ck.i9;rw[kq (by omega),Eg.nu i (by omega) (by omega),kq (by omega)]
  .refine sZ b j m _ _ fc (fun i ai aj=>?_) Eg.i9;rw[kq (by omega)]
def eN:Term->Nat->Nat->iz
 |.num x,_,_=>.s6 0 [(0,x)]
 |.var v,n,_=>.s6 1 [(1,n -1 -v)]
 |.fn b,n,k=>.fn 2 [(2,k)] k (eN b (n+1) (k+1))
 |.fix b,n,k=>.fn 3 [(2,k)] k (eN b (n+2) (k+1))
 |.app f a,n,k=>.fS 4 (eN f n k) (eN a n (k+f.fns))
 |.add f a,n,k=>.fS 5 (eN f n k) (eN a n (k+f.fns))
 |.sub f a,n,k=>.fS 6 (eN f n k) (eN a n (k+f.fns))
 |.less f a,n,k=>.fS 7 (eN f n k) (eN a n (k+f.fns))
 |.cond c f a,n,k=>.cond (eN c n k) (eN f n (k+c.fns)) (eN a n (k+c.fns+f.fns))
 |.name a b,n,k=>.keep (eN a n k) (eN b (n+1) (k+a.fns))
theorem r4:∀(t:Term)(n k:Nat),(eN t n k).sO
 |.num _,_,_=>trivial
 |.var _,_,_=>trivial
 |.fn b,n,k=>⟨by decide,r4 b _ _⟩
 |.fix b,n,k=>⟨by decide,r4 b _ _⟩
 |.app f a,n,k=>⟨by decide,r4 f _ _,r4 a _ _⟩
 |.add f a,n,k=>⟨by decide,r4 f _ _,r4 a _ _⟩
 |.sub f a,n,k=>⟨by decide,r4 f _ _,r4 a _ _⟩
 |.less f a,n,k=>⟨by decide,r4 f _ _,r4 a _ _⟩
 |.cond c f a,n,k=>⟨r4 c _ _,r4 f _ _,r4 a _ _⟩
 |.name f a,n,k=>⟨r4 f _ _,r4 a _ _⟩
theorem r5:∀(t:Term)(n k:Nat),(eN t n k).num k (k+t.fns)
 |.num _,_,_=>rfl
 |.var _,_,_=>rfl
 |.fn b,n,k=>⟨z,by have:=r5 b (n+1) (k+1);rwa[show k+1+b.fns=k+(Term.fn b).fns by simp only[Term.fns];omega]at this⟩
 |.fix b,n,k=>⟨z,by have:=r5 b (n+2) (k+1);rwa[show k+1+b.fns=k+(Term.fix b).fns by simp only[Term.fns];omega]at this⟩
 |.app f a,n,k=>⟨k+f.fns,r5 f _ _,by rw[Term.fns,<-oF];exact r5 a _ _⟩
 |.add f a,n,k=>⟨k+f.fns,r5 f _ _,by rw[Term.fns,<-oF];exact r5 a _ _⟩
 |.sub f a,n,k=>⟨k+f.fns,r5 f _ _,by rw[Term.fns,<-oF];exact r5 a _ _⟩
 |.less f a,n,k=>⟨k+f.fns,r5 f _ _,by rw[Term.fns,<-oF];exact r5 a _ _⟩
 |.cond c f a,n,k=>⟨k+c.fns,k+c.fns+f.fns,r5 c _ _,r5 f _ _,by rw[Term.fns,<-oF,<-oF];exact r5 a _ _⟩
 |.name f a,n,k=>⟨k+f.fns,r5 f _ _,by rw[Term.fns,<-oF];exact r5 a _ _⟩
def zv(x:jO):List eO:=if x.kind=0 then[(0,x.value)]else if x.kind=1 then[(1,x.eZ -1 -x.value)]else if x.kind=2\/x.kind=3 then[(2,x.value)]else[]
def K3(x:jO):rm:=⟨x.kind,x.jj,x.bJ,zv x⟩
theorem rQ:∀(t:Term)(n h k:Nat),(cU t n h k).map K3=(eN t n k).ii h
 |.num _,_,_,_=>rfl
 |.var _,_,_,_=>rfl
 |.fn b,n,h,k=>by simp only[cU,eN,iz.ii,j6,rQ b];rfl
 |.fix b,n,h,k=>by simp only[cU,eN,iz.ii,j6,rQ b];rfl
 |.app f a,n,h,k=>by simp only[cU,eN,iz.ii,j6,gB,rQ f,rQ a];rfl
 |.add f a,n,h,k=>by simp only[cU,eN,iz.ii,j6,gB,rQ f,rQ a];rfl
 |.sub f a,n,h,k=>by simp only[cU,eN,iz.ii,j6,gB,rQ f,rQ a];rfl
 |.less f a,n,h,k=>by simp only[cU,eN,iz.ii,j6,gB,rQ f,rQ a];rfl
 |.cond c f a,n,h,k=>by simp only[cU,eN,iz.ii,j6,gB,rQ c,rQ f,rQ a];rfl
 |.name f a,n,h,k=>by simp only[cU,eN,iz.ii,j6,gB,rQ f,rQ a];rfl
def ue(tk n h:Nat)(y:Nat×Nat):Nat:=if y.1=2 then y.2 else if y.1=3 then tk else if y.1=1 then tk+1 else(if h=0 then 0 else tk+2)+n -1 -y.2
def eG:Exp->Nat->Nat->Nat->iz
 |.num x,_,_,_=>.s6 0 [(0,x)]
 |.simple s,tk,n,h=>.s6 (l5 s).1 [(1,ue tk n h (l5 s))]
 |.app f a,tk,n,h=>.fS 4 (eG f tk n h) (eG a tk n h)
 |.add f a,tk,n,h=>.fS 5 (eG f tk n h) (eG a tk n h)
 |.sub f a,tk,n,h=>.fS 6 (eG f tk n h) (eG a tk n h)
 |.less f a,tk,n,h=>.fS 7 (eG f tk n h) (eG a tk n h)
 |.cond c f a,tk,n,h=>.cond (eG c tk n h) (eG f tk n h) (eG a tk n h)
 |.keep a b,tk,n,h=>.keep (eG a tk n h) (eG b tk (n+1) h)
 |.make p l,tk,n,h=>.s6 11 (l.map (fun s=>(1,ue tk n h (l5 s)))++[(3,p+1)])
theorem tw:∀(t:Exp)(tk n h:Nat),(eG t tk n h).sO
 |.num _,_,_,_=>trivial
 |.simple _,_,_,_=>trivial
 |.make _ _,_,_,_=>trivial
 |.app f a,_,_,_=>⟨by decide,tw f _ _ _,tw a _ _ _⟩
 |.add f a,_,_,_=>⟨by decide,tw f _ _ _,tw a _ _ _⟩
 |.sub f a,_,_,_=>⟨by decide,tw f _ _ _,tw a _ _ _⟩
 |.less f a,_,_,_=>⟨by decide,tw f _ _ _,tw a _ _ _⟩
 |.cond c f a,_,_,_=>⟨tw c _ _ _,tw f _ _ _,tw a _ _ _⟩
 |.keep f a,_,_,_=>⟨tw f _ _ _,tw a _ _ _⟩
theorem rZ:∀(t:Exp)(tk n h k:Nat),(eG t tk n h).num k k
 |.num _,_,_,_,_=>rfl
 |.simple _,_,_,_,_=>rfl
 |.make _ _,_,_,_,_=>rfl
 |.app f a,_,_,_,k=>⟨k,rZ f _ _ _ k,rZ a _ _ _ k⟩
 |.add f a,_,_,_,k=>⟨k,rZ f _ _ _ k,rZ a _ _ _ k⟩
 |.sub f a,_,_,_,k=>⟨k,rZ f _ _ _ k,rZ a _ _ _ k⟩
 |.less f a,_,_,_,k=>⟨k,rZ f _ _ _ k,rZ a _ _ _ k⟩
 |.cond c f a,_,_,_,k=>⟨k,k,rZ c _ _ _ k,rZ f _ _ _ k,rZ a _ _ _ k⟩
 |.keep f a,_,_,_,k=>⟨k,rZ f _ _ _ k,rZ a _ _ _ k⟩
def vH(tk:Nat)(x:jl):List eO:=if x.kind=0 then[(0,x.value)]else if x.kind=11 then x.names.map (fun y=>(1,ue tk x.eZ x.bJ y))++[(3,x.value)]
 else if 4<=x.kind/\x.kind<=9 then[]else[(1,ue tk x.eZ x.bJ (x.kind,x.value))]
def C0(tk:Nat->Nat)(x:jl):rm:=⟨x.kind,x.jj,x.bJ,vH (tk x.bJ) x⟩
theorem s7(tk:Nat->Nat):∀(t:Exp)(n h:Nat),(fg t n h).map (C0 tk)=(eG t (tk h) n h).ii h
 |.num _,_,_=>rfl
 |.simple s,n,h=>by cases s<;>rfl
 |.make p l,n,h=>by simp only[fg,eG,iz.ii,j6,map_nil,C0,vH];simp[map_map]
 |.app f a,n,h=>by simp only[fg,eG,iz.ii,j6,gB,s7 tk f,s7 tk a];rfl
 |.add f a,n,h=>by simp only[fg,eG,iz.ii,j6,gB,s7 tk f,s7 tk a];rfl
 |.sub f a,n,h=>by simp only[fg,eG,iz.ii,j6,gB,s7 tk f,s7 tk a];rfl
 |.less f a,n,h=>by simp only[fg,eG,iz.ii,j6,gB,s7 tk f,s7 tk a];rfl
 |.cond c f a,n,h=>by simp only[fg,eG,iz.ii,j6,gB,s7 tk c,s7 tk f,s7 tk a];rfl
 |.keep f a,n,h=>by simp only[fg,eG,iz.ii,j6,gB,s7 tk f,s7 tk a];rfl
def xU(t:Term):Rows:=kT (eN t 0 1) 0 (fun _=>[])
theorem ap2(t:Term):jt ((cU t 0 0 1).map K3) ([],fun _=>[])=([],xU t):=by
 rw[rQ,wy _ _ _ _ (r4 t 0 1)];rfl
theorem abh(t:Term):Ug (eN t 0 1) 0 1 (1+t.fns) (fun _=>[]) (xU t):=vB _ 0 1 _ _ (r5 t 0 1) (by decide) (fun _ _=>rfl)
theorem ap4(t:Term):xU t 0=cE (eN t 0 1) 0:=(abh t).own
theorem ap3(t:Term):(eN t 0 1).i9 (xU t):=(abh t).i9
def A4(tk:Nat->Nat):List Proc->Nat->Rows->Rows
 |[],_,R=>R
 |q::l,h,R=>A4 tk l (h+1) (kT (eG q.body (tk h) 0 h) h R)
theorem abg(tk:Nat->Nat):∀(l:List Proc)(h:Nat)(R:Rows),jt ((ly l h).map (C0 tk)) ([],R)=([],A4 tk l h R)
 |[],_,_=>rfl
 |q::l,h,R=>by
  rw[ly,gB,AR,s7,wy _ _ _ _ (tw _ _ _ _)];exact abg tk l (h+1) _
theorem SP(tk:Nat->Nat):∀(l:List Proc)(h:Nat)(R:Rows),(∀i,h<=i->R i=[])->(∀i,i<h->A4 tk l h R i=R i)/\∀i q,l[i]?=some q->A4 tk l h R (h+i)=cE (eG q.body (tk (h+i)) 0 (h+i)) 0
 |[],h,R,e=>⟨fun _ _=>rfl,fun i q I=>by simp at I⟩
 |q::l,h,R,e=>by
  have d:=vB (eG q.body (tk h) 0 h) h (h+1) (h+1) R (rZ _ _ _ _ _) (by omega) (fun i aF=>e i (by omega));obtain⟨a,b⟩:=SP tk l (h+1) (kT (eG q.body (tk h) 0 h) h R) (fun i aF=>by rw[d.nu i (by omega) (by omega)];exact e i (by omega));refine⟨fun i aF=>?_,fun i x I=>?_⟩
  .show A4 tk l (h+1) _ i=_;rw[a i (by omega),d.nu i (by omega) (by omega)]
  .cases i with
   |zero=>
    simp at I;subst I;show A4 tk l (h+1) _ h=cE (eG q.body (tk h) 0 h) 0;rw[a h (by omega),d.own,e h (dW _)];rfl
   |succ i=>
    simp at I;have:=b i x I;show A4 tk l (h+1) _ (h+(i+1))=_;rwa[show h+(i+1)=h+1+i by omega]
def mG(c:Code)(i:Nat):Nat:=(0::c.procs.map (·.takes)).getD i 0
def zz(c:Code):Rows:=A4 (mG c) c.procs 1 (kT (eG c.main 0 0 0) 0 (fun _=>[]))
theorem apZ(c:Code):jt ((fg c.main 0 0++ly c.procs 1).map (C0 (mG c))) ([],fun _=>[])=([],zz c):=by
 rw[gB,AR,s7,wy _ _ _ _ (tw _ _ _ _)];exact abg (mG c) c.procs 1 _
theorem ap0(c:Code):zz c 0=cE (eG c.main 0 0 0) 0:=by
 have d:=vB (eG c.main 0 0 0) 0 1 1 (fun _=>[]) (rZ _ _ _ _ _) (by omega) (fun i aF=>rfl);rw[zz,(SP (mG c) c.procs 1 _ (fun i aF=>d.nu i (by omega) (by omega))).1 0 (by omega),d.own];rfl
theorem ap1(c:Code){p:Nat}{q:Proc}(h:c.procs[p]?=some q):zz c (p+1)=cE (eG q.body q.takes 0 (p+1)) 0:=by
 have d:=vB (eG c.main 0 0 0) 0 1 1 (fun _=>[]) (rZ _ _ _ _ _) (by omega) (fun i aF=>rfl);have e:=(SP (mG c) c.procs 1 _ (fun i aF=>d.nu i (by omega) (by omega))).2 p q h;have nF:mG c (1+p)=q.takes:=by
  unfold mG;rw[add_comm,List.getD_cons_succ,mZ,h8,h];rfl
 rw[nF]at e;rw[zz,add_comm p 1];exact e
structure gC where
 cE:List eO
 own:Nat
 cells:Nat
inductive eH where
 |num (x:Nat)
 |fn (b:Nat) (uN:List eH)
def eH.isFn:eH->Bool
 |.num _=>false
 |.fn _ _=>true
structure Fr where
 code:List eO
 uN:List eH
 cS:Nat
structure m4 where
 cS:Nat
 uN:List eH
 stack:List eH
 cells:Nat
inductive p6 where
 |val (v:eH) (calls cells:Nat)
 |kP (c:Nat)
inductive Ur where
 |go (L:m4)
 |kP (c:Nat)
def h9:Nat:=100000
def ua(bW x y:Nat):Nat:=if bW=5 then plus x y else if bW=6 then minus x y else Cz.less x y
inductive nV(aS:List gC):eO->m4->Ur->Prop
 |push {x cS kn c} {st:List eH}:st.length<h9->nV aS (0,x) ⟨cS,kn,st,c⟩ (.go ⟨cS+1,kn,.num x::st,c⟩)
 |vC {i v cS c} {kn st:List eH}:kn[i]?=some v->st.length<h9->nV aS (1,i) ⟨cS,kn,st,c⟩ (.go ⟨cS+1,kn,v::st,c⟩)
 |make {k b cS c} {kn st:List eH}:aS[k]?=some b->st.length<h9->c+b.cells<=8192->nV aS (2,k) ⟨cS,kn,st,c⟩ (.go ⟨cS+1,kn,.fn k kn::st,c+b.cells⟩)
 |Ro {k b cS c} {kn st:List eH}:aS[k]?=some b->st.length<h9->8192<c+b.cells->nV aS (2,k) ⟨cS,kn,st,c⟩ (.kP 5)
 |UU {k b cS c} {kn st vs:List eH}:aS[k]?=some b->b.cells=vs.length+1->st.length<h9->c+b.cells<=8192->nV aS (3,k) ⟨cS,kn,vs.reverse++st,c⟩ (.go ⟨cS+1,kn,.fn k vs::st,c+b.cells⟩)
 |UV {k b cS c} {kn st vs:List eH}:aS[k]?=some b->b.cells=vs.length+1->st.length<h9->8192<c+b.cells->nV aS (3,k) ⟨cS,kn,vs.reverse++st,c⟩ (.kP 5)
 |keep {v x cS c} {kn st:List eH}:kn.length<h9->nV aS (10,x) ⟨cS,kn,v::st,c⟩ (.go ⟨cS+1,kn++[v],st,c⟩)
 |drop {v x cS c} {kn st:List eH}:nV aS (11,x) ⟨cS,kn++[v],st,c⟩ (.go ⟨cS+1,kn,st,c⟩)
 |iT {x cS kn st c}:nV aS (9,x) ⟨cS,kn,st,c⟩ (.go ⟨x,kn,st,c⟩)
 |K4 {x y cS kn st c}:nV aS (8,x) ⟨cS,kn,.num y::st,c⟩ (.go ⟨if y=0 then x else cS+1,kn,st,c⟩)
 |TM {x b k cS kn st c}:nV aS (8,x) ⟨cS,kn,.fn b k::st,c⟩ (.kP 2)
 |LB {bW v x y cS c} {kn st:List eH}:5<=bW->bW<=7->y<WORD->st.length<h9->nV aS (bW,v) ⟨cS,kn,.num y::.num x::st,c⟩ (.go ⟨cS+1,kn,.num (ua bW x y)::st,c⟩)
 |FU {bW v cS c} {x y:eH} {kn st:List eH}:5<=bW->bW<=7->(x.isFn||y.isFn)=true->nV aS (bW,v) ⟨cS,kn,y::x::st,c⟩ (.kP 2)
def inside(o:Nat)(b:Nat)(kn:List eH)(x:eH):List eH:=kn++(if o=1 then[x]else[.fn b kn,x])
inductive iF(aS:List gC)(al:Nat):Nat->List eO->m4->List Fr->Nat->p6->Prop
 |lX {n code L L' cs k o} {s:eO}:code[L.cS]?=some s->s.1≠4->nV aS s L (.go L')->iF aS al n code L' cs k o->iF aS al (n+1) code L cs k o
 |jn {n code L cs k c} {s:eO}:code[L.cS]?=some s->s.1≠4->nV aS s L (.kP c)->iF aS al (n+1) code L cs k (.kP c)
 |call {n code cS kn x b st c cs k o v} {l:List eH} {av:gC}:code[cS]?=some (4,v)->k<al->cs.length<128->l.length<h9->aS[b]?=some av->iF aS al n av.cE ⟨0,inside av.own b l x,st,c⟩ (⟨code,kn,cS+1⟩::cs) (k+1) o->
   iF aS al (n+1) code ⟨cS,kn,x::.fn b l::st,c⟩ cs k o
 |DE {n code cS kn x y st c cs k v}:code[cS]?=some (4,v)->iF aS al (n+1) code ⟨cS,kn,x::.num y::st,c⟩ cs k (.kP 2)
 |Al {n code cS kn x b l st c cs v}:code[cS]?=some (4,v)->iF aS al (n+1) code ⟨cS,kn,x::.fn b l::st,c⟩ cs al (.kP 3)
 |DC {n code cS kn x b l st c cs k v}:code[cS]?=some (4,v)->k<al->cs.length=128->iF aS al (n+1) code ⟨cS,kn,x::.fn b l::st,c⟩ cs k (.kP 4)
 |ret {n code L cs k o} {f:Fr}:code.length<=L.cS->iF aS al n f.code ⟨f.cS,f.uN,L.stack,L.cells⟩ cs k o->iF aS al (n+1) code L (f::cs) k o
 |done {n code cS kn v st c k}:code.length<=cS->iF aS al (n+1) code ⟨cS,kn,v::st,c⟩ [] k (.val v k c)
def dR(aS:List gC)(al:Nat)(code:List eO)(L:m4)(cs:List Fr)(k:Nat)(o:p6):Prop:=∃n,iF aS al n code L cs k o
section
variable{aS:List gC}{al:Nat}{code:List eO}{cs:List Fr}{k:Nat}{o:p6}
theorem dR.lX{L L':m4}{s:eO}(ai:code[L.cS]?=some s)(aj:s.1≠4)(bN:nV aS s L (Ur.go L')):dR aS al code L' cs k o->dR aS al code L cs k o:=fun⟨n,h⟩=>⟨n+1,.lX ai aj bN h⟩
theorem dR.jn{L:m4}{s:eO}{c:Nat}(ai:code[L.cS]?=some s)(aj:s.1≠4)(bN:nV aS s L (.kP c)):dR aS al code L cs k (.kP c):=⟨1,.jn ai aj bN⟩
theorem dR.call{cS kn x b st c v}{l:List eH}{av:gC}(ai:code[cS]?=some (4,v))(aj:k<al)(bN:cs.length<128)(cP:l.length<h9)(ez:aS[b]?=some av):dR aS al av.cE ⟨0,inside av.own b l x,st,c⟩ (⟨code,kn,cS+1⟩::cs) (k+1) o->
  dR aS al code ⟨cS,kn,x::.fn b l::st,c⟩ cs k o:=fun⟨n,h⟩=>⟨n+1,.call ai aj bN cP ez h⟩
theorem dR.ret{L:m4}{f:Fr}(ai:code.length<=L.cS):dR aS al f.code ⟨f.cS,f.uN,L.stack,L.cells⟩ cs k o->dR aS al code L (f::cs) k o:=fun⟨n,h⟩=>⟨n+1,.ret ai h⟩
end
def lR(code:List eO)(p:Nat)(l:List eO):Prop:=∀i x,l[i]?=some x->code[p+i]?=some x
theorem lR.left{code p l r}(h:lR code p (l++r)):lR code p l:=fun i x e=>h i x (by rw[sd (gn.mp e).1];exact e)
theorem lR.right{code p l r}(h:lR code p (l++r)):lR code (p+l.length) r:=fun i x e=>by
 rw[oF];exact h _ x (by rw[q3 (le_add_right _ _),Nat.add_sub_cancel_left];exact e)
theorem lR.head{code p x r}(h:lR code p (x::r)):code[p]?=some x:=h 0 x z
theorem lR.tail{code p x r}(h:lR code p (x::r)):lR code (p+1) r:=fun i y e=>by
 have:=h (i+1) y (by simpa using e);rwa[show p+(i+1)=p+1+i by omega]at this
theorem lR.all(l:List eO):lR l 0 l:=fun i x e=>by rw[Nat.zero_add];exact e
def mU:Term->Prop
 |.num x=>x<WORD
 |.var _=>True
 |.fn b=>mU b
 |.fix b=>mU b
 |.app f a=>mU f/\mU a
 |.add f a=>mU f/\mU a
 |.sub f a=>mU f/\mU a
 |.less f a=>mU f/\mU a
 |.cond c f a=>mU c/\mU f/\mU a
 |.name f a=>mU f/\mU a
def nW(aS:List gC):Term->Nat->Nat->Prop
 |.num _,_,_=>True
 |.var _,_,_=>True
 |.fn b,n,k=>aS[k]?=some ⟨cE (eN b (n+1) (k+1)) 0,1,1+(Term.fn b).uses.length⟩/\nW aS b (n+1) (k+1)
 |.fix b,n,k=>aS[k]?=some ⟨cE (eN b (n+2) (k+1)) 0,2,1+(Term.fix b).uses.length⟩/\nW aS b (n+2) (k+1)
 |.app f a,n,k=>nW aS f n k/\nW aS a n (k+f.fns)
 |.add f a,n,k=>nW aS f n k/\nW aS a n (k+f.fns)
 |.sub f a,n,k=>nW aS f n k/\nW aS a n (k+f.fns)
 |.less f a,n,k=>nW aS f n k/\nW aS a n (k+f.fns)
 |.cond c f a,n,k=>nW aS c n k/\nW aS f n (k+c.fns)/\nW aS a n (k+c.fns+f.fns)
 |.name f a,n,k=>nW aS f n k/\nW aS a (n+1) (k+f.fns)
mutual
inductive pH(aS:List gC):Val->eH->Prop
 |num {x}:x<WORD->pH aS (.num x) (.num x)
 |fn {self body b c} {env:List Val} {kn:List eH} (o:Nat):o=(if self=true then 2 else 1)->aS[b]?=some ⟨cE (eN body (env.length+o) (b+1)) 0,o,c⟩->nW aS body (env.length+o) (b+1)->iw body (env.length+o)->mU body->env.length+o+2*cf body<=64->
   uz aS env kn.reverse->pH aS (.fn self body env) (.fn b kn)
inductive uz(aS:List gC):List Val->List eH->Prop
 |nil:uz aS [] []
 |cons {v bS l al}:pH aS v bS->uz aS l al->uz aS (v::l) (bS::al)
end
theorem uz.len{aS}:∀{l al},uz aS l al->l.length=al.length
 |_,_,.nil=>rfl
 |_,_,.cons _ t=>by rw[c9,c9,uz.len t]
theorem uz.get{aS}:∀{l al},uz aS l al->∀{i:Nat}{v:Val},l[i]?=some v->∃bS,al[i]?=some bS/\pH aS v bS
 |_,_,.nil,i,v,e=>by simp at e
 |_,_,.cons h t,0,v,e=>by simp at e;subst e;exact⟨_,z,h⟩
 |_,_,.cons h t,i+1,v,e=>by
  obtain⟨bS,aq,aj⟩:=uz.get t (i:=i) (by simpa using e);exact⟨bS,by simpa using aq,aj⟩
def Du{cL:Type}(T7:cL->eH->Prop)(aS:List gC)(al:Nat)(code:List eO)(cs:List Fr)(p q:Nat)(kn st:List eH)(m:Meter):Except Nat (cL×Meter)->Prop
 |.ok x=>∃bS,T7 x.1 bS/\x.2.calls<=m.calls/\∀o,dR aS al code ⟨q,kn,bS::st,x.2.cells⟩ cs (al -x.2.calls) o->dR aS al code ⟨p,kn,st,m.cells⟩ cs (al -m.calls) o
 |.error c=>dR aS al code ⟨p,kn,st,m.cells⟩ cs (al -m.calls) (.kP c)
theorem apk(x y:Nat):plus x y<WORD:=mod_lt _ (by decide)
theorem ang(x y:Nat):minus x y<WORD:=mod_lt _ (by decide)
theorem al4(x y:Nat):Cz.less x y<WORD:=by unfold Cz.less;split<;>decide
theorem aax(bW x y:Nat):ua bW x y<WORD:=by
 unfold ua;split
 .exact apk _ _
 .split
  .exact ang _ _
  .exact al4 _ _
theorem O7:∀t:Term,0<cf t
 |.num _=>one_pos
 |.var _=>one_pos
 |.fn _=>tD _
 |.fix _=>tD _
 |.app _ _=>tD _
 |.add _ _=>tD _
 |.sub _ _=>tD _
 |.less _ _=>tD _
 |.cond _ _ _=>tD _
 |.name _ _=>tD _
theorem R2{aS v bS}(h:pH aS v bS):(∃x,x<WORD/\v=.num x/\bS=.num x)\/(v.number=.error KIND/\bS.isFn=true):=by
 cases h with
 |num h=>exact .inl ⟨_,h,z,z⟩
 |fn=>exact .inr ⟨z,z⟩
theorem aq3{aS:List gC}{al:Nat}{code:List eO}{cs:List Fr}{q:Nat}{kn st:List eH}{m:Meter}{v w:Val}{bS jC:eH}{bW:Nat}(ai:5<=bW)(aj:bW<=7)(a6:pH aS v bS)(hw:pH aS w jC)(aB:code[q]?=some (bW,0))(aL:st.length<h9)
  {f:Nat->Nat->Nat}(bq:∀x y,f x y=ua bW x y):(match both v w m f with
   |.ok x=>∃sF,pH aS x.1 sF/\x.2=m/\∀o,dR aS al code ⟨q+1,kn,sF::st,m.cells⟩ cs (al -m.calls) o->dR aS al code ⟨q,kn,jC::bS::st,m.cells⟩ cs (al -m.calls) o
   |.error c=>dR aS al code ⟨q,kn,jC::bS::st,m.cells⟩ cs (al -m.calls) (.kP c)):=by
 have ez:bW≠4:=by omega
 rcases R2 a6 with⟨x,Y,rfl,rfl⟩|⟨ay,aq⟩
 .rcases R2 hw with⟨y,bu,rfl,rfl⟩|⟨ay,aq⟩
  .show ∃sF,_;refine⟨.num (ua bW x y),?_,z,fun o aT=>dR.lX aB ez (.LB ai aj bu aL) aT⟩;show pH aS (.num (f x y)) _;rw[bq];exact .num (aax _ _ _)
  .have:both (.num x) w m f=.error KIND:=by
    unfold both;rw[ay];rfl
   rw[this];exact dR.jn aB ez (.FU ai aj (by rw[aq];exact Bool.or_true _))
 .have:both v w m f=.error KIND:=by
   unfold both;rw[ay]
  rw[this];exact dR.jn aB ez (.FU ai aj (by rw[aq];exact Bool.true_or _))
theorem SK{cL:Type}{l:List cL}{x:cL}:(l++[x]).reverse=x::l.reverse:=by simp
section
variable{aS:List gC}{al:Nat}
structure yt(aS:List gC)(al g d:Nat)(env:List Val)(t:Term)(m:Meter)(k p:Nat)(code:List eO)(cs:List Fr)(kn st:List eH):Prop where
 ah:iw t env.length
 nm:mU t
 pP:nW aS t env.length k
 gY:uz aS env kn.reverse
 ar:env.length+2*cf t<=64
 ga:cf t+33*(129 -d)<=g
 dd:d<=128
 dm:cs.length=d
 aL:lR code p (cE (eN t env.length k) p)
 qq:st.length+cf t+40*(129 -d)<=h9
 ze:m.calls<=al
theorem yt.vP{g d env t m k p code cs kn st}(h:yt aS al g d env t m k p code cs kn st):st.length<h9:=by
 have:=h.qq;have:=O7 t;omega
theorem xX{bW:Nat}{a b:iz}{n:Nat}:cE (.fS bW a b) n=cE a n++(cE b (n+(cE a n).length)++[(bW,0)]):=rfl
theorem Tg{g d:Nat}{env:List Val}{a b:Term}{m:Meter}{k p:Nat}{code:List eO}{cs:List Fr}{kn st:List eH}{bW:Nat}{f:Nat->Nat->Nat}(ai:5<=bW)(aj:bW<=7)(bq:∀x y,f x y=ua bW x y)
  (eL:∀(d:Nat)(env:List Val)(t:Term)(m:Meter)(k p:Nat)(code:List eO)(cs:List Fr)(kn st:List eH),yt aS al g d env t m k p code cs kn st->Du (pH aS) aS al code cs p (p+(cE (eN t env.length k) p).length) kn st m (evalT g d env t m))
  (FG:yt aS al g d env a m k p code cs kn st)(rh:∀bS dB,dB.calls<=m.calls->yt aS al g d env b dB (k+a.fns) (p+(cE (eN a env.length k) p).length) code cs kn (bS::st))(aB:lR code p (cE (.fS bW (eN a env.length k) (eN b env.length (k+a.fns))) p)):
  Du (pH aS) aS al code cs p (p+(cE (.fS bW (eN a env.length k) (eN b env.length (k+a.fns))) p).length) kn st m (match evalT g d env a m with
   |.error e=>.error e
   |.ok r=>match evalT g d env b r.2 with
    |.error e=>.error e
    |.ok s=>both r.1 s.1 s.2 f):=by
 have ej:=eL d env a m k p code cs kn st FG;rcases ay:evalT g d env a m with e|⟨v,fz⟩
 .rw[ay]at ej;exact ej
 rw[ay]at ej;obtain⟨bS,a6,aM,k1⟩:=ej;have c6:=eL d env b fz _ _ code cs kn (bS::st) (rh bS fz aM);dsimp only;rcases aq:evalT g d env b fz with e|⟨w,gw⟩
 .rw[aq]at c6;exact k1 _ c6
 rw[aq]at c6;obtain⟨jC,hw,nk,k2⟩:=c6;dsimp only at*;rw[xX]at aB;have Y:code[p+(cE (eN a env.length k) p).length+(cE (eN b env.length (k+a.fns)) (p+(cE (eN a env.length k) p).length)).length]?=some (bW,0):=aB.right.right.head;have nq:=aq3 (al:=al) (cs:=cs) (kn:=kn) (m:=gw) ai aj a6 hw Y FG.vP bq;have nh:p+(cE (.fS bW (eN a env.length k) (eN b env.length (k+a.fns))) p).length=p+(cE (eN a env.length k) p).length+(cE (eN b env.length (k+a.fns)) (p+(cE (eN a env.length k) p).length)).length+1:=by
  rw[xX];simp only[g8,c9,yh];omega
 rw[nh];rcases bB:both v w gw f with e|⟨I,vD⟩
 .rw[bB]at nq;exact k1 _ (k2 _ nq)
 rw[bB]at nq;obtain⟨sF,bR,yV,k3⟩:=nq;dsimp only at bR yV k3;subst yV;exact⟨sF,bR,i3 nk aM,fun o aT=>k1 _ (k2 _ (k3 _ aT))⟩
theorem yt.sub{g d env t m k p code cs kn st t' dB fj lN}{qV:List eH}(P:yt aS al (g+1) d env t m k p code cs kn st)(ai:iw t' env.length)(aj:mU t')(bN:nW aS t' env.length fj)(ez:cf t'<cf t)(i7:lR code lN (cE (eN t' env.length fj) lN))(sR:qV.length<=st.length+1)(yM:dB.calls<=m.calls):
  yt aS al g d env t' dB fj lN code cs kn qV:=
 ⟨ai,aj,bN,P.gY,by have:=P.ar;omega,by have:=P.ga;omega,P.dd,P.dm,i7,by have:=P.qq;omega,i3 yM P.ze⟩
theorem uU:∀(g d:Nat)(env:List Val)(t:Term)(m:Meter)(k p:Nat)(code:List eO)(cs:List Fr)(kn st:List eH),yt aS al g d env t m k p code cs kn st->Du (pH aS) aS al code cs p (p+(cE (eN t env.length k) p).length) kn st m (evalT g d env t m)
 |0,d,env,t,m,k,p,code,cs,kn,st,P=>by have:=P.ga;have:=O7 t;omega
 |g+1,d,env,.num x,m,k,p,code,cs,kn,st,P=>⟨.num x,.num P.nm,dW _,fun o aT=>dR.lX P.aL.head (show 0≠4 by decide) (.push P.vP) aT⟩
 |g+1,d,env,.var v,m,k,p,code,cs,kn,st,P=>by
  have a6:v<env.length:=P.ah;obtain⟨bS,ay,aq⟩:=P.gY.get (gA a6);have bB:evalT (g+1) d env (.var v) m=.ok (env[v],m):=by simp only[evalT,gA a6]
  rw[bB];refine⟨bS,aq,dW _,fun o aT=>dR.lX P.aL.head (show 1≠4 by decide) (.vC ?_ P.vP) aT⟩;have aD:=P.gY.len;rw[tE]at aD;rw[List.getElem?_reverse (by omega)]at ay;rw[aD];exact ay
 |g+1,d,env,.fn b,m,k,p,code,cs,kn,st,P=>by
  have ae:=P.pP.1;simp only[evalT,Meter.make];by_cases aM:MOSTCELLS<m.cells+1+(Term.fn b).uses.length
  .rw[bT aM];exact dR.jn P.aL.head (show 2≠4 by decide) (.Ro ae P.vP (by show 8192<m.cells+(1+_);unfold MOSTCELLS at aM;omega))
  .rw[bz aM];refine⟨.fn k kn,.fn 1 rfl ae P.pP.2 P.ah P.nm (by have:=P.ar;simp only[cf]at this;omega) P.gY,dW _,fun o aT=>dR.lX P.aL.head (show 2≠4 by decide) (.make ae P.vP (by show m.cells+(1+_)<=8192;unfold MOSTCELLS at aM;omega)) ?_⟩;rw[<-oF];exact aT
 |g+1,d,env,.fix b,m,k,p,code,cs,kn,st,P=>by
  have ae:=P.pP.1;simp only[evalT,Meter.make];by_cases aM:MOSTCELLS<m.cells+1+(Term.fix b).uses.length
  .rw[bT aM];exact dR.jn P.aL.head (show 2≠4 by decide) (.Ro ae P.vP (by show 8192<m.cells+(1+_);unfold MOSTCELLS at aM;omega))
  .rw[bz aM];refine⟨.fn k kn,.fn 2 rfl ae P.pP.2 P.ah P.nm (by have:=P.ar;simp only[cf]at this;omega) P.gY,dW _,fun o aT=>dR.lX P.aL.head (show 2≠4 by decide) (.make ae P.vP (by show m.cells+(1+_)<=8192;unfold MOSTCELLS at aM;omega)) ?_⟩;rw[<-oF];exact aT
 |g+1,d,env,.add a b,m,k,p,code,cs,kn,st,P=>by
  have aB:=P.aL;have Y:=P.aL;rw[eN,xX]at Y;have m9:cf a<cf (.add a b):=by simp only[cf];omega
  have dK:cf b<cf (.add a b):=by simp only[cf];omega
  exact Tg (f:=plus) (by decide) (by decide) (fun x y=>rfl) (fun d env t m k p code cs kn st h=>uU g d env t m k p code cs kn st h) (P.sub P.ah.1 P.nm.1 P.pP.1 m9 Y.left (by simp) (dW _))
   (fun bS dB h=>P.sub P.ah.2 P.nm.2 P.pP.2 dK Y.right.left (by simp) h) aB
 |g+1,d,env,.sub a b,m,k,p,code,cs,kn,st,P=>by
  have aB:=P.aL;have Y:=P.aL;rw[eN,xX]at Y;have m9:cf a<cf (.sub a b):=by simp only[cf];omega
  have dK:cf b<cf (.sub a b):=by simp only[cf];omega
  exact Tg (f:=minus) (by decide) (by decide) (fun x y=>rfl) (fun d env t m k p code cs kn st h=>uU g d env t m k p code cs kn st h) (P.sub P.ah.1 P.nm.1 P.pP.1 m9 Y.left (by simp) (dW _))
   (fun bS dB h=>P.sub P.ah.2 P.nm.2 P.pP.2 dK Y.right.left (by simp) h) aB
 |g+1,d,env,.less a b,m,k,p,code,cs,kn,st,P=>by
  have aB:=P.aL;have Y:=P.aL;rw[eN,xX]at Y;have m9:cf a<cf (.less a b):=by simp only[cf];omega
  have dK:cf b<cf (.less a b):=by simp only[cf];omega
  exact Tg (f:=Cz.less) (by decide) (by decide) (fun x y=>rfl) (fun d env t m k p code cs kn st h=>uU g d env t m k p code cs kn st h) (P.sub P.ah.1 P.nm.1 P.pP.1 m9 Y.left (by simp) (dW _))
   (fun bS dB h=>P.sub P.ah.2 P.nm.2 P.pP.2 dK Y.right.left (by simp) h) aB
 |g+1,d,env,.cond c a b,m,k,p,code,cs,kn,st,P=>by
  have Y:=P.aL;simp only[eN,cE]at Y;have j0:cf c<cf (.cond c a b):=by simp only[cf];omega
  have m9:cf a<cf (.cond c a b):=by simp only[cf];omega
  have dK:cf b<cf (.cond c a b):=by simp only[cf];omega
  have ej:=uU g d env c m k p code cs kn st (P.sub P.ah.1 P.nm.1 P.pP.1 j0 Y.left (by simp) (dW _));simp only[evalT];simp only[eN,cE];generalize ie:cE (eN c env.length k) p=X at*;generalize nf:cE (eN a env.length (k+c.fns)) (p+X.length+1)=eK at*;generalize uF:cE (eN b env.length (k+c.fns+a.fns)) (p+X.length+1+eK.length+1)=BB at*;have nh:p+(X++((8,p+X.length+1+eK.length+1)::(eK++((9,p+X.length+1+eK.length+1+BB.length)::BB)))).length=p+X.length+1+eK.length+1+BB.length:=by
   simp only[g8,c9];omega
  rw[nh];rcases ay:evalT g d env c m with e|⟨v,fz⟩
  .rw[ay]at ej;exact ej
  rw[ay]at ej;obtain⟨bS,a6,aM,k1⟩:=ej;dsimp only at*;have gf:=Y.right.head;rcases R2 a6 with⟨x,xF,rfl,rfl⟩|⟨aW,bf⟩
  .simp only[Val.number];by_cases bR:x=0
   .rw[bT bR];have c6:=uU g d env b fz _ (p+X.length+1+eK.length+1) code cs kn st (P.sub P.ah.2.2 P.nm.2.2 P.pP.2.2 dK (by rw[uF];exact Y.right.tail.right.tail) (by simp) aM);rw[uF]at c6;have go:∀o,dR aS al code ⟨p+X.length+1+eK.length+1,kn,st,fz.cells⟩ cs (al -fz.calls) o->dR aS al code ⟨p,kn,st,m.cells⟩ cs (al -m.calls) o:=fun o aT=>k1 _ (dR.lX gf (show 8≠4 by decide) .K4 (by rw[bT bR];exact aT));rcases aq:evalT g d env b fz with e|⟨w,gw⟩
    .rw[aq]at c6;exact go _ c6
    .rw[aq]at c6;obtain⟨jC,hw,nk,k2⟩:=c6;exact⟨jC,hw,i3 nk aM,fun o aT=>go _ (k2 _ aT)⟩
   .rw[bz bR];have c6:=uU g d env a fz _ (p+X.length+1) code cs kn st (P.sub P.ah.2.1 P.nm.2.1 P.pP.2.1 m9 (by rw[nf];exact Y.right.tail.left) (by simp) aM);rw[nf]at c6;have go:∀o,dR aS al code ⟨p+X.length+1,kn,st,fz.cells⟩ cs (al -fz.calls) o->dR aS al code ⟨p,kn,st,m.cells⟩ cs (al -m.calls) o:=fun o aT=>k1 _ (dR.lX gf (show 8≠4 by decide) .K4 (by rw[bz bR];exact aT));have wk:=Y.right.tail.right.head;rcases aq:evalT g d env a fz with e|⟨w,gw⟩
    .rw[aq]at c6;exact go _ c6
    .rw[aq]at c6;obtain⟨jC,hw,nk,k2⟩:=c6;exact⟨jC,hw,i3 nk aM,fun o aT=>go _ (k2 _ (dR.lX wk (show 9≠4 by decide) .iT aT))⟩
  .rw[aW];cases bS with
   |num _=>cases bf
   |fn b l=>exact k1 _ (dR.jn gf (show 8≠4 by decide) .TM)
 |g+1,d,env,.name a b,m,k,p,code,cs,kn,st,P=>by
  have Y:=P.aL;simp only[eN,cE]at Y;have m9:cf a<cf (.name a b):=by simp only[cf];omega
  have dK:cf b<cf (.name a b):=by simp only[cf];omega
  have ej:=uU g d env a m k p code cs kn st (P.sub P.ah.1 P.nm.1 P.pP.1 m9 Y.left (by simp) (dW _));simp only[evalT];simp only[eN,cE];generalize ie:cE (eN a env.length k) p=X at*;generalize nf:cE (eN b (env.length+1) (k+a.fns)) (p+X.length+1)=eK at*;have nh:p+(X++((10,0)::(eK++[(11,0)]))).length=p+X.length+1+eK.length+1:=by
   simp only[g8,c9,yh];omega
  rw[nh];rcases ay:evalT g d env a m with e|⟨v,fz⟩
  .rw[ay]at ej;exact ej
  rw[ay]at ej;obtain⟨bS,a6,aM,k1⟩:=ej;dsimp only at*;have sQ:=Y.right.head;have P5:=Y.right.tail.right.head;have aJ:kn.length<h9:=by
   have:=P.gY.len;have:=P.ar;rw[tE]at*;unfold h9;omega
  have c6:=uU g d (v::env) b fz (k+a.fns) (p+X.length+1) code cs (kn++[bS]) st ⟨P.ah.2,P.nm.2,P.pP.2,by rw[SK];exact .cons a6 P.gY,by have:=P.ar;rw[c9];omega,by have:=P.ga;omega,P.dd,P.dm,by rw[c9,nf];exact Y.right.tail.left,by have:=P.qq;omega,i3 aM P.ze⟩;rw[c9,nf]at c6;have go:∀o,dR aS al code ⟨p+X.length+1,kn++[bS],st,fz.cells⟩ cs (al -fz.calls) o->dR aS al code ⟨p,kn,st,m.cells⟩ cs (al -m.calls) o:=fun o aT=>k1 _ (dR.lX sQ (show 10≠4 by decide) (.keep aJ) aT);rcases aq:evalT g d (v::env) b fz with e|⟨w,gw⟩
  .rw[aq]at c6;exact go _ c6
  .rw[aq]at c6;obtain⟨jC,hw,nk,k2⟩:=c6;exact⟨jC,hw,i3 nk aM,fun o aT=>go _ (k2 _ (dR.lX P5 (show 11≠4 by decide) .drop aT))⟩
 |g+1,d,env,.app f a,m,k,p,code,cs,kn,st,P=>by
  have Y:=P.aL;simp only[eN,cE]at Y;have O8:cf f<cf (.app f a):=by simp only[cf];omega
  have m9:cf a<cf (.app f a):=by simp only[cf];omega
  have ej:=uU g d env f m k p code cs kn st (P.sub P.ah.1 P.nm.1 P.pP.1 O8 Y.left (by simp) (dW _));simp only[evalT];simp only[eN,cE];generalize ie:cE (eN f env.length k) p=X at*;generalize nf:cE (eN a env.length (k+f.fns)) (p+X.length)=eK at*;have nh:p+(X++(eK++[(4,0)])).length=p+X.length+eK.length+1:=by
   simp only[g8,c9,yh];omega
  rw[nh];rcases ay:evalT g d env f m with e|⟨v,fz⟩
  .rw[ay]at ej;exact ej
  rw[ay]at ej;obtain⟨bS,a6,aM,k1⟩:=ej;dsimp only at*;have c6:=uU g d env a fz (k+f.fns) (p+X.length) code cs kn (bS::st) (P.sub P.ah.2 P.nm.2 P.pP.2 m9 (by rw[nf];exact Y.right.left) (by simp) aM);rw[nf]at c6;rcases aq:evalT g d env a fz with e|⟨w,gw⟩
  .rw[aq]at c6;exact k1 _ c6
  rw[aq]at c6;obtain⟨jC,hw,nk,k2⟩:=c6;dsimp only at*;have ez:=Y.right.right.head;have ze:=P.ze;cases a6 with
  |num a6=>exact k1 _ (k2 _ ⟨1,.DE ez⟩)
  |fn o tR ae aD rI wo JD qG=>
   rename_i self body b c e qi;dsimp only;unfold Meter.call;by_cases sS:gw.calls=0
   .rw[bT sS];refine k1 _ (k2 _ ?_);rw[sS];exact⟨1,.Al ez⟩
   rw[bz sS];have eY:al -gw.calls<al:=by omega
   by_cases aG:MOSTDEEP<=d
   .rw[bT aG];exact k1 _ (k2 _ ⟨1,.DC ez eY (by have:=P.dm;have:=P.dd;unfold MOSTDEEP at aG;omega)⟩)
   rw[bz aG];have gP:d<128:=by unfold MOSTDEEP at aG;omega
   dsimp only;have vp:al -(gw.calls -1)=al -gw.calls+1:=by omega
   have iq:uz aS (w::(if self=true then Val.fn self body e::e else e)) (inside o b qi jC).reverse/\(w::(if self=true then Val.fn self body e::e else e)).length=e.length+o:=by
    cases self with
    |true=>
     have tR:o=2:=tR;subst tR;refine⟨?_,z⟩;have:(inside 2 b qi jC).reverse=jC::.fn b qi::qi.reverse:=by unfold inside;rw[bz (by decide)];simp
     rw[this];exact .cons hw (.cons (.fn 2 rfl ae aD rI wo JD qG) qG)
    |false=>
     have tR:o=1:=tR;subst tR;refine⟨?_,z⟩;have:(inside 1 b qi jC).reverse=jC::qi.reverse:=by unfold inside;rw[bT z];simp
     rw[this];exact .cons hw qG
   obtain⟨iq,gv⟩:=iq;have ga:=P.ga;have eE:=O7 f;have yU:qi.length<h9:=by
    have:=qG.len;rw[tE]at this;unfold h9;omega
   have nq:=uU g (d+1) (w::(if self=true then Val.fn self body e::e else e)) body ⟨gw.calls -1,gw.cells⟩ (b+1) 0 (cE (eN body (e.length+o) (b+1)) 0) (⟨code,kn,p+X.length+eK.length+1⟩::cs) (inside o b qi jC) st
    ⟨by rw[gv];exact rI,wo,by rw[gv];exact aD,iq,by rw[gv];exact JD,by omega,gP,by rw[c9,P.dm],by rw[gv];exact lR.all _,by have:=P.qq;omega,by show gw.calls -1<=al;omega⟩
   rw[gv]at nq;have go:∀fm,dR aS al (cE (eN body (e.length+o) (b+1)) 0) ⟨0,inside o b qi jC,st,gw.cells⟩ (⟨code,kn,p+X.length+eK.length+1⟩::cs) (al -(gw.calls -1)) fm->dR aS al code ⟨p,kn,st,m.cells⟩ cs (al -m.calls) fm:=fun fm aT=>k1 _ (k2 _ (dR.call (av:=⟨cE (eN body (e.length+o) (b+1)) 0,o,c⟩) ez eY (by have:=P.dm;omega) yU ae (by rw[vp]at aT;exact aT)));rcases bB:evalT g (d+1) (w::(if self=true then Val.fn self body e::e else e)) body ⟨gw.calls -1,gw.cells⟩with e|⟨I,vD⟩
   .rw[bB]at nq;exact go _ nq
   .rw[bB]at nq;obtain⟨sF,bR,yV,k3⟩:=nq;dsimp only at bR yV k3;refine⟨sF,bR,by dsimp only;omega,fun fm aT=>go _ (k3 _ (dR.ret (by dsimp only;omega) aT))⟩
end
def eT:Exp->Nat
 |.num _=>1
 |.simple _=>1
 |.app f a=>max (eT f) (eT a)+1
 |.add f a=>max (eT f) (eT a)+1
 |.sub f a=>max (eT f) (eT a)+1
 |.less f a=>max (eT f) (eT a)+1
 |.cond c f a=>max (eT c) (max (eT f) (eT a))+1
 |.keep a b=>max (eT a) (eT b)+1
 |.make _ _=>1
theorem O6:∀t:Exp,0<eT t
 |.num _=>one_pos
 |.simple _=>one_pos
 |.make _ _=>one_pos
 |.app _ _=>tD _
 |.add _ _=>tD _
 |.sub _ _=>tD _
 |.less _ _=>tD _
 |.cond _ _ _=>tD _
 |.keep _ _=>tD _
def o6:Exp->Prop
 |.num x=>x<WORD
 |.simple _=>True
 |.make _ _=>True
 |.app f a=>o6 f/\o6 a
 |.add f a=>o6 f/\o6 a
 |.sub f a=>o6 f/\o6 a
 |.less f a=>o6 f/\o6 a
 |.cond c f a=>o6 c/\o6 f/\o6 a
 |.keep f a=>o6 f/\o6 a
mutual
inductive mo(c:Code):CVal->eH->Prop
 |num {x}:x<WORD->mo c (.num x) (.num x)
 |fn {p q} {l:List CVal} {al:List eH}:c.procs[p]?=some q->q.takes=l.length->sf c l al->mo c (.fn p l) (.fn (p+1) al)
inductive sf(c:Code):List CVal->List eH->Prop
 |nil:sf c [] []
 |cons {v bS l al}:mo c v bS->sf c l al->sf c (v::l) (bS::al)
end
theorem sf.len{c}:∀{l al},sf c l al->l.length=al.length
 |_,_,.nil=>rfl
 |_,_,.cons _ t=>by rw[c9,c9,sf.len t]
theorem sf.get{c}:∀{l al},sf c l al->∀{i:Nat}{v:CVal},l[i]?=some v->∃bS,al[i]?=some bS/\mo c v bS
 |_,_,.nil,i,v,e=>by simp at e
 |_,_,.cons h t,0,v,e=>by simp at e;subst e;exact⟨_,z,h⟩
 |_,_,.cons h t,i+1,v,e=>by
  obtain⟨bS,aq,aj⟩:=sf.get t (i:=i) (by simpa using e);exact⟨bS,by simpa using aq,aj⟩
theorem R1{c v bS}(h:mo c v bS):(∃x,x<WORD/\v=.num x/\bS=.num x)\/(v.number=.error KIND/\bS.isFn=true):=by
 cases h with
 |num h=>exact .inl ⟨_,h,z,z⟩
 |fn=>exact .inr ⟨z,z⟩
inductive wc(c:Code):Place->Nat->Nat->List eH->Prop
 |main {cN:List eH} {kept:List CVal} {tk:Nat}:sf c kept cN.reverse->wc c ⟨none,none,[],kept⟩ tk 0 cN
 |EG {s a:CVal} {mJ vj:eH} {l9 cN:List eH} {taken kept:List CVal} {tk h:Nat}:h≠0->mo c s mJ->mo c a vj->sf c taken l9->taken.length=tk->sf c kept cN.reverse->wc c ⟨some s,some a,taken,kept⟩ tk h (l9++([mJ,vj]++cN))
theorem YN{c}{kept:List CVal}{cN:List eH}(h:sf c kept cN.reverse){k:Nat}(aJ:k<kept.length):∃bS,cN[kept.length -1 -k]?=some bS/\mo c kept[k] bS:=by
 obtain⟨bS,ay,aq⟩:=h.get (gA aJ);have aD:=h.len;rw[tE]at aD;rw[List.getElem?_reverse (by omega)]at ay;exact⟨bS,by rw[aD];exact ay,aq⟩
theorem wc.find{c w tk h kn}(P:wc c w tk h kn):∀{s:Simple},Simple.fine (decide (0<h)) tk w.kept.length s=true->(h=0->tk=0)->∃v bS,w.find s=some v/\kn[ue tk w.kept.length h (l5 s)]?=some bS/\mo c v bS:=by
 intro s bq cP;cases P with
 |main aJ=>
  have:=cP z;subst this;cases s with
  |arg=>simp[Simple.fine]at bq
  |self=>simp[Simple.fine]at bq
  |took k=>simp[Simple.fine]at bq
  |kept k=>
   rename_i kept;have bq:k<kept.length:=by simpa[Simple.fine]using bq
   obtain⟨bS,ay,aq⟩:=YN aJ bq;refine⟨_,bS,gA bq,?_,aq⟩;show _[ue 0 _ 0 (10,k)]?=_;unfold ue;simp only[bz (show ¬(10:Nat)=2 by decide),bz (show ¬(10:Nat)=3 by decide),bz (show ¬(10:Nat)=1 by decide),if_true,Nat.zero_add];exact ay
 |EG ee aL cC bO aD aJ=>
  rename_i adk a mJ vj l9 cN taken kept;have bw:=bO.len;cases s with
  |arg=>
   refine⟨a,vj,z,?_,cC⟩;show(l9++([mJ,vj]++cN))[tk+1]?=_;rw[q3 (by omega),show tk+1 -l9.length=1 by omega];rfl
  |self=>
   refine⟨adk,mJ,z,?_,aL⟩;show(l9++([mJ,vj]++cN))[tk]?=_;rw[q3 (by omega),show tk -l9.length=0 by omega];rfl
  |took k=>
   have bq:k<tk:=by simpa[Simple.fine]using bq
   obtain⟨bS,ay,aq⟩:=bO.get (gA (show k<taken.length by omega));refine⟨_,bS,gA (show k<taken.length by omega),?_,aq⟩;show(l9++([mJ,vj]++cN))[k]?=_;rw[sd (by omega)];exact ay
  |kept k=>
   have bq:k<kept.length:=by simpa[Simple.fine]using bq
   obtain⟨bS,ay,aq⟩:=YN aJ bq;refine⟨_,bS,gA bq,?_,aq⟩;show(l9++([mJ,vj]++cN))[ue tk kept.length h (10,k)]?=_;unfold ue;simp only[bz (show ¬(10:Nat)=2 by decide),bz (show ¬(10:Nat)=3 by decide),bz (show ¬(10:Nat)=1 by decide),bz ee];rw[q3 (by omega),q3 (by simp;omega),show tk+2+kept.length -1 -k -l9.length -[mJ,vj].length=kept.length -1 -k by simp;omega];exact ay
theorem wc.keep{c w tk h kn v bS}(P:wc c w tk h kn)(a6:mo c v bS):wc c {w with kept:=v::w.kept} tk h (kn++[bS]):=by
 cases P with
 |main aJ=>exact .main (by rw[SK];exact .cons a6 aJ)
 |EG ee aL cC bO aD aJ=>
  rename_i adk a mJ vj l9 cN taken kept;have:l9++([mJ,vj]++cN)++[bS]=l9++([mJ,vj]++(cN++[bS])):=by simp
  rw[this];exact .EG ee aL cC bO aD (by rw[SK];exact .cons a6 aJ)
theorem wc.len{c w tk h kn}(P:wc c w tk h kn):kn.length<=tk+2+w.kept.length:=by
 cases P with
 |main aJ=>have:=aJ.len;rw[tE]at this;dsimp only;omega
 |EG ee aL cC bO aD aJ=>
  have ai:=aJ.len;have aj:=bO.len;rw[tE]at ai;simp only[g8,c9,yh];omega
theorem aq2{c:Code}{aS:List gC}{al:Nat}{code:List eO}{cs:List Fr}{q:Nat}{kn st:List eH}{m:Meter}{v w:CVal}{bS jC:eH}{bW:Nat}(ai:5<=bW)(aj:bW<=7)(a6:mo c v bS)(hw:mo c w jC)(aB:code[q]?=some (bW,0))(aL:st.length<h9)
  {f:Nat->Nat->Nat}(bq:∀x y,f x y=ua bW x y):(match bothC v w m f with
   |.ok x=>∃sF,mo c x.1 sF/\x.2=m/\∀o,dR aS al code ⟨q+1,kn,sF::st,m.cells⟩ cs (al -m.calls) o->dR aS al code ⟨q,kn,jC::bS::st,m.cells⟩ cs (al -m.calls) o
   |.error e=>dR aS al code ⟨q,kn,jC::bS::st,m.cells⟩ cs (al -m.calls) (.kP e)):=by
 have ez:bW≠4:=by omega
 rcases R1 a6 with⟨x,Y,rfl,rfl⟩|⟨ay,aq⟩
 .rcases R1 hw with⟨y,bu,rfl,rfl⟩|⟨ay,aq⟩
  .show ∃sF,_;refine⟨.num (ua bW x y),?_,z,fun o aT=>dR.lX aB ez (.LB ai aj bu aL) aT⟩;show mo c (.num (f x y)) _;rw[bq];exact .num (aax _ _ _)
  .have:bothC (.num x) w m f=.error KIND:=by
    unfold bothC;rw[ay];rfl
   rw[this];exact dR.jn aB ez (.FU ai aj (by rw[aq];exact Bool.or_true _))
 .have:bothC v w m f=.error KIND:=by
   unfold bothC;rw[ay]
  rw[this];exact dR.jn aB ez (.FU ai aj (by rw[aq];exact Bool.true_or _))
structure Lr(c:Code)(aS:List gC):Prop where
 m7:∀(p:Nat)(q:Proc),c.procs[p]?=some q->aS[p+1]?=some ⟨cE (eG q.body q.takes 0 (p+1)) 0,2,1+q.takes⟩
 tk:∀(p:Nat)(q:Proc),c.procs[p]?=some q->q.takes<=64/\eu true q.takes 0 q.body=true/\fh c.procs q.body=true/\o6 q.body/\eT q.body<=64
section
variable{c:Code}{aS:List gC}{al:Nat}
structure yu(c:Code)(aS:List gC)(al g d:Nat)(w:Place)(t:Exp)(m:Meter)(tk h p:Nat)(code:List eO)(cs:List Fr)(kn st:List eH):Prop where
 fn:eu (decide (0<h)) tk w.kept.length t=true
 cM:fh c.procs t=true
 nm:o6 t
 pl:wc c w tk h kn
 qW:h=0->tk=0
 bw:tk<=64
 ar:w.kept.length+eT t<=64
 ga:eT t+65*(129 -d)<=g
 dd:d<=128
 dm:cs.length=d
 aL:lR code p (cE (eG t tk w.kept.length h) p)
 qq:st.length+eT t+65+140*(129 -d)<=h9
 ze:m.calls<=al
theorem yu.vP{g d w t m tk h p code cs kn st}(P:yu c aS al g d w t m tk h p code cs kn st):st.length+65<h9:=by
 have:=P.qq;have:=O6 t;omega
theorem yu.sub{g d w t m tk h p code cs kn st t' dB lN}{qV:List eH}(P:yu c aS al (g+1) d w t m tk h p code cs kn st)(ai:eu (decide (0<h)) tk w.kept.length t'=true)(aj:o6 t')(bN:fh c.procs t'=true)(ez:eT t'<eT t)(i7:lR code lN (cE (eG t' tk w.kept.length h) lN))(sR:qV.length<=st.length+1)(yM:dB.calls<=m.calls):
  yu c aS al g d w t' dB tk h lN code cs kn qV:=
 ⟨ai,bN,aj,P.pl,P.qW,P.bw,by have:=P.ar;omega,by have:=P.ga;omega,P.dd,P.dm,i7,by have:=P.qq;omega,i3 yM P.ze⟩
theorem Tf{g d:Nat}{w:Place}{a b:Exp}{m:Meter}{tk h p:Nat}{code:List eO}{cs:List Fr}{kn st:List eH}{bW:Nat}{f:Nat->Nat->Nat}(ai:5<=bW)(aj:bW<=7)(bq:∀x y,f x y=ua bW x y)
  (eL:∀(d:Nat)(w:Place)(t:Exp)(m:Meter)(tk h p:Nat)(code:List eO)(cs:List Fr)(kn st:List eH),yu c aS al g d w t m tk h p code cs kn st->Du (mo c) aS al code cs p (p+(cE (eG t tk w.kept.length h) p).length) kn st m (evalC c g d w t m))
  (FG:yu c aS al g d w a m tk h p code cs kn st)(rh:∀bS dB,dB.calls<=m.calls->yu c aS al g d w b dB tk h (p+(cE (eG a tk w.kept.length h) p).length) code cs kn (bS::st))(aB:lR code p (cE (.fS bW (eG a tk w.kept.length h) (eG b tk w.kept.length h)) p)):
  Du (mo c) aS al code cs p (p+(cE (.fS bW (eG a tk w.kept.length h) (eG b tk w.kept.length h)) p).length) kn st m (match evalC c g d w a m with
   |.error e=>.error e
   |.ok r=>match evalC c g d w b r.2 with
    |.error e=>.error e
    |.ok s=>bothC r.1 s.1 s.2 f):=by
 have ej:=eL d w a m tk h p code cs kn st FG;rcases ay:evalC c g d w a m with e|⟨v,fz⟩
 .rw[ay]at ej;exact ej
 rw[ay]at ej;obtain⟨bS,a6,aM,k1⟩:=ej;have c6:=eL d w b fz tk h _ code cs kn (bS::st) (rh bS fz aM);dsimp only;rcases aq:evalC c g d w b fz with e|⟨zF,gw⟩
 .rw[aq]at c6;exact k1 _ c6
 rw[aq]at c6;obtain⟨jC,hw,nk,k2⟩:=c6;dsimp only at*;rw[xX]at aB;have Y:code[p+(cE (eG a tk w.kept.length h) p).length+(cE (eG b tk w.kept.length h) (p+(cE (eG a tk w.kept.length h) p).length)).length]?=some (bW,0):=aB.right.right.head;have nq:=aq2 (aS:=aS) (al:=al) (cs:=cs) (kn:=kn) (m:=gw) ai aj a6 hw Y (by have:=FG.vP;omega:st.length<h9) bq;have nh:p+(cE (.fS bW (eG a tk w.kept.length h) (eG b tk w.kept.length h)) p).length=p+(cE (eG a tk w.kept.length h) p).length+(cE (eG b tk w.kept.length h) (p+(cE (eG a tk w.kept.length h) p).length)).length+1:=by
  rw[xX];simp only[g8,c9,yh];omega
 rw[nh];rcases bB:bothC v zF gw f with e|⟨I,vD⟩
 .rw[bB]at nq;exact k1 _ (k2 _ nq)
 rw[bB]at nq;obtain⟨sF,bR,yV,k3⟩:=nq;dsimp only at bR yV k3;subst yV;exact⟨sF,bR,i3 nk aM,fun o aT=>k1 _ (k2 _ (k3 _ aT))⟩
theorem ac6{code:List eO}{cs:List Fr}{kn:List eH}{w:Place}{tk h n k:Nat}{ce:Nat}(aN:wc c w tk h kn)(bO:h=0->tk=0)(br:n=w.kept.length):∀(l:List Simple)(p:Nat)(st:List eH),(l.all fun s=>Simple.fine (decide (0<h)) tk n s)=true->lR code p (l.map fun s=>(1,ue tk n h (l5 s)))->st.length+l.length<=h9->
  ∃sE,sf c (l.filterMap w.find) sE/\sE.length=l.length/\(l.filterMap w.find).length=l.length/\∀o,dR aS al code ⟨p+l.length,kn,sE.reverse++st,ce⟩ cs k o->dR aS al code ⟨p,kn,st,ce⟩ cs k o
 |[],p,st,_,_,_=>⟨[],.nil,z,z,fun o aT=>aT⟩
 |s::l,p,st,bq,aL,bR=>by
  simp only[all_cons,jA]at bq;subst br;rw[c9]at bR;obtain⟨v,bS,ay,aq,bB⟩:=aN.find bq.1 bO;obtain⟨sE,fE,gQ,uS,Nm⟩:=ac6 aN bO z l (p+1) (bS::st) bq.2 aL.tail (by rw[c9];omega);refine⟨bS::sE,?_,by rw[c9,c9,gQ],?_,fun o aT=>dR.lX (L':=⟨p+1,kn,bS::st,ce⟩) aL.head (show 1≠4 by decide) (.vC aq (by omega)) (Nm o ?_)⟩
  .rw[List.filterMap_cons_some ay];exact .cons bB fE
  .rw[List.filterMap_cons_some ay,c9,c9,uS]
  .have:(bS::sE).reverse++st=sE.reverse++bS::st:=by simp
   rw[this,c9,show p+(l.length+1)=p+1+l.length by omega]at aT;exact aT
theorem uT(R:Lr c aS):∀(g d:Nat)(w:Place)(t:Exp)(m:Meter)(tk h p:Nat)(code:List eO)(cs:List Fr)(kn st:List eH),yu c aS al g d w t m tk h p code cs kn st->Du (mo c) aS al code cs p (p+(cE (eG t tk w.kept.length h) p).length) kn st m (evalC c g d w t m)
 |0,d,w,t,m,tk,h,p,code,cs,kn,st,P=>by have:=P.ga;have:=O6 t;omega
 |g+1,d,w,.num x,m,tk,h,p,code,cs,kn,st,P=>⟨.num x,.num P.nm,dW _,fun o aT=>dR.lX P.aL.head (show 0≠4 by decide) (.push (by have:=P.vP;omega)) aT⟩
 |g+1,d,w,.simple s,m,tk,h,p,code,cs,kn,st,P=>by
  obtain⟨v,bS,ay,aq,bB⟩:=P.pl.find (s:=s) P.fn P.qW;simp only[evalC,ay];exact⟨bS,bB,dW _,fun o aT=>dR.lX P.aL.head (show 1≠4 by decide) (.vC aq (by have:=P.vP;omega)) aT⟩
 |g+1,d,w,.make q l,m,tk,h,p,code,cs,kn,st,P=>by
  have aL:=P.aL;simp only[eG,cE]at aL;have vv:=P.cM;simp only[fh]at vv;rcases eq:c.procs[q]? with _|fC
  .rw[eq]at vv;cases vv
  rw[eq]at vv;have bO:fC.takes=l.length:=by simpa using vv
  have my:=(R.tk q fC eq).1;have ae:=R.m7 q fC eq;have aU:=P.vP;obtain⟨sE,fE,gQ,uS,Nm⟩:=ac6 (al:=al) (cs:=cs) (k:=al -m.calls) (ce:=m.cells) (aS:=aS) P.pl P.qW z l p st P.fn aL.left (by omega);have bN:=aL.right.head;rw[cA]at bN;simp only[evalC,Meter.make];by_cases aM:MOSTCELLS<m.cells+1+l.length
  .rw[bT aM];exact Nm _ (dR.jn bN (show 3≠4 by decide) (.UV ae (by show 1+fC.takes=_;omega) (by omega) (by show 8192<m.cells+(1+fC.takes);unfold MOSTCELLS at aM;omega)))
  .rw[bz aM];refine⟨.fn (q+1) sE,.fn eq (by rw[uS,bO]) fE,dW _,fun o aT=>Nm _ (dR.lX bN (show 3≠4 by decide) (.UU ae (by show 1+fC.takes=_;omega) (by omega) (by show m.cells+(1+fC.takes)<=8192;unfold MOSTCELLS at aM;omega)) ?_)⟩;simp only[eG,cE,g8,cA,c9,yh]at aT;show dR aS al code ⟨p+l.length+1,kn,.fn (q+1) sE::st,m.cells+(1+fC.takes)⟩ cs (al -m.calls) o;rw[bO,<-oF];exact aT
 |g+1,d,w,.add a b,m,tk,h,p,code,cs,kn,st,P=>by
  have aB:=P.aL;have Y:=P.aL;rw[eG,xX]at Y;have f1:=P.fn;have f2:=P.cM;simp only[eu,fh,jA]at f1 f2;have m9:eT a<eT (.add a b):=by simp only[eT];omega
  have dK:eT b<eT (.add a b):=by simp only[eT];omega
  exact Tf (f:=plus) (by decide) (by decide) (fun x y=>rfl) (fun d w t m tk h p code cs kn st H=>uT R g d w t m tk h p code cs kn st H) (P.sub f1.1 P.nm.1 f2.1 m9 Y.left (by simp) (dW _))
   (fun bS dB H=>P.sub f1.2 P.nm.2 f2.2 dK Y.right.left (by simp) H) aB
 |g+1,d,w,.sub a b,m,tk,h,p,code,cs,kn,st,P=>by
  have aB:=P.aL;have Y:=P.aL;rw[eG,xX]at Y;have f1:=P.fn;have f2:=P.cM;simp only[eu,fh,jA]at f1 f2;have m9:eT a<eT (.sub a b):=by simp only[eT];omega
  have dK:eT b<eT (.sub a b):=by simp only[eT];omega
  exact Tf (f:=minus) (by decide) (by decide) (fun x y=>rfl) (fun d w t m tk h p code cs kn st H=>uT R g d w t m tk h p code cs kn st H) (P.sub f1.1 P.nm.1 f2.1 m9 Y.left (by simp) (dW _))
   (fun bS dB H=>P.sub f1.2 P.nm.2 f2.2 dK Y.right.left (by simp) H) aB
 |g+1,d,w,.less a b,m,tk,h,p,code,cs,kn,st,P=>by
  have aB:=P.aL;have Y:=P.aL;rw[eG,xX]at Y;have f1:=P.fn;have f2:=P.cM;simp only[eu,fh,jA]at f1 f2;have m9:eT a<eT (.less a b):=by simp only[eT];omega
  have dK:eT b<eT (.less a b):=by simp only[eT];omega
  exact Tf (f:=Cz.less) (by decide) (by decide) (fun x y=>rfl) (fun d w t m tk h p code cs kn st H=>uT R g d w t m tk h p code cs kn st H) (P.sub f1.1 P.nm.1 f2.1 m9 Y.left (by simp) (dW _))
   (fun bS dB H=>P.sub f1.2 P.nm.2 f2.2 dK Y.right.left (by simp) H) aB
 |g+1,d,w,.cond q a b,m,tk,h,p,code,cs,kn,st,P=>by
  have Y:=P.aL;simp only[eG,cE]at Y;have f1:=P.fn;have f2:=P.cM;simp only[eu,fh,jA]at f1 f2;have j0:eT q<eT (.cond q a b):=by simp only[eT];omega
  have m9:eT a<eT (.cond q a b):=by simp only[eT];omega
  have dK:eT b<eT (.cond q a b):=by simp only[eT];omega
  have ej:=uT R g d w q m tk h p code cs kn st (P.sub f1.1 P.nm.1 f2.1 j0 Y.left (by simp) (dW _));simp only[evalC];simp only[eG,cE];generalize ie:cE (eG q tk w.kept.length h) p=X at*;generalize nf:cE (eG a tk w.kept.length h) (p+X.length+1)=eK at*;generalize uF:cE (eG b tk w.kept.length h) (p+X.length+1+eK.length+1)=BB at*;have nh:p+(X++((8,p+X.length+1+eK.length+1)::(eK++((9,p+X.length+1+eK.length+1+BB.length)::BB)))).length=p+X.length+1+eK.length+1+BB.length:=by
   simp only[g8,c9];omega
  rw[nh];rcases ay:evalC c g d w q m with e|⟨v,fz⟩
  .rw[ay]at ej;exact ej
  rw[ay]at ej;obtain⟨bS,a6,aM,k1⟩:=ej;dsimp only at*;have gf:=Y.right.head;rcases R1 a6 with⟨x,xF,rfl,rfl⟩|⟨aW,bf⟩
  .simp only[CVal.number];by_cases bR:x=0
   .rw[bT bR];have c6:=uT R g d w b fz tk h (p+X.length+1+eK.length+1) code cs kn st (P.sub f1.2.2 P.nm.2.2 f2.2.2 dK (by rw[uF];exact Y.right.tail.right.tail) (by simp) aM);rw[uF]at c6;have go:∀o,dR aS al code ⟨p+X.length+1+eK.length+1,kn,st,fz.cells⟩ cs (al -fz.calls) o->dR aS al code ⟨p,kn,st,m.cells⟩ cs (al -m.calls) o:=fun o aT=>k1 _ (dR.lX gf (show 8≠4 by decide) .K4 (by rw[bT bR];exact aT));rcases aq:evalC c g d w b fz with e|⟨w,gw⟩
    .rw[aq]at c6;exact go _ c6
    .rw[aq]at c6;obtain⟨jC,hw,nk,k2⟩:=c6;exact⟨jC,hw,i3 nk aM,fun o aT=>go _ (k2 _ aT)⟩
   .rw[bz bR];have c6:=uT R g d w a fz tk h (p+X.length+1) code cs kn st (P.sub f1.2.1 P.nm.2.1 f2.2.1 m9 (by rw[nf];exact Y.right.tail.left) (by simp) aM);rw[nf]at c6;have go:∀o,dR aS al code ⟨p+X.length+1,kn,st,fz.cells⟩ cs (al -fz.calls) o->dR aS al code ⟨p,kn,st,m.cells⟩ cs (al -m.calls) o:=fun o aT=>k1 _ (dR.lX gf (show 8≠4 by decide) .K4 (by rw[bz bR];exact aT));have wk:=Y.right.tail.right.head;rcases aq:evalC c g d w a fz with e|⟨w,gw⟩
    .rw[aq]at c6;exact go _ c6
    .rw[aq]at c6;obtain⟨jC,hw,nk,k2⟩:=c6;exact⟨jC,hw,i3 nk aM,fun o aT=>go _ (k2 _ (dR.lX wk (show 9≠4 by decide) .iT aT))⟩
  .rw[aW];cases bS with
   |num _=>cases bf
   |fn b l=>exact k1 _ (dR.jn gf (show 8≠4 by decide) .TM)
 |g+1,d,w,.keep a b,m,tk,h,p,code,cs,kn,st,P=>by
  have Y:=P.aL;simp only[eG,cE]at Y;have f1:=P.fn;have f2:=P.cM;simp only[eu,fh,jA]at f1 f2;have m9:eT a<eT (.keep a b):=by simp only[eT];omega
  have dK:eT b<eT (.keep a b):=by simp only[eT];omega
  have ej:=uT R g d w a m tk h p code cs kn st (P.sub f1.1 P.nm.1 f2.1 m9 Y.left (by simp) (dW _));simp only[evalC];simp only[eG,cE];generalize ie:cE (eG a tk w.kept.length h) p=X at*;generalize nf:cE (eG b tk (w.kept.length+1) h) (p+X.length+1)=eK at*;have nh:p+(X++((10,0)::(eK++[(11,0)]))).length=p+X.length+1+eK.length+1:=by
   simp only[g8,c9,yh];omega
  rw[nh];rcases ay:evalC c g d w a m with e|⟨v,fz⟩
  .rw[ay]at ej;exact ej
  rw[ay]at ej;obtain⟨bS,a6,aM,k1⟩:=ej;dsimp only at*;have sQ:=Y.right.head;have P5:=Y.right.tail.right.head;have aJ:kn.length<h9:=by
   have:=P.pl.len;have:=P.ar;have:=P.bw;unfold h9;omega
  have c6:=uT R g d {w with kept:=v::w.kept} b fz tk h (p+X.length+1) code cs (kn++[bS]) st ⟨f1.2,f2.2,P.nm.2,P.pl.keep a6,P.qW,P.bw,by have:=P.ar;dsimp only;rw[List.length_cons];omega,by have:=P.ga;omega,P.dd,P.dm,by dsimp only;rw[List.length_cons,nf];exact Y.right.tail.left,by have:=P.qq;omega,Nat.le_trans aM P.ze⟩;dsimp only at c6;rw[c9,nf]at c6;have go:∀o,dR aS al code ⟨p+X.length+1,kn++[bS],st,fz.cells⟩ cs (al -fz.calls) o->dR aS al code ⟨p,kn,st,m.cells⟩ cs (al -m.calls) o:=fun o aT=>k1 _ (dR.lX sQ (show 10≠4 by decide) (.keep aJ) aT);rcases aq:evalC c g d {w with kept:=v::w.kept} b fz with e|⟨w,gw⟩
  .rw[aq]at c6;exact go _ c6
  .rw[aq]at c6;obtain⟨jC,hw,nk,k2⟩:=c6;exact⟨jC,hw,i3 nk aM,fun o aT=>go _ (k2 _ (dR.lX P5 (show 11≠4 by decide) .drop aT))⟩
 |g+1,d,w,.app f a,m,tk,h,p,code,cs,kn,st,P=>by
  have Y:=P.aL;simp only[eG,cE]at Y;have f1:=P.fn;have f2:=P.cM;simp only[eu,fh,jA]at f1 f2;have O8:eT f<eT (.app f a):=by simp only[eT];omega
  have m9:eT a<eT (.app f a):=by simp only[eT];omega
  have ej:=uT R g d w f m tk h p code cs kn st (P.sub f1.1 P.nm.1 f2.1 O8 Y.left (by simp) (dW _));simp only[evalC];simp only[eG,cE];generalize ie:cE (eG f tk w.kept.length h) p=X at*;generalize nf:cE (eG a tk w.kept.length h) (p+X.length)=eK at*;have nh:p+(X++(eK++[(4,0)])).length=p+X.length+eK.length+1:=by
   simp only[g8,c9,yh];omega
  rw[nh];rcases ay:evalC c g d w f m with e|⟨v,fz⟩
  .rw[ay]at ej;exact ej
  rw[ay]at ej;obtain⟨bS,a6,aM,k1⟩:=ej;dsimp only at*;have c6:=uT R g d w a fz tk h (p+X.length) code cs kn (bS::st) (P.sub f1.2 P.nm.2 f2.2 m9 (by rw[nf];exact Y.right.left) (by simp) aM);rw[nf]at c6;rcases aq:evalC c g d w a fz with e|⟨I,gw⟩
  .rw[aq]at c6;exact k1 _ c6
  rw[aq]at c6;obtain⟨jC,hw,nk,k2⟩:=c6;dsimp only at*;have ez:=Y.right.right.head;have ze:=P.ze;cases a6 with
  |num a6=>exact k1 _ (k2 _ ⟨1,.DE ez⟩)
  |fn aN aD Cc=>
   rename_i ef fC l uA;dsimp only;unfold Meter.call;by_cases sS:gw.calls=0
   .rw[bT sS];refine k1 _ (k2 _ ?_);rw[sS];exact⟨1,.Al ez⟩
   rw[bz sS];have eY:al -gw.calls<al:=by omega
   by_cases aG:MOSTDEEP<=d
   .rw[bT aG];exact k1 _ (k2 _ ⟨1,.DC ez eY (by have:=P.dm;have:=P.dd;unfold MOSTDEEP at aG;omega)⟩)
   rw[bz aG];have gP:d<128:=by unfold MOSTDEEP at aG;omega
   dsimp only;rw[aN];dsimp only;have vp:al -(gw.calls -1)=al -gw.calls+1:=by omega
   obtain⟨pe,kr,vQ,om,asC⟩:=R.tk ef fC aN;have ae:=R.m7 ef fC aN;have iq:inside 2 (ef+1) uA jC=uA++([.fn (ef+1) uA,jC]++[]):=by
    unfold inside;rw[bz (by decide)];rfl
   have ga:=P.ga;have eE:=O6 f;have yU:uA.length<h9:=by
    have:=Cc.len;unfold h9;omega
   have nq:=uT R g (d+1) ⟨some (.fn ef l),some I,l,[]⟩ fC.body ⟨gw.calls -1,gw.cells⟩ fC.takes (ef+1) 0 (cE (eG fC.body fC.takes 0 (ef+1)) 0) (⟨code,kn,p+X.length+eK.length+1⟩::cs) (inside 2 (ef+1) uA jC) st
    ⟨by rw[Bl (tD ef)];exact kr,vQ,om,by rw[iq];exact .EG (Nat.succ_ne_zero _) (.fn aN aD Cc) hw Cc aD.symm .nil,fun I=>by omega,pe,by dsimp only;rw[List.length_nil];omega,by omega,gP,by rw[List.length_cons,P.dm],lR.all _,by have:=P.qq;omega,by show gw.calls -1<=al;omega⟩
   dsimp only[List.length_nil]at nq;have go:∀fm,dR aS al (cE (eG fC.body fC.takes 0 (ef+1)) 0) ⟨0,inside 2 (ef+1) uA jC,st,gw.cells⟩ (⟨code,kn,p+X.length+eK.length+1⟩::cs) (al -(gw.calls -1)) fm->dR aS al code ⟨p,kn,st,m.cells⟩ cs (al -m.calls) fm:=fun fm aT=>k1 _ (k2 _ (dR.call (av:=⟨cE (eG fC.body fC.takes 0 (ef+1)) 0,2,1+fC.takes⟩) ez eY (by have:=P.dm;omega) yU ae (by rw[vp]at aT;exact aT)));rcases bB:evalC c g (d+1) ⟨some (.fn ef l),some I,l,[]⟩ fC.body ⟨gw.calls -1,gw.cells⟩with e|⟨qv,vD⟩
   .rw[bB]at nq;exact go _ nq
   .rw[bB]at nq;obtain⟨sF,bR,yV,k3⟩:=nq;dsimp only at bR yV k3;refine⟨sF,bR,by dsimp only;omega,fun fm aT=>go _ (k3 _ (dR.ret (by dsimp only;omega) aT))⟩
end
theorem aiT{bW d j:Nat}{row:List eO}:row.length<=(jo bW d j row).length/\(jo bW d j row).length<=row.length+1:=by
 unfold jo;split
 .split
  .simp
  .split
   .simp
   .simp
 .split
  .simp
  .split
   .simp
   .simp
structure rq(n B:Nat)(U:List oK)(R:Rows):Prop where
 rE:∀u∈U,u.bJ<n
 Mw:∀u∈U,u.kind=8->1<=u.done->u.iT<(R u.bJ).length
 zw:∀u∈U,u.kind=8->u.jj=3/\u.done<3
 len:∀i,(R i).length+U.length<=B
theorem Sy{R:Rows}{h:Nat}{l:List eO}(aD:(R h).length<=l.length)(i:Nat):(R i).length<=(fM R h l i).length:=by
 by_cases e:i=h
 .rw[e,tg];exact aD
 .rw[kq e];exact dW _
theorem rq.x7{n B:Nat}{u:oK}{U:List oK}{R:Rows}(h:rq n B (u::U) R)(eF:∀i,(R i).length+U.length+1+1<=B+1):
  rq n B U (fM R u.bJ (jo u.kind (u.done+1) u.iT (R u.bJ)))/\(u.done+1≠u.jj->rq n (B+1) (⟨u.kind,u.jj,u.bJ,u.done+1,tU u.kind u.iT (R u.bJ)⟩::U) (fM R u.bJ (jo u.kind (u.done+1) u.iT (R u.bJ)))):=by
 have i6:=@aiT u.kind (u.done+1) u.iT (R u.bJ);have pl:=Sy (R:=R) (h:=u.bJ) i6.1;have up:∀i,(fM R u.bJ (jo u.kind (u.done+1) u.iT (R u.bJ)) i).length<=(R i).length+1:=fun i=>by
  by_cases e:i=u.bJ
  .rw[e,tg];exact i6.2
  .rw[kq e];omega
 have J4:∀v∈U,v.kind=8->1<=v.done->v.iT<(fM R u.bJ (jo u.kind (u.done+1) u.iT (R u.bJ)) v.bJ).length:=fun v a6 ai aj=>
  mY (h.Mw v (gz _ a6) ai aj) (pl _)
 refine⟨⟨fun v a6=>h.rE v (gz _ a6),J4,fun v a6=>h.zw v (gz _ a6),fun i=>?_⟩,fun ki=>⟨fun v a6=>?_,fun v a6 ai aj=>?_,fun v a6 ai=>?_,fun i=>?_⟩⟩
 .have:=up i;have:=eF i;omega
 .rcases dG.mp a6 with rfl|a6
  .exact h.rE u iO
  .exact h.rE v (gz _ a6)
 .rcases dG.mp a6 with rfl|a6
  .have gf:u.kind=8:=ai;show tU u.kind u.iT (R u.bJ)<(fM R u.bJ (jo u.kind (u.done+1) u.iT (R u.bJ)) u.bJ).length;rw[tg];unfold tU;rw[bT gf];unfold jo;rw[bT gf];by_cases lE:u.done+1=1
   .rw[bT lE];simp
   .rw[bz lE];by_cases mL:u.done+1=2
    .rw[bT mL];simp
    .rw[bz mL];have:=h.zw u iO gf;omega
  .exact J4 v a6 ai aj
 .rcases dG.mp a6 with rfl|a6
  .have:=h.zw u iO ai;refine⟨this.1,?_⟩;show u.done+1<3;omega
  .exact h.zw v (gz _ a6) ai
 .have:=up i;have:=eF i;rw[c9];omega
theorem rq.Wo{n:Nat}:∀{U:List oK}{R:Rows}{B:Nat},rq n B U R->rq n (B+1) (mw U R).1 (mw U R).2
 |[],R,B,h=>⟨fun u ck=>(by cases ck),fun u ck=>(by cases ck),fun u ck=>(by cases ck),fun i=>(by have:=h.len i;show(R i).length+0<=_;rw[yh]at this;omega)⟩
 |u::U,R,B,h=>by
  obtain⟨pe,kr⟩:=h.x7 (fun i=>by have:=h.len i;rw[c9]at this;omega);unfold mw;by_cases e:u.done+1=u.jj
  .rw[bT e];exact rq.Wo pe
  .rw[bz e];exact kr e
theorem rq.node{n B:Nat}{U:List oK}{R:Rows}{x:rm}(h:rq n B U R)(ee:x.bJ<n)(aT:x.own.length<=65)(gf:x.kind=8->x.jj=3)(aD:0<x.jj->x.own.length<=1):rq n (B+66) (zk (U,R) x).1 (zk (U,R) x).2:=by
 have pl:=Sy (R:=R) (h:=x.bJ) (l:=R x.bJ++x.own) (by simp);have up:∀i,(fM R x.bJ (R x.bJ++x.own) i).length<=(R i).length+x.own.length:=fun i=>by
  by_cases e:i=x.bJ
  .rw[e,tg,g8];exact dW _
  .rw[kq e];omega
 have J4:∀v∈U,v.kind=8->1<=v.done->v.iT<(fM R x.bJ (R x.bJ++x.own) v.bJ).length:=fun v a6 ai aj=>mY (h.Mw v a6 ai aj) (pl _);unfold zk;by_cases aN:0<x.jj
 .rw[bT aN];refine⟨fun v a6=>?_,fun v a6 ai aj=>?_,fun v a6 ai=>?_,fun i=>?_⟩
  .rcases dG.mp a6 with rfl|a6
   .exact ee
   .exact h.rE v a6
  .rcases dG.mp a6 with rfl|a6
   .exact absurd aj (by show ¬1<=0;decide)
   .exact J4 v a6 ai aj
  .rcases dG.mp a6 with rfl|a6
   .exact⟨gf ai,by show 0<3;decide⟩
   .exact h.zw v a6 ai
  .have ai:=up i;have aj:=h.len i;have bN:=aD aN;show(fM R x.bJ (R x.bJ++x.own) i).length+(U.length+1)<=B+66;omega
 .rw[bz aN];refine(rq.Wo (B:=B+65) (U:=U) (R:=fM R x.bJ (R x.bJ++x.own)) ⟨h.rE,J4,h.zw,fun i=>?_⟩);have:=up i;have:=h.len i;omega
theorem YT:∀l:Bytes,le l<256^l.length
 |[]=>by decide
 |b::l=>by
  have ai:=YT l;have aj:=b.toNat_lt;show b.toNat+256*le l<256^(l.length+1);rw[Nat.pow_succ];omega
theorem YS(r:Bytes):le (r.take 4)<WORD:=by
 have h:=YT (r.take 4);have aj:(256:Nat)^(r.take 4).length<=256^4:=Nat.pow_le_pow_right (by decide) (by rw[u0];omega);exact mY h (i3 aj (by decide))
theorem rT:∀(g n:Nat)(r:Bytes)(t:Term)(q:Bytes),readT g n r=some (t,q)->mU t
 |0,_,_,_,_,h=>by simp[readT]at h
 |_+1,_,[],_,_,h=>by simp[readT]at h
 |g+1,n,op::r,t,q,h=>by
  simp only[readT]at h;split at h
  .split at h
   .simp at h;rw[<-h.1];exact YS r
   .cases h
  .split at h
   .split at h
    .simp at h;rw[<-h.1];trivial
    .cases h
   .cases h
  .simp only[iy]at h;obtain⟨x,Y,e⟩:=h;cases e;have ai:mU x.1:=rT g (n+1) r _ _ Y;exact ai
  .simp only[iy]at h;obtain⟨x,Y,e⟩:=h;cases e;have ai:mU x.1:=rT g (n+2) r _ _ Y;exact ai
  .simp only[jL,iy]at h;obtain⟨x,Y,y,bu,e⟩:=h;cases e;exact⟨rT g n r _ _ Y,rT g n _ _ _ bu⟩
  .simp only[jL,iy]at h;obtain⟨x,Y,y,bu,e⟩:=h;cases e;exact⟨rT g n r _ _ Y,rT g n _ _ _ bu⟩
  .simp only[jL,iy]at h;obtain⟨x,Y,y,bu,e⟩:=h;cases e;exact⟨rT g n r _ _ Y,rT g n _ _ _ bu⟩
  .simp only[jL,iy]at h;obtain⟨x,Y,y,bu,e⟩:=h;cases e;exact⟨rT g n r _ _ Y,rT g n _ _ _ bu⟩
  .simp only[jL,iy]at h;obtain⟨x,Y,y,bu,I,bR,e⟩:=h;cases e;exact⟨rT g n r _ _ Y,rT g n _ _ _ bu,rT g n _ _ _ bR⟩
  .simp only[jL,iy]at h;obtain⟨x,Y,y,bu,e⟩:=h;cases e;exact⟨rT g n r _ _ Y,rT g (n+1) _ _ _ bu⟩
  .cases h
theorem tq:∀(g:Nat)(r:Bytes)(t:Exp)(q:Bytes),readE g r=some (t,q)->eT t<=g/\o6 t
 |0,_,_,_,h=>by simp[readE]at h
 |_+1,[],_,_,h=>by simp[readE]at h
 |g+1,op::r,t,q,h=>by
  simp only[readE]at h;split at h
  .split at h
   .simp at h;rw[<-h.1];exact⟨by simp[eT],YS r⟩
   .cases h
  .simp only[jL,iy]at h;obtain⟨x,Y,y,bu,e⟩:=h;cases e;have ai:=tq g r _ _ Y;have aj:=tq g _ _ _ bu;exact⟨by simp only[eT];omega,ai.2,aj.2⟩
  .simp only[jL,iy]at h;obtain⟨x,Y,y,bu,e⟩:=h;cases e;have ai:=tq g r _ _ Y;have aj:=tq g _ _ _ bu;exact⟨by simp only[eT];omega,ai.2,aj.2⟩
  .simp only[jL,iy]at h;obtain⟨x,Y,y,bu,e⟩:=h;cases e;have ai:=tq g r _ _ Y;have aj:=tq g _ _ _ bu;exact⟨by simp only[eT];omega,ai.2,aj.2⟩
  .simp only[jL,iy]at h;obtain⟨x,Y,y,bu,e⟩:=h;cases e;have ai:=tq g r _ _ Y;have aj:=tq g _ _ _ bu;exact⟨by simp only[eT];omega,ai.2,aj.2⟩
  .simp only[jL,iy]at h;obtain⟨x,Y,y,bu,I,bR,e⟩:=h;cases e;have ai:=tq g r _ _ Y;have aj:=tq g _ _ _ bu;have bN:=tq g _ _ _ bR;exact⟨by simp only[eT];omega,ai.2,aj.2,bN.2⟩
  .simp only[jL,iy]at h;obtain⟨x,Y,y,bu,e⟩:=h;cases e;have ai:=tq g r _ _ Y;have aj:=tq g _ _ _ bu;exact⟨by simp only[eT];omega,ai.2,aj.2⟩
  .split at h
   .simp only[iy]at h;obtain⟨x,Y,e⟩:=h;cases e;exact⟨by simp[eT],trivial⟩
   .cases h
  .simp only[iy]at h;obtain⟨x,Y,e⟩:=h;cases e;exact⟨by simp[eT],trivial⟩
theorem aa7:∀(n:Nat)(r:Bytes)(l:List Proc)(q:Bytes),readProcs n r=some (l,q)->∀p∈l,eT p.body<=64/\o6 p.body
 |0,r,l,q,h=>by simp[readProcs]at h;rw[h.1];intro p aN;cases aN
 |_+1,[],_,_,h=>by simp[readProcs]at h
 |n+1,t::r,l,q,h=>by
  simp only[readProcs,jL,iy]at h;obtain⟨x,Y,y,bu,e⟩:=h;cases e;intro p aN;rcases dG.mp aN with rfl|aN
  .exact tq 64 r _ _ Y
  .exact aa7 n _ _ _ bu p aN
structure zN(c:Code):Prop where
 len:c.procs.length<=64
 Zc:eu false 0 0 c.main=true
 Zd:fh c.procs c.main=true
 anr:o6 c.main
 Rq:eT c.main<=64
 Sv:∀(p:Nat)(q:Proc),c.procs[p]?=some q->q.takes<=64/\eu true q.takes 0 q.body=true/\fh c.procs q.body=true/\o6 q.body/\eT q.body<=64
theorem VN{aR:Bytes}{c:Code}(h:code aR=some c):zN c:=by
 unfold code at h;split at h
 .cases h
 .cases aR with
  |nil=>cases h
  |cons n r=>
   dsimp only at h;split at h
   .rename_i x q Y;split at h
    .rename_i l aD;split at h
     .rename_i bq;cases h;have f1:=tq 64 r _ _ Y;have f2:=aa7 _ _ _ _ aD;unfold Code.fine at bq;simp only[jA,tB,zJ,sM]at bq;obtain⟨ai,⟨aj,bN⟩,ez⟩:=bq;refine⟨ai,aj,bN,f1.2,f1.1,fun p y aN=>?_⟩;have aM:=jc aN;obtain⟨iG,kN,m5⟩:=ez y aM;exact⟨iG,kN,m5,(f2 y aM).2,(f2 y aM).1⟩
     .cases h
    .cases h
   .cases h
theorem sI(procs:List Proc)(my:∀(p:Nat)(q:Proc),procs[p]?=some q->q.takes<=64)(au:Bool)(tk:Nat):∀(e:Exp)(n h:Nat),eu au tk n e=true->fh procs e=true->∀x∈fg e n h,x.bJ=h/\
  ((x.kind≠0->x.kind≠11->¬(4<=x.kind/\x.kind<=9)->((x.kind=1\/x.kind=2\/x.kind=3)\/x.value<x.eZ))/\(x.kind=11->x.names.length<=64/\∀y∈x.names,((y.1=1\/y.1=2\/y.1=3)\/y.2<x.eZ)))/\(x.kind=8->x.jj=3)/\(0<x.jj->4<=x.kind/\x.kind<=9)
 |.num _,n,h,_,_,x,Y=>by
  simp[fg]at Y;subst Y;simp
 |.simple s,n,h,bq,_,x,Y=>by
  simp[fg]at Y;subst Y;cases s with
  |arg=>simp[l5]
  |took k=>simp[l5]
  |self=>simp[l5]
  |kept k=>
   have:k<n:=by simpa[eu,Simple.fine]using bq
   simp[l5,this]
 |.make p l,n,h,bq,aN,x,Y=>by
  simp[fg]at Y;subst Y;simp only[fh]at aN;cases e:procs[p]? with
  |none=>rw[e]at aN;cases aN
  |some q=>
   rw[e]at aN;have bO:q.takes=l.length:=by simpa using aN
   have:=my p q e;refine⟨z,⟨fun _ I=>absurd z I,fun _=>⟨by simp;omega,fun y bu=>?_⟩⟩,fun I=>(by cases I),fun I=>absurd I (by simp)⟩;obtain⟨s,aL,rfl⟩:=vY.mp bu;have akc:Simple.fine au tk n s=true:=by
    simp only[eu,zJ]at bq;exact bq s aL
   cases s with
   |arg=>simp[l5]
   |took k=>simp[l5]
   |self=>simp[l5]
   |kept k=>
    have:k<n:=by simpa[Simple.fine]using akc
    simp[l5,this]
 |.app f a,n,h,bq,aN,x,Y=>by
  simp only[eu,fh,jA]at bq aN;simp only[fg,dG,fN]at Y;rcases Y with rfl|Y|Y
  .simp
  .exact sI procs my au tk f n h bq.1 aN.1 x Y
  .exact sI procs my au tk a n h bq.2 aN.2 x Y
 |.add f a,n,h,bq,aN,x,Y=>by
  simp only[eu,fh,jA]at bq aN;simp only[fg,dG,fN]at Y;rcases Y with rfl|Y|Y
  .simp
  .exact sI procs my au tk f n h bq.1 aN.1 x Y
  .exact sI procs my au tk a n h bq.2 aN.2 x Y
 |.sub f a,n,h,bq,aN,x,Y=>by
  simp only[eu,fh,jA]at bq aN;simp only[fg,dG,fN]at Y;rcases Y with rfl|Y|Y
  .simp
  .exact sI procs my au tk f n h bq.1 aN.1 x Y
  .exact sI procs my au tk a n h bq.2 aN.2 x Y
 |.less f a,n,h,bq,aN,x,Y=>by
  simp only[eu,fh,jA]at bq aN;simp only[fg,dG,fN]at Y;rcases Y with rfl|Y|Y
  .simp
  .exact sI procs my au tk f n h bq.1 aN.1 x Y
  .exact sI procs my au tk a n h bq.2 aN.2 x Y
 |.keep f a,n,h,bq,aN,x,Y=>by
  simp only[eu,fh,jA]at bq aN;simp only[fg,dG,fN]at Y;rcases Y with rfl|Y|Y
  .simp
  .exact sI procs my au tk f n h bq.1 aN.1 x Y
  .exact sI procs my au tk a (n+1) h bq.2 aN.2 x Y
 |.cond c f a,n,h,bq,aN,x,Y=>by
  simp only[eu,fh,jA]at bq aN;simp only[fg,dG,fN]at Y;rcases Y with rfl|Y|Y|Y
  .simp
  .exact sI procs my au tk c n h bq.1 aN.1 x Y
  .exact sI procs my au tk f n h bq.2.1 aN.2.1 x Y
  .exact sI procs my au tk a n h bq.2.2 aN.2.2 x Y
theorem aaY(c:Code)(F:zN c)(Q:jl->Prop):∀(l:List Proc)(h:Nat),(∀q∈l,∃p:Nat,c.procs[p]?=some q)->(∀(q:Proc)(j:Nat),(∃p:Nat,c.procs[p]?=some q)->h<=j->j<h+l.length->∀x∈fg q.body 0 j,Q x)->∀x∈ly l h,Q x
 |[],h,_,_,x,Y=>by simp[ly]at Y
 |q::l,h,aD,a9,x,Y=>by
  simp only[ly,fN]at Y;rcases Y with Y|Y
  .exact a9 q h (aD q iO) (dW _) (by rw[c9];omega) x Y
  .exact aaY c F Q l (h+1) (fun eW h'=>aD eW (gz _ h')) (fun eW j e ai aj=>a9 eW j e (by omega) (by rw[c9];omega)) x Y
theorem rJ{aS:List gC}{ar own:Nat->Nat}{T:Nat->List Nat}{R:Rows}{L:Nat}(eF:∀i,i<L->aS[i]?=some ⟨R i,own i,1+(T i).length⟩):∀(t:Term)(n k:Nat),pD ar own T t n k->(eN t n k).i9 R->k+t.fns<=L->nW aS t n k
 |.num _,_,_,_,_,_=>trivial
 |.var _,_,_,_,_,_=>trivial
 |.fn b,n,k,s,l,h=>by
  obtain⟨aU,bD,b4,eo⟩:=s;obtain⟨fL,iJ⟩:=l;simp only[Term.fns]at h;refine⟨?_,rJ eF b _ _ eo iJ (by omega)⟩;rw[eF k (by omega),fL,bD,b4];unfold l8;rw[cA]
 |.fix b,n,k,s,l,h=>by
  obtain⟨aU,bD,b4,eo⟩:=s;obtain⟨fL,iJ⟩:=l;simp only[Term.fns]at h;refine⟨?_,rJ eF b _ _ eo iJ (by omega)⟩;rw[eF k (by omega),fL,bD,b4];unfold l8;rw[cA]
 |.app f a,n,k,s,l,h=>by
  simp only[Term.fns]at h;exact⟨rJ eF f _ _ s.1 l.1 (by omega),rJ eF a _ _ s.2 l.2 (by omega)⟩
 |.add f a,n,k,s,l,h=>by
  simp only[Term.fns]at h;exact⟨rJ eF f _ _ s.1 l.1 (by omega),rJ eF a _ _ s.2 l.2 (by omega)⟩
 |.sub f a,n,k,s,l,h=>by
  simp only[Term.fns]at h;exact⟨rJ eF f _ _ s.1 l.1 (by omega),rJ eF a _ _ s.2 l.2 (by omega)⟩
 |.less f a,n,k,s,l,h=>by
  simp only[Term.fns]at h;exact⟨rJ eF f _ _ s.1 l.1 (by omega),rJ eF a _ _ s.2 l.2 (by omega)⟩
 |.cond c f a,n,k,s,l,h=>by
  simp only[Term.fns]at h;exact⟨rJ eF c _ _ s.1 l.1 (by omega),rJ eF f _ _ s.2.1 l.2.1 (by omega),rJ eF a _ _ s.2.2 l.2.2 (by omega)⟩
 |.name f a,n,k,s,l,h=>by
  simp only[Term.fns]at h;exact⟨rJ eF f _ _ s.1 l.1 (by omega),rJ eF a _ _ s.2 l.2 (by omega)⟩
def zX{cL:Type}(T7:cL->eH->Prop)(aS:List gC)(al:Nat)(code:List eO)(st:List eH)(c:Nat):Except Nat (cL×Meter)->Prop
 |.ok x=>∃bS n,T7 x.1 bS/\x.2.calls<=al/\iF aS al n code ⟨0,[],st,c⟩ [] 0 (.val bS (al -x.2.calls) x.2.cells)
 |.error e=>∃n,iF aS al n code ⟨0,[],st,c⟩ [] 0 (.kP e)
theorem ap8{t:Term}{aS:List gC}(w:iw t 0)(br:mU t)(aG:cf t<=32)(aD:nW aS t 0 1)(al:Nat):zX (pH aS) aS al (cE (eN t 0 1) 0) [] 0 (evalT GAS 0 [] t ⟨al,0⟩):=by
 have s:=uU (aS:=aS) (al:=al) GAS 0 [] t ⟨al,0⟩ 1 0 (cE (eN t 0 1) 0) [] [] [] ⟨w,br,aD,.nil,by show 0+_<=64;omega,by unfold GAS;omega,by decide,z,lR.all _,by unfold h9;show 0+_+_<=_;omega,dW _⟩;rcases e:evalT GAS 0 [] t ⟨al,0⟩with c|⟨v,m⟩
 .rw[e]at s;obtain⟨n,h⟩:=s;refine⟨n,?_⟩;dsimp only at h;rw[Dc]at h;exact h
 .rw[e]at s;obtain⟨bS,ai,aj,bN⟩:=s;obtain⟨n,h⟩:=bN _ ⟨1,.done (by show _<=0+_;simp)⟩;dsimp only at h;rw[Dc]at h;exact⟨bS,n,ai,aj,h⟩
theorem afb{aS:List gC}{v:Val}{bS:eH}(a6:pH aS v bS)(bq:bS.isFn=true){x n c:Nat}(Y:x<WORD):zX (pH aS) aS n [(4,0)] [.num x,bS] c (applyT v x ⟨n,c⟩):=by
 cases a6 with
 |num=>cases bq
 |fn o tR ae aD rI wo JD qG=>
  rename_i self body b rz e qi;unfold applyT;dsimp only;unfold Meter.call;dsimp only;by_cases sS:n=0
  .rw[bT sS];subst sS;exact⟨1,.Al z⟩
  rw[bz sS,bz (by decide)];dsimp only;have iq:uz aS (.num x::(if self=true then Val.fn self body e::e else e)) (inside o b qi (.num x)).reverse/\(Val.num x::(if self=true then Val.fn self body e::e else e)).length=e.length+o:=by
   cases self with
   |true=>
    have tR:o=2:=tR;subst tR;refine⟨?_,z⟩;have:(inside 2 b qi (.num x)).reverse=.num x::.fn b qi::qi.reverse:=by unfold inside;rw[bz (by decide)];simp
    rw[this];exact .cons (.num Y) (.cons (.fn 2 rfl ae aD rI wo JD qG) qG)
   |false=>
    have tR:o=1:=tR;subst tR;refine⟨?_,z⟩;have:(inside 1 b qi (.num x)).reverse=.num x::qi.reverse:=by unfold inside;rw[bT z];simp
    rw[this];exact .cons (.num Y) qG
  obtain⟨iq,gv⟩:=iq;have yU:qi.length<h9:=by
   have:=qG.len;rw[tE]at this;unfold h9;omega
  have s:=uU (aS:=aS) (al:=n) GAS 1 (.num x::(if self=true then Val.fn self body e::e else e)) body ⟨n -1,c⟩ (b+1) 0 (cE (eN body (e.length+o) (b+1)) 0) [⟨[(4,0)],[],1⟩] (inside o b qi (.num x)) []
   ⟨by rw[gv];exact rI,wo,by rw[gv];exact aD,iq,by rw[gv];exact JD,by unfold GAS;omega,by decide,z,by rw[gv];exact lR.all _,by unfold h9;show 0+_+_<=_;omega,by show n -1<=n;omega⟩
  rw[gv]at s;have ay:n -(n -1)=1:=by omega
  rcases ie:evalT GAS 1 (.num x::(if self=true then Val.fn self body e::e else e)) body ⟨n -1,c⟩with I|⟨v,m⟩
  .rw[ie]at s;obtain⟨k,h⟩:=s;dsimp only at h;rw[ay]at h;exact⟨k+1,.call (av:=⟨cE (eN body (e.length+o) (b+1)) 0,o,rz⟩) z (by omega) (by decide) yU ae h⟩
  .rw[ie]at s;obtain⟨bS,ai,aj,bN⟩:=s;obtain⟨k,h⟩:=bN (.val bS (n -m.calls) m.cells) ⟨2,.ret (by show _<=0+_;simp) (.done (by decide))⟩;dsimp only at h aj;rw[ay]at h;exact⟨bS,k+1,ai,by show m.calls<=n;omega,.call (av:=⟨cE (eN body (e.length+o) (b+1)) 0,o,rz⟩) z (by omega) (by decide) yU ae h⟩
theorem ap7{c:Code}{aS:List gC}(F:zN c)(R:Lr c aS)(al:Nat):zX (mo c) aS al (cE (eG c.main 0 0 0) 0) [] 0 (evalC c GAS 0 mainPlace c.main ⟨al,0⟩):=by
 have s:=uT (aS:=aS) (al:=al) R GAS 0 mainPlace c.main ⟨al,0⟩ 0 0 0 (cE (eG c.main 0 0 0) 0) [] [] [] ⟨F.Zc,F.Zd,F.anr,.main .nil,fun _=>rfl,by decide,by have:=F.Rq;show 0+_<=64;omega,by have:=F.Rq;unfold GAS;omega,by decide,z,lR.all _,by have:=F.Rq;unfold h9;show 0+_+_+_<=_;omega,dW _⟩;rcases e:evalC c GAS 0 mainPlace c.main ⟨al,0⟩with I|⟨v,m⟩
 .rw[e]at s;obtain⟨n,h⟩:=s;refine⟨n,?_⟩;dsimp only at h;rw[Dc]at h;exact h
 .rw[e]at s;obtain⟨bS,ai,aj,bN⟩:=s;obtain⟨n,h⟩:=bN _ ⟨1,.done (by show _<=0+_;simp[mainPlace])⟩;dsimp only at h;rw[Dc]at h;exact⟨bS,n,ai,aj,h⟩
theorem afa{c:Code}{aS:List gC}(F:zN c)(R:Lr c aS){v:CVal}{bS:eH}(a6:mo c v bS)(bq:bS.isFn=true){x n ce:Nat}(Y:x<WORD):zX (mo c) aS n [(4,0)] [.num x,bS] ce (applyC c v x ⟨n,ce⟩):=by
 cases a6 with
 |num=>cases bq
 |fn aN aD Cc=>
  rename_i ef fC l uA;unfold applyC;dsimp only;unfold Meter.call;dsimp only;by_cases sS:n=0
  .rw[bT sS];subst sS;exact⟨1,.Al z⟩
  rw[bz sS,bz (by decide)];dsimp only;rw[aN];dsimp only;obtain⟨pe,kr,vQ,om,asC⟩:=R.tk ef fC aN;have ae:=R.m7 ef fC aN;have iq:inside 2 (ef+1) uA (.num x)=uA++([.fn (ef+1) uA,.num x]++[]):=by
   unfold inside;rw[bz (by decide)];rfl
  have yU:uA.length<h9:=by
   have:=Cc.len;unfold h9;omega
  have s:=uT (aS:=aS) (al:=n) R GAS 1 ⟨some (.fn ef l),some (.num x),l,[]⟩ fC.body ⟨n -1,ce⟩ fC.takes (ef+1) 0 (cE (eG fC.body fC.takes 0 (ef+1)) 0) [⟨[(4,0)],[],1⟩] (inside 2 (ef+1) uA (.num x)) []
   ⟨by rw[Bl (tD ef)];exact kr,vQ,om,by rw[iq];exact .EG (Nat.succ_ne_zero _) (.fn aN aD Cc) (.num Y) Cc aD.symm .nil,fun I=>by omega,pe,by show 0+_<=64;omega,by unfold GAS;omega,by decide,z,lR.all _,by unfold h9;show 0+_+_+_<=_;omega,by show n -1<=n;omega⟩
  dsimp only[List.length_nil]at s;have ay:n -(n -1)=1:=by omega
  rcases ie:evalC c GAS 1 ⟨some (.fn ef l),some (.num x),l,[]⟩ fC.body ⟨n -1,ce⟩with I|⟨v,m⟩
  .rw[ie]at s;obtain⟨k,h⟩:=s;dsimp only at h;rw[ay]at h;exact⟨k+1,.call (av:=⟨cE (eG fC.body fC.takes 0 (ef+1)) 0,2,1+fC.takes⟩) z (by omega) (by decide) yU ae h⟩
  .rw[ie]at s;obtain⟨bS,ai,aj,bN⟩:=s;obtain⟨k,h⟩:=bN (.val bS (n -m.calls) m.cells) ⟨2,.ret (by show _<=0+_;simp) (.done (by decide))⟩;dsimp only at h aj;rw[ay]at h;exact⟨bS,k+1,ai,by show m.calls<=n;omega,.call (av:=⟨cE (eG fC.body fC.takes 0 (ef+1)) 0,2,1+fC.takes⟩) z (by omega) (by decide) yU ae h⟩
def ja:Term->Nat
 |.num _=>1
 |.var _=>1
 |.fn b=>ja b+1
 |.fix b=>ja b+1
 |.app f a=>ja f+ja a+1
 |.add f a=>ja f+ja a+1
 |.sub f a=>ja f+ja a+1
 |.less f a=>ja f+ja a+1
 |.cond c f a=>ja c+ja f+ja a+1
 |.name f a=>ja f+ja a+1
theorem rP:∀(g n:Nat)(r:Bytes)(t:Term)(q:Bytes),readT g n r=some (t,q)->ja t+q.length<=r.length
 |0,_,_,_,_,h=>by simp[readT]at h
 |_+1,_,[],_,_,h=>by simp[readT]at h
 |g+1,n,op::r,t,q,h=>by
  simp only[readT]at h;split at h
  .split at h
   .simp at h;rw[<-h.1,<-h.2];simp only[ja,oE,c9];omega
   .cases h
  .split at h
   .split at h
    .simp at h;rw[<-h.1,<-h.2];simp only[ja,c9];omega
    .cases h
   .cases h
  .simp only[iy]at h;obtain⟨x,Y,e⟩:=h;cases e;have:=rP g (n+1) r _ _ Y;simp only[ja,c9];omega
  .simp only[iy]at h;obtain⟨x,Y,e⟩:=h;cases e;have:=rP g (n+2) r _ _ Y;simp only[ja,c9];omega
  .simp only[jL,iy]at h;obtain⟨x,Y,y,bu,e⟩:=h;cases e;have ai:=rP g n r _ _ Y;have aj:=rP g n _ _ _ bu;simp only[ja,c9];omega
  .simp only[jL,iy]at h;obtain⟨x,Y,y,bu,e⟩:=h;cases e;have ai:=rP g n r _ _ Y;have aj:=rP g n _ _ _ bu;simp only[ja,c9];omega
  .simp only[jL,iy]at h;obtain⟨x,Y,y,bu,e⟩:=h;cases e;have ai:=rP g n r _ _ Y;have aj:=rP g n _ _ _ bu;simp only[ja,c9];omega
  .simp only[jL,iy]at h;obtain⟨x,Y,y,bu,e⟩:=h;cases e;have ai:=rP g n r _ _ Y;have aj:=rP g n _ _ _ bu;simp only[ja,c9];omega
  .simp only[jL,iy]at h;obtain⟨x,Y,y,bu,I,bR,e⟩:=h;cases e;have ai:=rP g n r _ _ Y;have aj:=rP g n _ _ _ bu;have bN:=rP g n _ _ _ bR;simp only[ja,c9];omega
  .simp only[jL,iy]at h;obtain⟨x,Y,y,bu,e⟩:=h;cases e;have ai:=rP g n r _ _ Y;have aj:=rP g (n+1) _ _ _ bu;simp only[ja,c9];omega
  .cases h
def lu(l:List Proc):Nat:=(l.flatMap fun p=>UInt8.ofNat p.takes::p.body.bytes).length
theorem EE(l m:List Proc):lu (l++m)=lu l+lu m:=by unfold lu;rw[List.flatMap_append,g8]
theorem aaJ(p:Proc)(l:List Proc):lu (p::l)=1+p.body.bytes.length+lu l:=by unfold lu;rw[Dd,g8,c9];omega
theorem Ti:∀l:List Simple,(l.flatMap Simple.bytes).length=2*l.length
 |[]=>rfl
 |s::l=>by
  rw[Dd,g8,Ti l,c9];cases s<;>simp[Simple.bytes]<;>omega
theorem rM:∀(t:Term)(n:Nat)(env:List Simple)(k:Nat),iw t n->n+2*cf t<=64->(made t env k).1.bytes.length+lu (made t env k).2<=140*ja t
 |.num x,n,env,k,w,h=>by simp[made,Exp.bytes,low4,lu,ja]
 |.var x,n,env,k,w,h=>by
  simp only[made,Exp.bytes,lu,ja];cases at_ env x<;>simp[Simple.bytes]
 |.fn b,n,env,k,w,h=>by
  have ck:=C4 (t:=.fn b) (n:=n) w;simp only[cf]at h;have eL:=rM b (n+1) (Cz.inside [.arg] (Term.fn b).uses env.length) (k+1) w (by omega);simp only[made,Exp.bytes,aaJ,ja,c9,Ti,cA];omega
 |.fix b,n,env,k,w,h=>by
  have ck:=C4 (t:=.fix b) (n:=n) w;simp only[cf]at h;have eL:=rM b (n+2) (Cz.inside [.arg,.self] (Term.fix b).uses env.length) (k+1) w (by omega);simp only[made,Exp.bytes,aaJ,ja,c9,Ti,cA];omega
 |.app f a,n,env,k,w,h=>by
  simp only[cf]at h;have ai:=rM f n env k w.1 (by omega);have aj:=rM a n env (k+(made f env k).2.length) w.2 (by omega);simp only[made,Exp.bytes,EE,ja,c9,g8];omega
 |.add f a,n,env,k,w,h=>by
  simp only[cf]at h;have ai:=rM f n env k w.1 (by omega);have aj:=rM a n env (k+(made f env k).2.length) w.2 (by omega);simp only[made,Exp.bytes,EE,ja,c9,g8];omega
 |.sub f a,n,env,k,w,h=>by
  simp only[cf]at h;have ai:=rM f n env k w.1 (by omega);have aj:=rM a n env (k+(made f env k).2.length) w.2 (by omega);simp only[made,Exp.bytes,EE,ja,c9,g8];omega
 |.less f a,n,env,k,w,h=>by
  simp only[cf]at h;have ai:=rM f n env k w.1 (by omega);have aj:=rM a n env (k+(made f env k).2.length) w.2 (by omega);simp only[made,Exp.bytes,EE,ja,c9,g8];omega
 |.cond c f a,n,env,k,w,h=>by
  simp only[cf]at h;have cP:=rM c n env k w.1 (by omega);have ai:=rM f n env (k+(made c env k).2.length) w.2.1 (by omega);have aj:=rM a n env (k+(made c env k).2.length+(made f env (k+(made c env k).2.length)).2.length) w.2.2 (by omega);simp only[made,Exp.bytes,EE,ja,c9,g8];omega
 |.name f a,n,env,k,w,h=>by
  simp only[cf]at h;have ai:=rM f n env k w.1 (by omega);have aj:=rM a (n+1) (.kept 0::env.map Simple.deeper) (k+(made f env k).2.length) w.2 (by omega);simp only[made,Exp.bytes,EE,ja,c9,g8];omega
theorem VP{aR:Bytes}{t:Term}(h:program aR=some t):(compiled t).bytes.length<=143361/\(compiled t).procs.length<=64:=by
 unfold program at h;split at h
 .cases h
 .rename_i aD;split at h
  .rename_i e;split at h
   .rename_i bq;cases h;have w:=q2 32 0 aR _ _ e;have d:=qC 32 0 aR _ _ e;have aH:=rP 32 0 aR _ _ e;have m:=rM t 0 [] 0 w (by omega);have aD:aR.length<=1024:=by unfold PROGRAM at aD;omega
    refine⟨?_,?_⟩
    .show(UInt8.ofNat _::((made t [] 0).1.bytes++(made t [] 0).2.flatMap fun p=>UInt8.ofNat p.takes::p.body.bytes)).length<=_;rw[c9,g8];have:((made t [] 0).2.flatMap fun p=>UInt8.ofNat p.takes::p.body.bytes).length=lu (made t [] 0).2:=rfl;omega
    .show(made t [] 0).2.length<=64;rw[ju];exact bq
   .cases h
  .cases h
end Z
namespace bF
open PySem PySem.Sem
def yi(h:Heap)(x:Addr)(d:Option Addr):Prop:=∃o,h.get? x=some o/\o.dict=d
theorem yi.V{h:Heap}{x a:Addr}{d:Option Addr}{f:Obj->Obj}(aG:yi h x d)(bq:∀o,(f o).dict=o.dict)(bR:∀o,(f o).isFreed=o.isFreed):yi (h.update a f) x d:=by
 obtain⟨o,e,aG⟩:=aG;by_cases q:a=x
 .subst q;exact⟨f o,Heap.get?_update_self _ e ((bR o).trans (Heap.get?_some_iff.mp e).2),(bq o).trans aG⟩
 .exact⟨o,(Heap.get?_update_other h _ q).trans e,aG⟩
theorem amj(g:Array Value->Array Value)(o:Obj):(Obj.mapFields g o).dict=o.dict:=by
 obtain⟨c,d,HE,b7⟩:=o;cases HE<;>rfl
theorem amk(g:Array Value->Array Value)(o:Obj):(Obj.mapFields g o).isFreed=o.isFreed:=by
 obtain⟨c,d,HE,b7⟩:=o;cases HE<;>rfl
theorem aq7(o:Obj)(b7:Array (Option Value)):({o with slots:=b7}:Obj).isFreed=o.isFreed:=by
 obtain⟨c,d,HE,KS⟩:=o;cases HE<;>rfl
structure mq{cL:Type}(t:Sem cL):Prop where
 out:∀(M:Model)(G:Ctx)(P:cL->Pos->Shared->Prop)(E:Value->Pos->Shared->Prop)(p:Pos)(s:Shared)(x:Addr)(d:Option Addr),yi s.heap x d->
  Sem.wp M G t P E p s->Sem.wp M G t (fun a lN aZ=>P a lN aZ/\yi aZ.heap x d) E p s
theorem xo{cL:Type}(a:cL):mq (Pure.pure a:Sem cL):=⟨fun M G P E p s x d aG h=>by
 rw[Sem.wp_pure']at h⊢;exact⟨h,aG⟩⟩
theorem LK{cL:Type}(w:String):mq (PySem.unsupported w:Sem cL):=by
 refine⟨fun M G P E p s x d aG h=>?_⟩;exact h.elim
theorem yE{cL ik:Type}{t:Sem cL}{k:cL->Sem ik}(ai:mq t)(aj:∀a,mq (k a)):mq (t>>=k):=by
 refine⟨fun M G P E p s x d aG h=>?_⟩;rw[Sem.wp_bind']at h⊢;exact Sem.wp_mono M G t (fun a lN aZ q=>(aj a).out M G P E lN aZ x d q.2 q.1) (fun _ _ _ I=>I) p s (ai.out M G _ E p s x d aG h)
theorem BN{cL:Type}{c:Prop}[Decidable c]{t u:Sem cL}(ai:mq t)(aj:mq u):mq (if c then t else u):=by
 split
 .exact ai
 .exact aj
theorem O9(v:Value)(i:Nat):mq (field v i):=by
 refine⟨fun M G P E p s x d aG h=>?_⟩;rw[wp_field_iff]at h⊢;obtain⟨a,o,vs,y,ay,aq,bB,dQ,q⟩:=h;exact⟨a,o,vs,y,ay,aq,bB,dQ,q,aG⟩
theorem V1(v:Value)(i:Nat)(y:Value):mq (setField v i y):=by
 refine⟨fun M G P E p s x d aG h=>?_⟩;rw[wp_setField_iff]at h⊢;obtain⟨a,o,vs,ay,aq,bB,dQ,q⟩:=h;exact⟨a,o,vs,ay,aq,bB,dQ,q,aG.V (amj _) (amk _)⟩
theorem ahk(a:Addr):mq (PySem.load a):=by
 refine⟨fun M G P E p s x d aG h=>?_⟩;unfold PySem.load at h⊢;rw[Sem.wp_load]at h⊢;obtain⟨o,e,q⟩:=h;exact⟨o,e,q,aG⟩
theorem aho(a:Addr)(f:Obj->Obj)(bq:∀o,(f o).dict=o.dict)(bR:∀o,(f o).isFreed=o.isFreed):mq (PySem.update a f):=by
 refine⟨fun M G P E p s x d aG h=>?_⟩;unfold PySem.update at h⊢;rw[Sem.wp_update]at h⊢;exact⟨h.1,h.2,aG.V bq bR⟩
theorem Pb:mq PySem.stack:=⟨fun _ _ _ _ _ _ _ _ aG h=>⟨h,aG⟩⟩
theorem ahg(o:Obj):mq (PySem.alloc o):=by
 refine⟨fun M G P E p s x d aG h=>?_⟩;unfold PySem.alloc at h⊢;rw[Sem.wp_alloc]at h⊢;obtain⟨fm,e,q⟩:=aG;exact⟨h,fm,ph _ e,q⟩
theorem ahl(jx:String)(vs:List Value):mq (newFields jx vs):=by
 unfold newFields newObj newObjAsIs
 repeat' first
  |exact xo _
  |exact LK _
  |exact ahg _
  |apply BN
  |apply yE
  |intro _
  |split
theorem ahh(env:Env)(outer:List Env):mq (behindIsImport env outer):=by
 unfold behindIsImport
 repeat' first
  |exact xo _
  |exact O9 _ _
  |apply BN
  |apply yE
  |intro _
  |split
theorem ahj(env:Env)(i:Bool)(l:List Env):mq (keptBack env i l):=by
 cases l<;>unfold keptBack
 .unfold underTheClaimsCaller
  repeat' first
   |exact xo _
   |exact Pb
   |apply BN
   |apply yE
   |intro _
   |split
 .exact xo _
theorem V0:∀l:List Env,mq (readyFrames l)
 |[]=>xo _
 |env::outer=>by
  have eL:=V0 outer;have ai:=ahh env outer;have aj:=fun i=>ahj env i outer;unfold readyFrames
  repeat' first
   |exact eL
   |exact ai
   |exact aj _
   |exact xo _
   |exact LK _
   |exact ahk _
   |exact aho _ _ (fun _=>rfl) (fun o=>aq7 o _)
   |apply BN
   |apply yE
   |intro _
   |split
theorem ahi(env:Env):mq (frameOf env):=by
 have h:=V0;unfold frameOf frameObject frameEnvs
 repeat' first
  |exact xo _
  |exact LK _
  |exact Pb
  |exact h _
  |apply BN
  |apply yE
  |intro _
  |split
theorem ahn(f:Addr)(b:Bool):mq (entryPlaceOf f b):=by
 unfold entryPlaceOf
 repeat' first
  |exact xo _
  |exact Pb
  |apply yE
  |intro _
  |split
theorem VY(e:Value)(env:Env):mq (noteFrame e env):=by
 have h:=ahi env;have aj:=ahl;unfold noteFrame EntryCells.newEntry
 repeat' first
  |exact xo _
  |exact LK _
  |exact O9 _ _
  |exact V1 _ _ _
  |exact ahn _ _
  |exact h
  |exact aj _ _
  |apply BN
  |apply yE
  |intro _
  |split
theorem HD(e:Value)(f:Option Addr):mq (setFlight e f):=by
 unfold setFlight
 repeat' first
  |exact xo _
  |exact O9 _ _
  |exact V1 _ _ _
  |apply BN
  |apply yE
  |intro _
  |split
theorem Pa(env:Env)(e:Value):mq (leaving env e):=by
 unfold leaving;exact yE (VY e env) fun _=>HD e none
theorem mq.any{cL:Type}{t:Sem cL}(h:mq t){M:Model}{A:Around}{Q:cL->Shared->Prop}{E:Value->Shared->Prop}{s:Shared}{x:Addr}{d:Option Addr}(aG:yi s.heap x d)(hw:wpAny M A t Q E s):
  wpAny M A t (fun a aZ=>Q a aZ/\yi aZ.heap x d) E s:=fun G p ajJ=>h.out M G _ _ p s x d aG (hw G p ajJ)
end bF
namespace bF
open PySem PySem.Spec PyProof.Rows
theorem jP.there{P:Program}{w:World}{H:aA}{h:Heap}{a:Addr}{o:cI}(x:jP P w H h a o):∃cD,h.get? a=some cD:=by
 induction o with
 |ak xs=>obtain⟨_,_,_,_,e⟩:=x;exact⟨_,e⟩
 |dD xs=>obtain⟨_,_,_,cD,e,_⟩:=x;exact⟨_,e⟩
 |vo kvs=>obtain⟨_,_,_,_,o,_,_,e,_⟩:=x;exact⟨_,e⟩
 |xm kvs=>obtain⟨_,_,_,_,o,_,_,e,_⟩:=x;exact⟨_,e⟩
 |set S n=>obtain⟨o,_,_,_,e,_⟩:=x;exact⟨_,e⟩
 |au C dx bA=>obtain⟨_,_,_,e,_⟩:=x;exact⟨_,e⟩
 |own y=>exact x
 |pW bA=>obtain⟨_,⟨_,_,_,e,_⟩,_⟩:=x;exact⟨_,e⟩
 |Nr lo aF=>obtain⟨_,_,_,e⟩:=x;exact⟨_,e⟩
 |mO cD u eL=>obtain⟨e,_⟩:=x;exact⟨_,e⟩
 |xZ ps=>exact⟨_,show h.get? a=some _ from x⟩
 |MH f y=>exact⟨_,show h.get? a=some _ from x⟩
 |ext f=>obtain⟨_,e,_⟩:=x;exact e
structure tH(P:Program)(w:World)(outer:List Env)(H:aA)(s:Shared)(x C:Addr)(a0:Value)(d:Option Addr)(H':aA)(B:Heap)(aZ:Shared):Prop where
 os:aZ.os=s.os
 jY:AllBare aZ.gens
 fu:kc (iI outer) [] H H' s.heap aZ.heap
 cG:jW P w H' aZ.heap
 i6:Heap.FlyingW B outer x (.ref C) a0 aZ.heap
 vF:∀b lM o,s.heap.get? b=some lM->aZ.heap.get? b=some o->b∉iI outer->B.get? b=some o
 x6:∀b u o,H' b=some u->aZ.heap.get? b=some o->B.get? b=some o
 xn:yi aZ.heap x d
def cW(P:Program)(w:World):u5:=fun outer H s E e aZ=>∃(x C:Addr)(a0:Value)(d:Option Addr)(H':aA)(B:Heap),e=.ref x/\tH P w outer H s x C a0 d H' B aZ/\E (.ref C) d H'
section
variable{P:Program}{w:World}{outer:List Env}{H H':aA}{s aZ:Shared}{x C:Addr}{a0:Value}{d:Option Addr}{B h':Heap}
theorem tH.frame(F:tH P w outer H s x C a0 d H' B aZ){b:Addr}(ae:b∈iI outer):B.get? b=none/\∃o,aZ.heap.get? b=some o/\∀vs,o.data≠.fields vs:=F.i6.2.2.1.mem ae
theorem tH.kG(F:tH P w outer H s x C a0 d H' B aZ)(eF:B.StaysIn h')(Xy:aZ.heap.UpToSlots h'):kc (iI outer) [] H H' s.heap h'/\jW P w H' h':=by
 have at_:∀b lM,s.heap.get? b=some lM->b∉iI outer->∃o,aZ.heap.get? b=some o/\h'.get? b=some o:=fun b lM e ae=>by
  obtain⟨o,q⟩:=F.fu.there b lM e (by simp);exact⟨o,q,eF b o (F.vF b lM o e q ae)⟩
 refine⟨⟨fun b o e n ae _=>?_,fun b o e n ae _=>?_,fun b o e n Y=>F.fu.free b o e n Y,fun b o e _=>?_,F.fu.pV,F.fu.oS,F.fu.pU⟩,fun b u q=>?_⟩
 .obtain⟨fm,aW,bf⟩:=at_ b o e ae;rw[F.fu.keep b o e n ae (by simp)]at aW;cases aW;exact bf
 .obtain⟨b7,q⟩:=F.fu.slot b o e n ae (by simp);obtain⟨_,fm,eW,mS⟩:=F.frame ae;rw[q]at eW;cases eW;obtain⟨ug,bf⟩:=Xy b _ q mS;exact⟨ug,bf⟩
 .by_cases ae:b∈iI outer
  .obtain⟨_,fm,eW,mS⟩:=F.frame ae;obtain⟨ug,bf⟩:=Xy b _ eW mS;exact⟨_,bf⟩
  .obtain⟨fm,_,bf⟩:=at_ b o e ae;exact⟨_,bf⟩
 .refine(F.cG b u q).uh (fun c v aB e=>eF c v ?_) (fun _ I=>I) fun _ _ I=>I;rcases aB with rfl|aB
  .exact F.x6 c u v q e
  .exact F.x6 c _ v aB e
end
structure vd(X:cQ)(pw:jQ):Prop where
 fJ:X.fJ=fun e aZ=>wpAny (model X.prog X.w) X.A (leaving X.env e) (fun _ iY=>cW X.prog X.w X.outer X.ym X.jw pw e iY) (fun c5 iY=>cW X.prog X.w X.outer X.ym X.jw pw c5 iY) aZ
 qp:X.stack=X.env::X.outer
 d9:X.env.frame=some X.env.locals
 ex:X.ex=[]
 calm:X.calm=true
theorem gT{P:Program}{w:World}{K:Frag}{az:Str->Option Value}{base:Heap}{N:List Str}{qual:Str}{scope:Scope}{f:Addr}{dm:Value}{A:Around}{outer:List Env}{s:Shared}{H:aA}{E:jQ}:
  vd (yD (cW P w) P w K az base N qual scope f dm A outer s H E) E:=⟨z,z,z,z,z⟩
section
variable{X:cQ}{ao:List (Addr×Obj)}{O:St}{H H':aA}{s aZ:Shared}{E pw:jQ}{x C:Addr}{a0:Value}{d:Option Addr}{B:Heap}
theorem vd.aaI(L:vd X pw)(P7:∀c d H',E c d H'->pw c d H'):vf (cW X.prog X.w) X E:=by
 intro ao O H s e aZ J h;obtain⟨x,C,a0,d,H',B,rfl,F,q⟩:=h;rw[L.fJ];have Bq:=F.i6;rw[L.qp]at Bq;refine mH ((Pa X.env (.ref x)).any F.xn (wpAny_leaves_onW (Q:=fun _ iY=>Heap.FlyingW B X.outer x (.ref C) a0 iY.heap/\aZ.heap.UpToSlots iY.heap/\iY.os=aZ.os/\iY.gens=aZ.gens) (by rw[J.ok.frames,L.qp]) L.d9 Bq fun h' bk bP=>⟨bk,bP,z,z⟩)) (fun _ iY I=>?_) fun _ _ I=>I;obtain⟨⟨fT,gb,nR,r8⟩,yd⟩:=I;obtain⟨u,ok⟩:=F.kG fT.1 gb;have aQ:∀b o,X.jw.heap.get? b=some o->b≠X.env.locals:=fun b o e=>pn (mY (iW e) J.ok.above);have fB:∀b:Addr,b∉X.ex:=fun b I=>by rw[L.ex]at I;cases I
 have qp:∀b o,X.jw.heap.get? b=some o->b∉X.bA->b∉iI X.stack:=fun b o e ae I=>(dG.mp (J.EP b I)).elim (aQ b o e) ae;refine⟨x,C,a0,d,H',B,z,⟨nR.trans (F.os.trans J.os),by rw[r8];exact F.jY,⟨fun b o e n ae _=>?_,fun b o e n ae _=>?_,fun b o e n _=>?_,fun b o e _=>?_,fun b xs e=>u.pV b xs (J.base.pV b xs e),fun b o v e=>u.oS b o v (J.base.oS b o v e),fun b ps e=>?_⟩,ok,fT,fun b lM o e bf ae=>?_,fun b v o bf e=>?_,yd⟩,P7 _ _ _ q⟩
 .exact u.keep b o (J.base.keep b o e n ae (fB b)) (J.base.free b o e n (fB b)) (qp b o e ae) (by simp)
 .obtain⟨b7,ay⟩:=J.base.slot b o e n ae (fB b);obtain⟨ug,aq⟩:=u.any ay (J.base.free b o e n (fB b)) (by simp);exact⟨ug,aq⟩
 .obtain⟨fm,ay⟩:=J.base.there b o e (fB b);exact u.free b fm ay (J.base.free b o e n (fB b)) (by simp)
 .obtain⟨fm,ay⟩:=J.base.there b o e (fB b);exact u.there b fm ay (by simp)
 .obtain⟨fz,ay⟩:=J.base.pU b ps e;obtain⟨gw,aq⟩:=u.pU b _ ay;exact⟨fz++gw,by rw[aq,append_assoc]⟩
 .obtain⟨gE,ay⟩:=J.base.there b lM e (fB b);obtain⟨nN,aq⟩:=F.fu.there b gE ay (by simp);have bB:=F.vF b gE nN ay aq (qp b lM e ae);have dQ:=fT.1 b nN bB;rw[bf]at dQ;cases dQ;exact bB
 .obtain⟨nN,aq⟩:=(F.cG b v bf).there;have bB:=F.x6 b v nN bf aq;have dQ:=fT.1 b nN bB;rw[e]at dQ;cases dQ;exact bB
theorem vd.own(L:vd X pw):PassesOwn (model X.prog X.w) X.A X.env X.fJ:=by
 rw[L.fJ];exact PassesOwn.leaving
theorem vd.apM(L:vd X pw){h':Heap}{e:Addr}{lK:Obj}{t:Value}(J:Inv X ao O H s)(k:∀b o,s.heap.get? b=some o->h'.get? b=some o)(br:s.heap.get? e=none)
  (cz:h'.get? e=some lK)(aB:lK.cls=.ref C)(aG:lK.data=.fields #[t,.none,.none,.none,.bool false,.none])(Qi:lK.dict=d)
  (oT:∀b u o,H' b=some u->h'.get? b=some o->b≠e/\b∉iI X.stack)(fu:kc X.bA [] X.ym H' X.jw.heap h')(cG:jW X.prog X.w H' h')(q:pw (.ref C) d H'):X.fJ (.ref e) {s with heap:=h'}:=by
 rw[L.fJ];have R0:∀env∈X.stack,∀a,env.frame=some a->a∈iI X.stack:=fun env cz a cC=>mem_filterMap.mpr ⟨env,cz,cC⟩;have ahw:e∉iI X.stack:=fun I=>by
  obtain⟨_,o,aT,_⟩:=J.stack.mem I;rw[br]at aT;cases aT
 obtain⟨B,Q0,wu,uF,Jl⟩:∃B:Heap,(∀b o,B.get? b=some o->h'.get? b=some o)/\(∀b o,h'.get? b=some o->b∉e::iI X.stack->B.get? b=some o)/\B.get? e=none/\h'.FunFrames B X.stack:=
  ⟨hideAll h' (e::iI X.stack),fun b o I=>of_hideAll _ I,fun b o I ae=>hideAll_get _ I ae,hideAll_none _ iO,
   funFrames_hide (J.stack.of_keeps fun b o e _=>⟨o,k b o e,z⟩) fun env cz a cC=>gz _ (R0 env cz a cC)⟩
 have d9:X.A.frames=some (X.env::X.outer):=by rw[J.ok.frames,L.qp]
 rw[L.qp]at Jl;refine mH ((Pa X.env (.ref e)).any (s:={s with heap:=h'}) (d:=d) ⟨lK,cz,Qi⟩
  (wpAny_leaving_firstW (s:={s with heap:=h'}) (a0:=t) (Q:=fun _ iY=>Heap.LeftW B (X.env::X.outer) e lK.cls t h' iY.heap/\iY.os=s.os/\iY.gens=s.gens) d9 Jl L.d9 cz
   Q0 uF aG z z fun DQ x=>⟨x,z,z⟩)) (fun _ iY I=>?_) fun _ _ I=>I
 obtain⟨⟨⟨fT,⟨_,_,gb⟩,nR,r8⟩,yd,Bj⟩,Bk⟩:=I;rw[aB]at nR;have aQ:∀b o,X.jw.heap.get? b=some o->b≠X.env.locals:=fun b o e=>pn (mY (iW e) J.ok.above);have fB:∀b:Addr,b∉X.ex:=fun b I=>by rw[L.ex]at I;cases I
 have vF:∀b lM,X.jw.heap.get? b=some lM->b∉X.bA->b∉e::iI X.stack:=fun b lM iL ae I=>by
  rcases dG.mp I with I|I
  .obtain⟨gE,ay⟩:=J.base.there b lM iL (fB b);rw[I,br]at ay;cases ay
  .exact(dG.mp (J.EP b I)).elim (aQ b lM iL) ae
 have CZ:∀b u o,H' b=some u->h'.get? b=some o->b∉e::iI X.stack:=fun b u o iL ay I=>by
  obtain⟨iG,kN⟩:=oT b u o iL ay;exact(dG.mp I).elim iG kN
 refine⟨e,C,t,d,H',B,z,⟨yd.trans J.os,by rw[Bj];exact J.jY,⟨fun b o ay n ae Y=>?_,fun b o ay n ae Y=>?_,fun b o ay n Y=>fu.free b o ay n Y,fun b o ay Y=>?_,fu.pV,fu.oS,fu.pU⟩,fun b u iL=>?_,⟨fT,uF,gb,nR⟩,fun b lM o ay aq ae=>?_,fun b u o iL aq=>?_,Bk⟩,q⟩
 .exact fT b o (wu b o (fu.keep b o ay n ae Y) (vF b o ay ae))
 .obtain⟨b7,aq⟩:=fu.slot b o ay n ae Y;obtain⟨_,fm,eW,mS⟩:=J.qd.mem ae;have bf:=k b fm eW;rw[aq]at bf;cases bf;obtain⟨ug,bB⟩:=r8 b _ aq mS;exact⟨ug,bB⟩
 .obtain⟨gE,aq⟩:=fu.there b o ay Y;by_cases ae:b∈X.bA
  .obtain⟨_,fm,eW,mS⟩:=J.qd.mem ae;have bf:=k b fm eW;obtain⟨ug,bB⟩:=r8 b _ bf mS;exact⟨_,bB⟩
  .exact⟨_,fT b gE (wu b gE aq (vF b o ay ae))⟩
 .refine(cG b u iL).uh (fun c v aB ay=>fT c v (wu c v ay ?_)) (fun _ I=>I) fun _ _ I=>I;rcases aB with rfl|aB
  .exact CZ c u v iL ay
  .exact CZ c _ v aB ay
 .obtain⟨gE,bB⟩:=fu.there b lM ay (by simp);have dQ:=wu b gE bB (vF b lM ay ae);have f7:=fT b gE dQ;rw[aq]at f7;cases f7;exact dQ
 .obtain⟨gE,bB⟩:=(cG b u iL).there;have dQ:=wu b gE bB (CZ b u gE iL bB);have f7:=fT b gE dQ;rw[aq]at f7;cases f7;exact dQ
end
theorem bZ{P:Program}{w:World}{K:Frag}{az:Str->Option Value}{base:Heap}{N:List Str}{qual:Str}{scope:Scope}{f:Addr}{dm:Value}{A:Around}{outer:List Env}{s:Shared}{H:aA}{E:jQ}:vf (cW P w) (yD (cW P w) P w K az base N qual scope f dm A outer s H E) E:=gT.aaI fun _ _ _ h=>h
def vq:List Value:=[.type "Exception",.type "BaseException",.type "object"]
structure lQ(K:Frag)(C:Addr)(yZ:Option Value):Prop where
 at_:∃(nm q:Str)(N:Addr)(bs:List Value)(hdct:Bool)(sn:List Str)(sub:List Value)(ab:Bool)(col:Option Bool)(dd:Option Addr)(k0 k1 k2 k3 k5:Option Value),
  K.lookup C=some (excClassObj nm q C N bs vq hdct sn sub ab col dd k0 k1 k2 k3 k5 "Exception.__new__")/\nsOkIn K N=true/\nsIn K N "__init__"=some yZ
theorem an1{K:Frag}{h:Heap}{N:Addr}{n:Str}{r:Option Value}{m:Str->Option Value}(X:K.In h)(G:h.Ns N m)(e:nsIn K N n=some r):m n=r:=by
 cases r with
 |none=>exact PySem.W.ns_none_of X G e
 |some v=>
  obtain⟨o,bX,ig,aT,aG,_,bq⟩:=G;unfold nsIn at e;split at e
  .rename_i c d LP kW b7 q;have:=X _ _ q;rw[aT]at this;cases this;cases aG;split at e
   .rename_i gY cz;rw[<-bq];unfold nsFind findBy;rw[<-Array.find?_toList,cz];exact j7 e
   .split at e<;>cases e
  .cases e
theorem lQ.heap{K:Frag}{C:Addr}{yZ:Option Value}(c:lQ K C yZ){h:Heap}(X:K.In h):∃(nm q:Str)(N:Addr)(bs:List Value)(hdct:Bool)(sn:List Str)(sub:List Value)(ab:Bool)(col:Option Bool)(dd:Option Addr)(k0 k1 k2 k3 k5:Option Value)(mN:Str->Option Value),
  h.get? C=some (excClassObj nm q C N bs vq hdct sn sub ab col dd k0 k1 k2 k3 k5 "Exception.__new__")/\h.Ns N mN/\mN "__init__"=yZ:=by
 obtain⟨nm,q,N,bs,hdct,sn,sub,ab,col,dd,k0,k1,k2,k3,k5,lk,ok,e⟩:=c.at_;have G:h.Ns N (h.nsMap N):=.of_isNs (PySem.W.isNs_of_in X ok);exact⟨nm,q,N,bs,hdct,sn,sub,ab,col,dd,k0,k1,k2,k3,k5,_,X _ _ lk,G,an1 X G e⟩
section
variable{X:cQ}{pw:jQ}{C:Addr}{x:Str}{t7 rA pos:Pos}
def asT(E:jQ)(C:Addr):g5:=fun _ _ H=>E (.ref C) none H
theorem qQ(L:vd X pw)(dz:qw X x)(aM:X.az x=some (.ref C))(c:lQ X.K C none)(oX:(x==("__debug__":Str))=false:=by decide):
  ri X (.Raise (some (.Call (.Name x t7) [] [] rA)) none pos) (asT pw C):=by
 intro ao s O H D J h;obtain⟨nm,q,N,bs,hdct,sn,sub,ab,col,dd,k0,k1,k2,k3,k5,mN,li,h7,aF⟩:=c.heap J.iU;refine wpAny_Raise_call_sub (mN:=mN) (N:=N) (nm:=nm) (q:=q) (bs:=bs) (hdct:=hdct) (sn:=sn) (sub:=sub) (ab:=ab) (col:=col) (dd:=dd) (k0:=k0) (k1:=k1) (k2:=k2) (k3:=k3) (k5:=k5) PySem.F.excBase_Exception (J.ok.aG L.calm) z aF (zd J dz aM ⟨z,?_⟩ oX);refine PySem.evalArgs_none ⟨z,jV _,li,h7,fun h' e M=>?_⟩;obtain⟨t,cz,_,_⟩:=M.there;refine L.apM (d:=none) (H':=H) J M.keeps M.new cz z z z (fun b u o aW bf=>?_) ?_ (J.cG.kept M.keeps) h
 .obtain⟨cD,ay⟩:=(J.cG b u aW).there;refine⟨fun I=>?_,fun I=>?_⟩
  .rw[I,M.new]at ay;cases ay
  .rw[J.NR b I]at aW;cases aW
 .have u:=J.base;rw[L.ex]at u;exact u.trans (kc.kept M.keeps)
end
section
variable{X:cQ}{ao:List (Addr×Obj)}{O:St}{H H':aA}{s aZ:Shared}{x C:Addr}{a0:Value}{d:Option Addr}{B h':Heap}
theorem tH.next(F:tH X.prog X.w X.stack H s x C a0 d H' B aZ)(ai:Heap.FlyingW B X.stack x (.ref C) a0 h')(aj:aZ.heap.UpToSlots h')(bN:yi h' x d):tH X.prog X.w X.stack H s x C a0 d H' B {aZ with heap:=h'}:=by
 obtain⟨u,ok⟩:=F.kG ai.1 aj;refine⟨F.os,F.jY,u,ok,ai,fun b lM o ay aq ae=>?_,fun b v o q e=>?_,bN⟩
 .obtain⟨gE,bB⟩:=F.fu.there b lM ay (by simp);have dQ:=F.vF b lM gE ay bB ae;have f7:=ai.1 b gE dQ;rw[aq]at f7;cases f7;exact dQ
 .obtain⟨gE,bB⟩:=(F.cG b v q).there;have dQ:=F.x6 b v gE q bB;have f7:=ai.1 b gE dQ;rw[e]at f7;cases f7;exact dQ
theorem tH.y9(F:tH X.prog X.w X.stack H s x C a0 d H' B aZ)(J:Inv X ao O H s):Inv X ao O H' aZ:=J.Vv (ch:=[]) F.os F.fu F.cG F.jY (fun b I=>absurd I (by simp))
theorem tH.fresh(F:tH X.prog X.w X.stack H s x C a0 d H' B aZ)(J:Inv X ao O H s):s.heap.get? x=none/\H' x=none/\x≠X.env.locals/\x∉X.bA:=by
 obtain⟨lK,vs,T,R5,b8,ay,_,aq,_⟩:=F.i6.2.2.2;have aL:x∉iI X.stack:=fun I=>by
  obtain⟨_,o,bB,mS⟩:=F.frame I;rw[ay]at bB;cases bB;exact mS vs aq
 have ed:s.heap.get? x=none:=by
  cases q:s.heap.get? x with
  |none=>rfl
  |some o=>
   have:=F.vF x o lK q ay aL;rw[F.i6.2.1]at this;cases this
 refine⟨ed,?_,fun I=>?_,fun I=>?_⟩
 .cases q:H' x with
  |none=>rfl
  |some u=>
   have:=F.x6 x u lK q ay;rw[F.i6.2.1]at this;cases this
 .obtain⟨m,⟨o,_,_,bB,_⟩,_⟩:=J.nL;rw[<-I,ed]at bB;cases bB
 .obtain⟨_,o,bB,_⟩:=J.qd.mem I;rw[ed]at bB;cases bB
end
abbrev cQ.nM(X:cQ)(x:Addr):cQ:={X with A:=X.A.mark (some (.ref x)),calm:=false,fJ:=fun _ _=>False}
section
variable{X:cQ}{ao:List (Addr×Obj)}{O:St}{H:aA}{s:Shared}{x:Addr}
theorem cQ.ux.nM(ok:X.ux)(x:Addr):(X.nM x).ux:=
 ⟨ok.mod,ok.kind,ok.yL,ok.BD,ok.above,ok.inj,ok.has,ok.DB,fun I=>noConfusion (show false=true from I),ok.frames,ok.qp,ok.HJ,ok.bs,ok.wh,ok.Ex,ok.DL,ok.qd,ok.Aq⟩
theorem Inv.nM(J:Inv X ao O H s)(x:Addr):Inv (X.nM x) ao O H s:=⟨J.ok.nM x,J.os,J.jY,J.base,J.nL,J.cell,J.free,J.rC,J.pR,J.cG,J.len⟩
theorem Inv.Bc{cB:St}{H':aA}{aZ:Shared}(J:Inv X ao O H s)(cX:Inv (X.nM x) ao cB H' aZ):Inv X ao cB H' aZ:=⟨J.ok,cX.os,cX.jY,cX.base,cX.nL,cX.cell,cX.free,cX.rC,cX.pR,cX.cG,cX.len⟩
theorem tK.Bc{D:dR}{f:Flow}{aZ:Shared}(J:Inv X ao O H s)(h:tK (X.nM x) ao D f aZ):tK X ao D f aZ:=by
 cases f with
 |next=>obtain⟨cB,H',cX,q⟩:=h;exact⟨cB,H',J.Bc cX,q⟩
 |brk=>obtain⟨cB,H',cX,q⟩:=h;exact⟨cB,H',J.Bc cX,q⟩
 |cont=>obtain⟨cB,H',cX,q⟩:=h;exact⟨cB,H',J.Bc cX,q⟩
 |ret u=>obtain⟨v,cB,H',cX,r,q⟩:=h;exact⟨v,cB,H',J.Bc cX,r,q⟩
end
theorem Wd{prog:Program}{w:World}{A:Around}{E:Value->Shared->Prop}{K:Frag}{C gV x:Addr}{i dX:Option Value}{s:Shared}{lK:Obj}{Q:Bool->Shared->Prop}(X:K.In s.heap)(c:lQ K C i)(c':lQ K gV dX)(cz:s.heap.get? x=some lK)(aB:lK.cls=.ref C)
  (a9:Q (decide (C=gV)) s):wpAny (model prog w) A (excMatches (.ref x) (.ref gV)) Q E s:=by
 obtain⟨nm,q,N,bs,hdct,sn,sub,ab,col,dd,k0,k1,k2,k3,k5,mN,li,_,_⟩:=c.heap X;by_cases e:C=gV
 .subst e;obtain⟨aN,g,eU,tk,os⟩:=s;refine wpAny_excMatches_sub_self li cz aB (by decide+kernel) ?_;simpa using a9
 .obtain⟨anL,eW,iQ,agk,aj4,aq8,asA,ae1,ag2,ahe,alE,alF,alG,alH,alI,amd,L6,_,_⟩:=c'.heap X;obtain⟨aN,g,eU,tk,os⟩:=s;have kB:(Value.ref gV::vq).contains (.type "BaseException")=true:=by
   rw[Fg];exact Bool.or_eq_true_iff.mpr (.inr (by decide+kernel))
  have m6:(Value.ref C::vq).contains (.ref gV)=false:=by
   rw[Fg];have:(Value.ref gV==Value.ref C)=false:=by
    rw[E8];intro I;cases I;exact e z
   rw[this];rfl
  have f:=tc_notTuple;have qJ:Q false ⟨aN,g,eU,tk,os⟩:=by simpa[e]using a9
  unfold excMatches
  repeat (first
   |(with_reducible refine Df cz ?_;rw[aB])
   |with_reducible refine Df L6 ?_
   |(with_reducible refine Le L6 ?_;rw[kB])
   |(with_reducible refine Le li ?_;rw[m6])
   |wp_step)
  exact qJ
def Aa(X:cQ)(aL:List ExceptHandler)(t:Addr->Option Addr->g5):Prop:=
 ∀(ao:List (Addr×Obj))(s aZ:Shared)(O:St)(H H':aA)(x C:Addr)(a0:Value)(d:Option Addr)(B:Heap)(i:Option Value)(D:dR),Inv X ao O H s->tH X.prog X.w X.stack H s x C a0 d H' B aZ->lQ X.K C i->t C d D O H'->
  wpAny (model X.prog X.w) X.A (handleBy (.ref x) X.env aL) (tK X ao D) X.fJ aZ
section
variable{X:cQ}{nm:Str}{t7 pos:Pos}{gV:Addr}{dX:Option Value}{Aj:Stmt}{A8:List Stmt}{rest:List ExceptHandler}{b8:g5}{iV:Addr->Option Addr->g5}
theorem Sp:Aa X [] fun _ _ _ _ _=>False:=fun _ _ _ _ _ _ _ _ _ _ _ _ _ _ _ _ h=>h.elim
def Tw(gV:Addr)(b8:g5)(iV:Addr->Option Addr->g5):Addr->Option Addr->g5:=fun C d D O H=>if C=gV then b8 D O H else iV C d D O H
theorem api(dz:qw X nm)(aM:X.az nm=some (.ref gV))(c':lQ X.K gV dX)(JW:∀x,sr (X.nM x) (Aj::A8) b8)(aO:Aa X rest iV)(oX:(nm==("__debug__":Str))=false:=by decide):
  Aa X (.ExceptHandler (some (.Name nm t7)) none (Aj::A8) pos::rest) (Tw gV b8 iV):=by
 intro ao s aZ O H H' x C a0 d B i D J F c h;have bY:=F.y9 J;have yp:=bY.nM x;obtain⟨lK,ay,aq⟩:=F.i6.there;refine wpAny_handleBy_cons (codeAny_handlers_test (zd (X:=X.nM x) yp dz aM (Wd yp.iU c c' ay aq ?_) oX)) (by intro q;cases q);unfold Tw at h;by_cases e:C=gV
 .rw[bT e]at h;simp only[e,decide_true];refine codeAny_handlers_suite (mH ((HD (.ref x) none).any F.xn (lands_againW (Q:=fun _ iY=>Heap.FlyingW B X.stack x (.ref C) a0 iY.heap/\aZ.heap.UpToSlots iY.heap/\∃h',iY={aZ with heap:=h'}) F.i6 fun h' bk bP=>⟨bk,bP,h',z⟩)) (fun _ iY I=>?_) fun _ _ I=>I);obtain⟨⟨fT,gb,h',rfl⟩,nR⟩:=I;have zQ:=F.next fT gb nR;have fy:=zQ.y9 J;refine mH (JW x ao _ O H' D (fy.nM x) h) (fun f b4 q=>?_) fun _ _ I=>False.elim I;exact tK.Bc fy q
 .rw[bz e]at h;simp only[e,decide_false];exact aO ao s aZ O H H' x C a0 d B i D J F c h
end
abbrev cQ.iV(X:cQ)(pl:List (Addr×Obj))(E:Value->Shared->Prop):cQ:={X with ef:=X.ef++pl,fJ:=E}
section
variable{X:cQ}{ao pl:List (Addr×Obj)}{O:St}{H:aA}{s:Shared}{E:Value->Shared->Prop}
theorem cQ.ux.iV(ok:X.ux):(X.iV pl E).ux:=
 ⟨ok.mod,ok.kind,ok.yL,ok.BD,ok.above,ok.inj,ok.has,ok.DB,ok.aG,ok.frames,ok.qp,ok.HJ,ok.bs,ok.wh,ok.Ex,ok.DL,ok.qd,ok.Aq⟩
theorem cQ.ux.zE(ok:(X.iV pl E).ux):X.ux:=
 ⟨ok.mod,ok.kind,ok.yL,ok.BD,ok.above,ok.inj,ok.has,ok.DB,ok.aG,ok.frames,ok.qp,ok.HJ,ok.bs,ok.wh,ok.Ex,ok.DL,ok.qd,ok.Aq⟩
theorem Inv.iV(J:Inv X pl O H s):Inv (X.iV pl E) [] O H s:=⟨J.ok.iV,J.os,J.jY,J.base,J.nL,J.cell,J.free,J.rC,fun p aN=>J.pR p (by simpa using aN),J.cG,J.len⟩
theorem Inv.zE(J:Inv (X.iV pl E) ao O H s):Inv X pl O H s:=⟨J.ok.zE,J.os,J.jY,J.base,J.nL,J.cell,J.free,J.rC,fun p aN=>J.pR p (yf _ aN),J.cG,J.len⟩
theorem tK.zE{D:dR}{f:Flow}{aZ:Shared}(h:tK (X.iV pl E) ao D f aZ):tK X pl D f aZ:=by
 cases f with
 |next=>obtain⟨cB,H',cX,q⟩:=h;exact⟨cB,H',cX.zE,q⟩
 |brk=>obtain⟨cB,H',cX,q⟩:=h;exact⟨cB,H',cX.zE,q⟩
 |cont=>obtain⟨cB,H',cX,q⟩:=h;exact⟨cB,H',cX.zE,q⟩
 |ret u=>obtain⟨v,cB,H',cX,r,q⟩:=h;exact⟨v,cB,H',cX.zE,r,q⟩
end
def asZ(K:Frag)(t:jQ->g5)(uW:Addr->Option Addr->g5):g5:=fun D O H=>∃eK:jQ,t eK D O H/\∀c d H',eK c d H'->∃C i,c=.ref C/\lQ K C i/\∀cB,cB.length=O.length->uW C d D cB H'
section
variable{X:cQ}{body:List Stmt}{h₀:ExceptHandler}{aL:List ExceptHandler}{pos:Pos}{t:jQ->g5}{uW:Addr->Option Addr->g5}{pw:jQ}
theorem Sw(L:vd X pw)(ae:∀(eK:jQ)(pl:List (Addr×Obj))(Fo:Value->Shared->Prop),vf (cW X.prog X.w) (X.iV pl Fo) eK->sr (X.iV pl Fo) body (t eK))(ee:Aa X (h₀::aL) uW):ri X (.Try body (h₀::aL) [] [] pos) (asZ X.K t uW):=by
 intro ao s O H D J h;obtain⟨eK,JC,P7⟩:=h;refine wpAny_Try_except ?_;refine mH (ae eK ao (fun e aZ=>∃(cB:St)(aI:aA)(aU:Shared),Inv X ao cB aI aU/\cW X.prog X.w X.stack aI aU eK e aZ) (fun Sq cB aI aU e bD cX q=>⟨cB,aI,aU,cX.zE,q⟩) [] s O H D J.iV JC) (fun f aU q=>?_) fun e aU q=>?_
 .have eW:=tK.zE q;cases f with
  |next=>exact wpAny_execs_nil eW
  |brk=>exact eW
  |cont=>exact eW
  |ret u=>exact eW
 .obtain⟨cB,aI,bD,cX,x,C,a0,d,H',B,rfl,F,y⟩:=q;obtain⟨gV,i,ay,c,tn⟩:=P7 _ _ _ y;cases ay;have Bq:=F.i6;rw[L.qp]at Bq;refine mH ((VY (.ref x) X.env).any F.xn (wpAny_looks_onW (Q:=fun _ b4=>Heap.HeldW B X.stack x (.ref C) a0 X.env.locals b4.heap/\aU.heap.UpToSlots b4.heap/\∃h',b4={aU with heap:=h'}) (by rw[cX.ok.frames,L.qp]) L.d9 Bq fun h' bk bP=>⟨by rw[L.qp];exact bk,bP,h',z⟩)) (fun _ b4 I=>?_) fun _ _ I=>I;obtain⟨⟨fT,gb,bN,rfl⟩,nR⟩:=I;refine mH ((HD (.ref x) none).any nR (wpAny_landsW (Q:=fun _ eo=>Heap.FlyingW B X.stack x (.ref C) a0 eo.heap/\bN.UpToSlots eo.heap/\∃h',eo={aU with heap:=h'}) fT fun h' bk bP=>⟨bk,bP,h',z⟩)) (fun _ eo I=>?_) fun _ _ I=>I;obtain⟨⟨uY,uZ,ez,rfl⟩,N8⟩:=I;exact ee ao bD _ cB aI H' x C a0 d B i D cX (F.next uY (gb.trans uZ) N8) c (tn cB (cX.len.trans J.len.symm))
end
open PySem.W (Looks InstAt looks_findIn looks_clsIn looks_find)
structure zP(K:Frag)(C f:Addr)(fF:Str):Prop where
 An:lQ K C (some (.ref f))
 xn:hasDictIn K C=true
 iM:findIn K (.ref C) "__setattr__"=some (some (.builtin "object.__setattr__"))
 ga:findIn K (.ref C) "__getattribute__"=some (some (.builtin "BaseException.__getattribute__"))
 gt:findIn K (.ref C) "__getattr__"=some none
 i6:gD K C fF
theorem lQ.dm{K:Frag}{C:Addr}{i:Option Value}(c:lQ K C i):∃dm,clsIn K C=some dm/\dm.mro=.ref C::vq:=by
 obtain⟨nm,q,N,bs,hdct,sn,sub,ab,col,dd,k0,k1,k2,k3,k5,lk,_,_⟩:=c.at_;exact⟨_,by unfold clsIn;rw[lk],z⟩
section
variable{prog:Program}{w:World}{A:Around}{E:Value->Shared->Prop}{s:Shared}{K:Frag}{C e f:Addr}{fF:Str}{cD:Obj}{iX:Option Obj}{v:Value}{i:Option Value}
theorem Wf(X:K.In s.heap)(c:lQ K C i)(cX:InstAt s.heap e cD C iX){T:Value}(dh:vq.contains T=true):Looks (model prog w) s.heap (isInstance (.ref e) T) true:=by
 obtain⟨dm,lI,aM⟩:=c.dm;refine cX.type.andThen (PySem.W.looks_mroIn X ?_);unfold mroIn;rw[lI,j8,aM,bz (by simp),Fg,dh,Bool.or_true]
open PySem.Builtin.ObjectAttr in
theorem ahP{tk:Tok}{R:Result->Shared->Prop}(X:K.In s.heap)(c:zP K C f fF)(cX:InstAt s.heap e cD C iX)
  (h:∀b,wpAny (model prog w) A.in1 (storeInOwnDict (.ref e) (.ref C) (.str fF tk) fF v b)
   (fun fin aZ=>match fin with|.done y=>R (.ok y) aZ|.again c'=>c'.quiet=true/\codeAny (model prog w) A c' R aZ) (fun x aZ=>R (.error x) aZ) s):
  codeAny (model prog w) A (.call (.builtin "object.__setattr__") ⟨[.ref e,.str fF tk,v],[]⟩) R s:=by
 have S:=PySem.F.store_Exception;obtain⟨dm,lI,aM⟩:=c.An.dm;refine codeAny_call_builtin S.slot.plain S.entry (check_slot (M:=model prog w) (s:=s) (i:="object.__setattr__") (owner:="object") (n:="__setattr__") (self:=.ref e) (rest:=[.str fF tk,v]) (kw:=[]) S.kind S.split (Wf X c.An cX (by decide+kernel)) (S.args (.ref e) (.str fF tk) v) ?_);have fL:Looks (model prog w) s.heap (mroOf (.ref C)) (.ref C::vq):=by rw[<-aM];exact(looks_clsIn X lI).andThen .now
 have iJ:Looks (model prog w) s.heap (storeTaker? none) none:=.now;rw[osa_eq,refuse_eq];refine fO (fO (cX.type.here (fO (fL.here ?_))));rw[refuseLoop_ref];have p:=S.passes (.ref e);show wpAny _ _ (refuseLoop (.ref e) "__setattr__" [.type "Exception",.type "BaseException",.type "object"]) _ _ _;rw[p];exact kJ (fO (cX.type.here (fO ((looks_findIn X c.i6).here (fO (iJ.here (h _)))))))
open PySem.Builtin.ObjectAttr in
theorem ahQ{vs:Array Value}{Q:Unit->Shared->Prop}(X:K.In s.heap)(c:zP K C f fF)(cz:s.heap.get? e=some cD)(oV:cD.cls=.ref C)(Mb:cD.dict=none)(Ar:cD.data=.fields vs)
  (a9:∀h',(∀b u,b≠e->s.heap.get? b=some u->h'.get? b=some u)->h'.get? e=some {cD with dict:=some s.heap.objs.size}->h'.Ns1 s.heap.objs.size (fun y=>if y=fF then some v else none)->Q () {s with heap:=h',toks:=s.toks+2}):
  wpAny (model prog w) A (setAttr (.ref e) fF v) Q E s:=by
 have cX:InstAt s.heap e cD C none:=⟨cz,oV,by unfold notCls;rw[Ar],by rw[Mb];trivial⟩;refine set_plain X cX c.iM (ahP (s:={s with toks:=s.toks+1}) X c cX fun b=>?_);obtain⟨dm,lI,gP⟩:=any_some c.xn;have zc:e≠s.heap.objs.size:=pn (iW cz);refine fO (kJ (fO (fO (wpAny_loadPart cz ?_))));rw[oV];refine fO ((looks_clsIn (M:=model prog w) X lI).here (s:={s with toks:=s.toks+1}) ?_);rw[gP,Mb,Ar];have ay:(s.heap.push {cls:=.type "dict",data:=.dict #[]}).get? e=some cD:=ph _ cz;refine fO (wpAny_alloc' (fO (wpAny_update' ay (kJ (a:=some s.heap.objs.size) ?_))));have aq:((s.heap.push {cls:=.type "dict",data:=.dict #[]}).update e fun o=>{cls:=o.cls,dict:=some s.heap.objs.size,data:=o.data,slots:=o.slots}).get? s.heap.objs.size=some {cls:=.type "dict",data:=.dict #[]}:=
  (Heap.get?_update_ne _ _ _ _ zc.symm).trans (Heap.get?_push_at z z)
 have o5:((s.heap.push {cls:=.type "dict",data:=.dict #[]}).update e fun o=>{cls:=o.cls,dict:=some s.heap.objs.size,data:=o.data,slots:=o.slots}).Ns s.heap.objs.size (fun _=>none):=⟨_,#[],_,aq,z,(fun x Y=>absurd Y (by simp)),fun _=>rfl⟩;show wpAny _ _ (storeInDict s.heap.objs.size (.str fF s.toks) fF v) _ _ _;refine fO (kJ (fO (wpAny_nsSet1 (Heap.Ns1.of_empty o5) fun h' ed iZ=>?_)));obtain⟨gE,bX,ig,o7,l6,ud⟩:=ed.count (Within.cons fF v Within.nil);refine fO (wpAny_lookBehind o7 (by rw[l6];exact pastItsLine_dict (i3 ud (by rw[gU];show 1<=16777216+1;omega))) ?_);refine kJ (a9 h' (fun b u ae q=>?_) ?_ ed)
 .exact(iZ.2 b (pn (iW q))).trans ((Heap.get?_update_ne _ _ _ _ ae).trans (ph _ q))
 .refine(iZ.2 e zc).trans (Heap.get?_update_self _ ay ?_);have d9:=(Heap.get?_some_iff.mp cz).2;obtain⟨BG,ry,Ak,vm⟩:=cD;cases Ak<;>first|rfl|exact d9
theorem ahO{d:Addr}{m:Str->Option Value}{vs:Array Value}{N7:Bool}{Q:Value->Shared->Prop}(X:K.In s.heap)(c:zP K C f fF)(cz:s.heap.get? e=some cD)(oV:cD.cls=.ref C)(Mb:cD.dict=some d)(Ar:cD.data=.fields vs)
  (br:s.heap.Ns1 d m)(a6:m fF=some v)(aT:handedIn v=true)(a9:Q v {s with toks:=s.toks+1}):wpAny (model prog w) A (getAttr (.ref e) fF N7) Q E s:=by
 obtain⟨iX,ai,aj⟩:=YW br;have cX:InstAt s.heap e cD C (some iX):=⟨cz,oV,by unfold notCls;rw[Ar],by rw[Mb];exact ai⟩;have fL:=cX.type (M:=model prog w);have iJ:=looks_findIn (M:=model prog w) X c.ga;have tY:=looks_findIn (M:=model prog w) X c.gt;have qk:=looks_find (M:=model prog w) X cX (findObj_own c.xn c.i6 z (by rw[aj,a6]));obtain⟨aN,g,eU,tk,os⟩:=s;unfold getAttr getAttrBy;refine fO (wpAny_mkText (wpAny_holding (fO (fL.at (fO (iJ.at ?_))))));show wpAny _ _ (getAttrByItsOwn (.ref e) (.str fF tk) (.ref C) (.builtin "BaseException.__getattribute__") true N7) _ _ _;unfold getAttrByItsOwn;refine fO ?_;show wpAny _ _ (typeLookup (.ref C) "__getattr__") _ _ _;refine tY.at ?_;refine fO (wpAny_attempt (wpAny_holding ?_));have bg:(N7&&onTheHeap (Value.builtin "BaseException.__getattribute__"))=false:=by cases N7<;>rfl
 unfold callGetattribute;rw[bg];show wpAny _ _ (boundAndCalled (.builtin "BaseException.__getattribute__") (.ref e) (.str fF tk)) _ _ _;unfold boundAndCalled;rw[attr_Exception.ga.bind (.ref e)];refine fO (kJ (wpAny_call ?_));refine codeAny_call_builtin attr_Exception.ga.plain PySem.F.entry_bexc_ga (check_slot (M:=model prog w) (i:="BaseException.__getattribute__") (owner:="BaseException") (n:="__getattribute__") (self:=.ref e) (rest:=[.str fF tk]) (kw:=[]) (by decide+kernel) (by decide+kernel) (Wf X c.An cX (by decide+kernel)) (PySem.F.args_bexc_ga _ _) ?_);unfold Builtin.«object.__getattribute__»;refine fO (kJ (fO (kJ (fO (fL.at (fO (qk.at ?_)))))));refine kJ ?_;show wpAny _ _ (handedOut v) _ _ _;rw[PySem.W.handedOut_of aT];exact kJ a9
end
end bF
namespace bF
open PySem PySem.Spec PyProof.Rows
def uG(C e:Addr)(d:Option Addr):cI:=.ext fun h=>∃(cD:Obj)(t:Value),h.get? e=some cD/\cD.cls=.ref C/\cD.dict=d/\cD.data=.fields #[t,.none,.none,.none,.bool false,.none]
theorem We{P:Program}{w:World}{H:aA}{h:Heap}{C e:Addr}{d:Option Addr}{cD:Obj}{t:Value}(cz:h.get? e=some cD)(aB:cD.cls=.ref C)(aG:cD.dict=d)(Ar:cD.data=.fields #[t,.none,.none,.none,.bool false,.none]):jP P w H h e (uG C e d):=
 ⟨⟨cD,t,cz,aB,aG,Ar⟩,⟨cD,cz⟩,fun ai aj⟨o,u,ay,aq⟩k=>⟨o,u,k _ ay,aq⟩⟩
def wi(H:aA)(e:Addr):aA:=fun b=>if b=e then none else H b
theorem LD{H:aA}{e b:Addr}(h:b≠e):wi H e b=H b:=bz h
theorem OS{H:aA}{e:Addr}:wi H e e=none:=bT z
theorem Vs{H:aA}{e:Addr}{o:cI}(h:H e=none):wi (V H e o) e=H:=by
 funext b
 by_cases q:b=e
 .rw[q,OS,h]
 .rw[LD q,aK q]
theorem atq{H:aA}{p l:Addr}{x y o:cI}(h:l≠p):V (V (V H p x) l o) p y=V (V H l o) p y:=by
 funext b
 by_cases e:b=p
 .rw[e,aP,aP]
 .rw[aK e,aK e];by_cases aq:b=l
  .rw[aq,aP,aP]
  .rw[aK aq,aK aq,aK e]
section
variable{X:cQ}{ao:List (Addr×Obj)}{O:St}{H:aA}{s:Shared}{h':Heap}{a e:Addr}{o:cI}{zM:Heap->Prop}
theorem Inv.new{t':Nat}(J:Inv X ao O H s)(k:∀b u,s.heap.get? b=some u->h'.get? b=some u)(br:s.heap.get? a=none)(new:jP X.prog X.w (V H a o) h' a o):Inv X ao O (V H a o) {s with heap:=h',toks:=t'}:=by
 have cC:H a=none:=by
  cases q:H a with
  |none=>rfl
  |some u=>
   obtain⟨cD,ay⟩:=(J.cG a u q).there;rw[br]at ay;cases ay
 refine J.fu ⟨fun b u q _ _ _=>k b u q,fun b u q _ _ _=>⟨u.slots,k b u q⟩,fun b u q n _=>?_,fun b u q _=>⟨u,k b u q⟩,fun b xs q=>?_,fun b u xs q=>?_,fun b ps q=>⟨#[],?_⟩⟩ fun b u q=>?_
 .rw[aK (fun I=>by rw[I,br]at q;cases q)];exact n
 .rw[aK (eI q cC)];exact q
 .rw[aK (eI q cC)];exact q
 .rw[aK (eI q cC),q];simp
 .by_cases ae:b=a
  .subst ae;rw[aP]at q;cases q;exact new
  .rw[aK ae]at q;exact(J.cG b u q).uh (fun c v _ I=>k c v I) (fun c I=>by rw[aK (eI I cC)];exact I) fun c xs I=>by rw[aK (eI I cC)];exact I
theorem Inv.W7(J:Inv X ao O H s)(cz:H e=some (.ext zM)):Inv X ao O (wi H e) s:=by
 have wO:∀b u,H b=some u->u≠.ext zM->wi H e b=some u:=fun b u q n=>by
  rw[LD (fun I=>n (by rw[I,cz]at q;exact(j7 q).symm))];exact q
 have cF:∀b,H b=none->wi H e b=none:=fun b q=>by
  by_cases I:b=e
  .rw[I,OS]
  .rw[LD I];exact q
 refine⟨J.ok,J.os,J.jY,⟨J.base.keep,J.base.slot,fun b u q n x=>cF b (J.base.free b u q n x),J.base.there,fun b xs q=>wO b _ (J.base.pV b xs q) (by intro I;cases I),fun b u xs q=>wO b _ (J.base.oS b u xs q) (by intro I;cases I),fun b ps q=>?_⟩,J.nL,J.cell,cF _ J.free,fun x c q=>cF c (J.rC x c q),fun p aN=>?_,fun b u q=>?_,J.len⟩
 .obtain⟨m,I⟩:=J.base.pU b ps q;exact⟨m,wO b _ I (by intro I;cases I)⟩
 .obtain⟨o7,l6,ud⟩:=J.pR p aN;exact⟨o7,cF _ l6,ud⟩
 .have ae:b≠e:=fun I=>by rw[I,OS]at q;cases q
  rw[LD ae]at q;exact(J.cG b u q).uh (fun _ _ _ I=>I) (fun c I=>wO c _ I (by intro y;cases y)) fun c xs I=>wO c _ I (by intro y;cases y)
end
section
variable{X:cQ}{C f:Addr}{fF:Str}{o value:Expr}{eR l9:eB}{pos uR:Pos}
def aqe(K:Frag)(C:Addr)(eR l9:eB)(fF:Str):g5:=fun D O H=>l9 O H fun y aI=>eR O aI fun x a7=>∃e f,x=.ref e/\a7 e=some (uG C e none)/\zP K C f fF/\
 ∀d,a7 d=none->d≠e->D.dF O (V (V a7 d (.pW [(fF,y)])) e (uG C e (some d)))
theorem apn(cC:dS X o eR)(a6:dS X value l9)(aL:swapsWith value (some (.Attribute o fF uR)) pos.line X.env=pure false):ri X (.Assign [.Attribute o fF uR] value pos) (aqe X.K C eR l9 fF):=by
 intro ao s O H D J h;refine plainObj_wpAny_Assign_Attribute (eJ (a6 ao s O H _ J h) fun u aU⟨y,aI,bY,eM,q⟩=>eJ (cC ao aU O aI _ bY q) fun lq bD⟨x,a7,fy,cO,e,f,ex,LN,c,bf⟩=>?_) aL;subst ex;obtain rfl:lq=Value.ref e:=cO;obtain⟨⟨cD,t,ay,aq,bB,dQ⟩,_,_⟩:=(show jP X.prog X.w a7 bD.heap e (uG C e none)from fy.cG e _ LN);refine ahQ fy.iU c ay aq bB dQ fun h' k1 k2 k3=>?_;have fB:bD.heap.objs.size≠e:=fun I=>zK _ (I▸iW ay);have d9:a7 bD.heap.objs.size=none:=fy.cG.fresh (dW _);obtain⟨iX,o7⟩:∃iX,h'.get? bD.heap.objs.size=some iX:=let⟨x,_,_,c5,_⟩:=k3;⟨x,c5⟩;have mS:=(Heap.get?_some_iff.mp o7).2;have l6:(bD.heap.push iX).get? bD.heap.objs.size=some iX:=vW bD.heap mS;have yp:Inv X ao O (V a7 bD.heap.objs.size (.pW [(fF,y)])) {bD with heap:=bD.heap.push iX,toks:=bD.toks}:=by
  refine fy.i9 (fun b v q=>ph _ q) (dW _) ⟨_,k3.at (fun x q=>?_),fun g=>?_⟩
  .rw[o7]at q;cases q;exact l6
  .show rj (List.lookup g [(fF,y)]) (if g=fF then some u else none);by_cases I:g=fF
   .subst I;rw[bT z,List.lookup,beq_self_eq_true];exact eM
   .rw[bz I,List.lookup,E8.mpr I];trivial
 have ahv:V a7 bD.heap.objs.size (.pW [(fF,y)]) e=some (uG C e none):=by rw[aK (bC fB)];exact LN
 have z6:=yp.zG (x:=e) (e:=e) (o:=uG C e (some bD.heap.objs.size)) (h':=h') (t':=bD.toks+2) (by rw[ahv];exact True.intro) (.inl z) (fun b v ae q=>?_) ⟨_,k2⟩ (We k2 aq z dQ)
 .exact⟨O,_,z6,bf _ d9 fB⟩
 .have q:(bD.heap.push iX).get? b=some v:=q;by_cases I:b=bD.heap.objs.size
  .rw[I,l6]at q;cases q;rw[I];exact o7
  .have:bD.heap.get? b=some v:=by
    rw[Heap.get?_push_ne _ _ _ I]at q;exact q
   exact k1 b v ae this
end
def NN(C:Addr)(fF:Str):dj:=fun vs H Q _=>∃(e:Addr)(v:aa),vs=[.ref e,v]/\H e=some (uG C e none)/\∀d,H d=none->d≠e->Q .b9 (V (V H d (.pW [(fF,v)])) e (uG C e (some d)))
section
variable{X:cQ}{g4:u5}{k:Nat}{C f:Addr}{gO:FuncData}{ps:List Str}{fF:Str}{E:jQ}{ao:List (Addr×Obj)}{O:St}{H:aA}{s:Shared}{Q:gc}{v:aa}{u:Value}
theorem aqa(c:zP X.K C f fF)(qH:PySem.W.isFn X.K (.ref f)=true)(F:cZ X.prog X.w X.K X.az X.base g4 k f gO ps (NN C fF))(aO:kM (k+1) X.A)(ae:Binds X.K gO ps [])(Y:vf g4 X E)(J:Inv X ao O H s)(r:RelV v u)
  (h:∀e d,s.heap.get? e=none->H e=none->H d=none->d≠e->Q (.ref e) (V (V H d (.pW [(fF,v)])) e (uG C e (some d)))):wpAny (model X.prog X.w) X.A (call (.ref C) [u]) (nU X ao O Q) X.fJ s:=by
 obtain⟨nm,q,N,bs,hdct,sn,sub,ab,col,dd,k0,k1,k2,k3,k5,mN,li,h7,aF⟩:=c.An.heap J.iU;obtain⟨KA,B4,ajK⟩:∃KA,s.heap.get? f=some KA/\KA.cls=.type "function":=by
  have I:=beq_iff_eq.mp qH;obtain⟨KA,l,I⟩:=iy.mp (show(X.K.lookup f).map (·.cls)=some (.type "function")from I);exact⟨KA,J.iU _ _ l,I⟩
 obtain⟨aN,g,eU,tk,os⟩:=s;refine wpAny_call_exc_init PySem.F.excBase_Exception li h7 aF B4 ajK (fun h' e M=>?_) (by show 1<=sizeLine;decide);obtain⟨t,cz,_,_⟩:=M.there;have cX:Inv X ao O (V H e (uG C e none)) ⟨h',g,eU,tk,os⟩:=J.new (t':=tk) M.keeps M.new (We cz z z z);have ki:H e=none:=by
  cases I:H e with
  |none=>rfl
  |some w=>
   obtain⟨cD,ay⟩:=(J.cG e w I).there;have aq:=M.new;rw[aq]at ay;cases ay
 have sp:NN C fF [.ref e,v] (V H e (uG C e none)) (fun x a7=>x=.b9/\Q (.ref e) a7) E:=by
  refine⟨e,v,z,aP,fun d aG Qj=>⟨z,?_⟩⟩;rw[atq Qj];exact h e d M.new ki (by rw[aK Qj]at aG;exact aG) Qj
 have gQ:eS [aa.ref e,v] [Value.ref e,u]:=.cons z (.cons r .nil);have aD:([Value.ref e,u]++[]).length=ps.length:=F.len _ _ _ _ sp;refine wpAny_call (codeAny_mono (F.run _ X.stack _ _ ⟨[.ref e,u],[]⟩ [.ref e,u] _ _ E (aO.make C [u] []) (cX.Ph.make C [u] []) (ae _ [.ref e,u] cX.iU aD) gQ sp) fun y aZ I=>?_);cases y with
 |error x=>exact Y ao O _ _ x aZ cX I
 |ok i6=>
  cases i6 with
  |ret y=>
   obtain⟨bL,a7,z6,ia,yG,bf⟩:=cX.after I;subst yG;exact⟨ia,⟨aa.ref e,a7,z6,z,bf⟩⟩
  |next=>exact False.elim I
  |brk=>exact False.elim I
  |cont=>exact False.elim I
end
section
variable{X:cQ}{ao:List (Addr×Obj)}{O:St}{H:aA}{s:Shared}{pw:jQ}{e C:Addr}{lK:Obj}{d:Option Addr}{t:Value}
theorem vd.apO(L:vd X pw)(J:Inv X ao O H s)(cz:s.heap.get? e=some lK)(aB:lK.cls=.ref C)(aG:lK.data=.fields #[t,.none,.none,.none,.bool false,.none])(Qi:lK.dict=d)
  (br:X.jw.heap.get? e=none)(oT:H e=none)(q:pw (.ref C) d H):X.fJ (.ref e) s:=by
 rw[L.fJ];have R0:∀env∈X.stack,∀a,env.frame=some a->a∈iI X.stack:=fun env cz a cC=>mem_filterMap.mpr ⟨env,cz,cC⟩;have ahw:e∉iI X.stack:=fun I=>by
  obtain⟨_,o,aT,mS⟩:=J.stack.mem I;rw[cz]at aT;cases aT;exact mS _ aG
 have fu:kc X.bA [] X.ym H X.jw.heap s.heap:=by
  have u:=J.base;rw[L.ex]at u;exact u
 obtain⟨B,Q0,wu,uF,Jl⟩:∃B:Heap,(∀b o,B.get? b=some o->s.heap.get? b=some o)/\(∀b o,s.heap.get? b=some o->b∉e::iI X.stack->B.get? b=some o)/\B.get? e=none/\s.heap.FunFrames B X.stack:=
  ⟨hideAll s.heap (e::iI X.stack),fun b o I=>of_hideAll _ I,fun b o I ae=>hideAll_get _ I ae,hideAll_none _ iO,
   funFrames_hide (J.stack.of_keeps fun b o e _=>⟨o,e,z⟩) fun env cz a cC=>gz _ (R0 env cz a cC)⟩
 have d9:X.A.frames=some (X.env::X.outer):=by rw[J.ok.frames,L.qp]
 rw[L.qp]at Jl;refine mH ((Pa X.env (.ref e)).any (s:=s) (d:=d) ⟨lK,cz,Qi⟩
  (wpAny_leaving_firstW (s:=s) (a0:=t) (Q:=fun _ iY=>Heap.LeftW B (X.env::X.outer) e lK.cls t s.heap iY.heap/\iY.os=s.os/\iY.gens=s.gens) d9 Jl L.d9 cz
   Q0 uF aG z z fun DQ x=>⟨x,z,z⟩)) (fun _ iY I=>?_) fun _ _ I=>I
 obtain⟨⟨⟨fT,⟨_,_,gb⟩,nR,r8⟩,yd,Bj⟩,Bk⟩:=I;rw[aB]at nR;have aQ:∀b o,X.jw.heap.get? b=some o->b≠X.env.locals:=fun b o e=>pn (mY (iW e) J.ok.above);have fB:∀b:Addr,b∉X.ex:=fun b I=>by rw[L.ex]at I;cases I
 have vF:∀b lM,X.jw.heap.get? b=some lM->b∉X.bA->b∉e::iI X.stack:=fun b lM iL ae I=>by
  rcases dG.mp I with I|I
  .rw[I,br]at iL;cases iL
  .exact(dG.mp (J.EP b I)).elim (aQ b lM iL) ae
 have CZ:∀b u o,H b=some u->s.heap.get? b=some o->b∉e::iI X.stack:=fun b u o iL ay I=>by
  rcases dG.mp I with I|I
  .rw[I,oT]at iL;cases iL
  .rw[J.NR b I]at iL;cases iL
 refine⟨e,C,t,d,H,B,z,⟨yd.trans J.os,by rw[Bj];exact J.jY,⟨fun b o ay n ae Y=>?_,fun b o ay n ae Y=>?_,fun b o ay n Y=>fu.free b o ay n Y,fun b o ay Y=>?_,fu.pV,fu.oS,fu.pU⟩,fun b u iL=>?_,⟨fT,uF,gb,nR⟩,fun b lM o ay aq ae=>?_,fun b u o iL aq=>?_,Bk⟩,q⟩
 .exact fT b o (wu b o (fu.keep b o ay n ae Y) (vF b o ay ae))
 .obtain⟨b7,aq⟩:=fu.slot b o ay n ae Y;obtain⟨_,fm,eW,mS⟩:=J.qd.mem ae;have bf:=eW;rw[aq]at bf;cases bf;obtain⟨ug,bB⟩:=r8 b _ aq mS;exact⟨ug,bB⟩
 .obtain⟨gE,aq⟩:=fu.there b o ay Y;by_cases ae:b∈X.bA
  .obtain⟨_,fm,eW,mS⟩:=J.qd.mem ae;have bf:=eW;obtain⟨ug,bB⟩:=r8 b _ bf mS;exact⟨_,bB⟩
  .exact⟨_,fT b gE (wu b gE aq (vF b o ay ae))⟩
 .refine(J.cG b u iL).uh (fun c v aB ay=>fT c v (wu c v ay ?_)) (fun _ I=>I) fun _ _ I=>I;rcases aB with rfl|aB
  .exact CZ c u v iL ay
  .exact CZ c _ v aB ay
 .obtain⟨gE,bB⟩:=fu.there b lM ay (by simp);have dQ:=wu b gE bB (vF b lM ay ae);have f7:=fT b gE dQ;rw[aq]at f7;cases f7;exact dQ
 .obtain⟨gE,bB⟩:=(J.cG b u iL).there;have dQ:=wu b gE bB (CZ b u gE iL bB);have f7:=fT b gE dQ;rw[aq]at f7;cases f7;exact dQ
end
section
variable{M:Model}{A:Around}{E:Value->Shared->Prop}{s:Shared}{env:Env}{nm q:Str}{C N:Addr}{bs bm:List Value}{hdct:Bool}{sn:List Str}{sub:List Value}{ab:Bool}{col:Option Bool}{dd:Option Addr}{k0 k1 k2 k3 k5:Option Value}{newId:String}
theorem apN{x:Sem Value}{Q:Flow->Shared->Prop}(ae:bm.contains (.type "BaseException")=true)(ee:A.handled=none)
  (h:wpAny M A x (fun v gJ=>∃e j0 t b7,v=.ref e/\gJ.heap.get? C=some (excClassObj nm q C N bs bm hdct sn sub ab col dd k0 k1 k2 k3 k5 newId)/\gJ.heap.get? e=some ⟨.ref C,j0,.fields #[t,.none,.none,.none,.bool false,.none],b7⟩/\E (.ref e) gJ) E s):
  wpAny M A (raiseStmt env (some x) none) Q E s:=by
 have kB:(Value.ref C::bm).contains (.type "BaseException")=true:=by rw[Fg,ae,Bool.or_true]
 unfold raiseStmt;refine fO (mH h (fun v aU I=>?_) fun _ _ x=>x);obtain⟨e,j0,t,b7,rfl,fT,gb,r8⟩:=I;obtain⟨aN,g,d,tk,os⟩:=aU
 repeat (first|with_reducible refine Df gb ?_|with_reducible refine Df fT ?_|(with_reducible refine Le fT ?_;rw[kB])|wp_step)
 exact wpAny_raiseNew_none ee r8
end
section
variable{X:cQ}{pw:jQ}{C f:Addr}{gO:FuncData}{ps:List Str}{k:Nat}{fF x:Str}{t7 rA pos:Pos}{arg:Expr}{t:nY}
def asU(E:jQ)(C:Addr)(fF:Str)(t:nY):g5:=fun _ O H=>t O H fun vs aI=>∃v,vs=[v]/\∀d,aI d=none->E (.ref C) (some d) (V aI d (.pW [(fF,v)]))
theorem EH(L:vd X pw)(dz:qw X x)(aM:X.az x=some (.ref C))(c:zP X.K C f fF)(qH:PySem.W.isFn X.K (.ref f)=true)(akm:keepIn X.K (.ref C)=true)(F:cZ X.prog X.w X.K X.az X.base (cW X.prog X.w) k f gO ps (NN C fF))
  (aO:kM (k+1) X.A)(ae:Binds X.K gO ps [])(cC:tI X [arg] t)(oX:(x==("__debug__":Str))=false:=by decide)(cz:starEach [arg] X.env=(false,eval arg X.env)::starEach [] X.env:=by rfl)(pM:(backTo rA (starEach [] X.env)).any (·.1)=false:=by rfl):
  ri X (.Raise (some (.Call (.Name x t7) [arg] [] rA)) none pos) (asU pw C fF t):=by
 intro ao s O H D J h;rw[arm_exec_Raise];refine fO (wpAny_standAt ?_);obtain⟨nm,q,N,bs,hdct,sn,sub,ab,col,dd,k0,k1,k2,k3,k5,lk,ok,V7⟩:=c.An.at_;show wpAny _ _ (raiseStmt X.env (some (do let v<-eval (.Call (.Name x t7) [arg] [] rA) X.env;standAt pos;pure v)) none) _ _ _;refine apN (C:=C) (nm:=nm) (q:=q) (N:=N) (bs:=bs) (bm:=vq) (hdct:=hdct) (sn:=sn) (sub:=sub) (ab:=ab) (col:=col) (dd:=dd) (k0:=k0) (k1:=k1) (k2:=k2) (k3:=k3) (k5:=k5) (newId:="Exception.__new__") (by decide+kernel) (J.ok.aG L.calm) (fO ?_);refine Lb (zd J dz aM ?_ oX);refine callWith_K (h₀:=X.base) J.ok.mod.Eh akm (eJ (cC rA ao s O H _ J h) fun us aU⟨vs,aI,bY,r,v,yG,aW⟩=>⟨bY.iU,?_⟩) cz pM;subst yG;obtain⟨u,rfl,o9⟩:=r.pQ;refine mH (aqa (E:=fun _ _ _=>False) (Q:=fun y a7=>∃e d,y=.ref e/\aU.heap.get? e=none/\aI e=none/\aI d=none/\d≠e/\a7=V (V aI d (.pW [(fF,v)])) e (uG C e (some d))) c qH F aO ae (L.aaI fun _ _ _ I=>I.elim) bY o9
  fun e d ed fc ql AI=>⟨e,d,z,ed,fc,ql,AI,z⟩) (fun jy bD I=>?_) fun _ _ I=>I
 obtain⟨y,a7,cX,eM,e,d,rfl,ed,fc,ql,AI,rfl⟩:=I;obtain rfl:jy=Value.ref e:=eM;obtain⟨⟨cD,qW,ay,aq,bB,dQ⟩,_,_⟩:=(show jP X.prog X.w _ bD.heap e (uG C e (some d))from cX.cG e _ aP);have z6:=cX.W7 (e:=e) aP;rw[Vs (by rw[aK (bC AI)];exact fc)]at z6;have f7:bD.heap.get? e=some ⟨.ref C,some d,.fields #[qW,.none,.none,.none,.bool false,.none],cD.slots⟩:=by
  obtain⟨BG,ry,Ak,vm⟩:=cD;cases aq;cases bB;cases dQ;exact ay
 refine fO (wpAny_standAt (kJ ⟨e,some d,qW,cD.slots,z,cX.iU _ _ lk,f7,L.apO z6 ay aq dQ bB ?_ (by rw[aK (bC AI)];exact fc) (aW d ql)⟩));cases I:X.jw.heap.get? e with
 |none=>rfl
 |some o=>
  obtain⟨fm,qv⟩:=bY.base.there e o I (by rw[L.ex];simp);rw[ed]at qv;cases qv
end
def yb(C x:Addr)(d:Option Addr):cI:=.ext fun h=>∃(cD:Obj)(vs:Array Value),h.get? x=some cD/\cD.cls=.ref C/\cD.dict=d/\cD.data=.fields vs
theorem atO{P:Program}{w:World}{H:aA}{h:Heap}{C e:Addr}{d:Option Addr}{cD:Obj}{vs:Array Value}(cz:h.get? e=some cD)(aB:cD.cls=.ref C)(aG:cD.dict=d)(Ar:cD.data=.fields vs):jP P w H h e (yb C e d):=
 ⟨⟨cD,vs,cz,aB,aG,Ar⟩,⟨cD,cz⟩,fun ai aj⟨o,u,ay,aq⟩k=>⟨o,u,k _ ay,aq⟩⟩
section
variable{X:cQ}{ao:List (Addr×Obj)}{O:St}{H:aA}{s:Shared}{h':Heap}{a e:Addr}{o:cI}
theorem Inv.as9(J:Inv X ao O H s)(oT:H a=none)(br:X.jw.heap.get? a=none)(aD:a≠X.env.locals)(aB:∀x c,X.env.cells.lookup x=some c->c≠a)(aN:∀p∈X.ef++ao,p.1≠a)(new:jP X.prog X.w (V H a o) s.heap a o):Inv X ao O (V H a o) s:=by
 have wO:∀b u,H b=some u->V H a o b=some u:=fun b u q=>by rw[aK (eI q oT)];exact q
 have cF:∀b,H b=none->b≠a->V H a o b=none:=fun b q I=>by rw[aK I];exact q
 refine⟨J.ok,J.os,J.jY,⟨J.base.keep,J.base.slot,fun b u q n x=>cF b (J.base.free b u q n x) (fun I=>by rw[I,br]at q;cases q),J.base.there,fun b xs q=>wO b _ (J.base.pV b xs q),fun b u xs q=>wO b _ (J.base.oS b u xs q),fun b ps q=>?_⟩,J.nL,J.cell,cF _ J.free (bC aD),fun x c q=>cF c (J.rC x c q) (aB x c q),fun p Yb=>?_,fun b u q=>?_,J.len⟩
 .obtain⟨m,I⟩:=J.base.pU b ps q;exact⟨m,wO b _ I⟩
 .obtain⟨o7,l6,ud⟩:=J.pR p Yb;exact⟨o7,cF _ l6 (aN p Yb),ud⟩
 .by_cases ae:b=a
  .subst ae;rw[aP]at q;cases q;exact new
  .rw[aK ae]at q;exact(J.cG b u q).uh (fun _ _ _ I=>I) (fun c I=>wO c _ I) fun c xs I=>wO c _ I
theorem Inv.names{t':Nat}{dB:Str->Option Value}(J:Inv X ao O H s)(iZ:Heap.SameBut X.env.locals s.heap h')(br:h'.Ns X.env.locals dB):Inv X ao (O.map fun _=>none) H {s with heap:=h',toks:=t'}:=by
 have cN:∀b u,b≠X.env.locals->s.heap.get? b=some u->h'.get? b=some u:=fun b u ae q=>(iZ.2 b ae).trans q;have aQ:∀b u,X.jw.heap.get? b=some u->b≠X.env.locals:=fun b u q=>pn (mY (iW q) J.ok.above);have bw:∀b u,H b=some u->b≠X.env.locals:=fun b u q I=>by rw[I,J.free]at q;cases q
 refine⟨J.ok,J.os,J.jY,⟨fun b u q n x y=>cN b u (aQ b u q) (J.base.keep b u q n x y),fun b u q n x y=>?_,J.base.free,fun b u q x=>?_,J.base.pV,J.base.oS,J.base.pU⟩,⟨dB,br,fun i x v _ q _=>?_⟩,fun x c q=>?_,J.free,J.rC,fun p aN=>?_,fun b u q=>?_,by rw[cA];exact J.len⟩
 .obtain⟨b7,I⟩:=J.base.slot b u q n x y;exact⟨b7,cN _ _ (aQ b u q) I⟩
 .obtain⟨fm,I⟩:=J.base.there b u q x;exact⟨fm,cN _ _ (aQ b u q) I⟩
 .rw[h8]at q;cases I:O[i]? with
  |none=>rw[I]at q;cases q
  |some y=>rw[I]at q;cases q
 .obtain⟨v,I⟩:=J.cell x c q;refine⟨v,?_⟩;have aB:c≠X.env.locals:=J.jZ x c q;obtain⟨cD,fT,gb⟩:=I;exact⟨cD,cN _ _ aB fT,gb⟩
 .obtain⟨o7,l6,ud,aaC⟩:=J.pR p aN;exact⟨cN _ _ ud o7,l6,ud,aaC⟩
 .refine(J.cG b u q).uh (fun c v aB I=>cN c v ?_ I) (fun _ I=>I) fun _ _ I=>I;rcases aB with rfl|aB
  .exact bw c u q
  .exact bw c _ aB
end
section
variable{X:cQ}{o:Expr}{fF:Str}{eR:eB}{pos:Pos}
def adv(K:Frag)(eR:eB)(fF:Str):eB:=fun O H Q=>eR O H fun x aI=>∃e C f d bA v,x=.ref e/\aI e=some (yb C e (some d))/\zP K C f fF/\aI d=some (.pW bA)/\bA.lookup fF=some v/\Q v aI
theorem apf(cz:dS X o eR)(ae:attributeBase o fF X.env (eval o X.env)=eval o X.env):dS X (.Attribute o fF pos) (adv X.K eR fF):=by
 intro ao s O H Q J h;refine UY ae (eJ (cz ao s O H _ J h) fun u aU⟨x,aI,bY,cO,e,C,f,d,bA,v,ex,LN,c,aG,aD,q⟩=>?_);subst ex;obtain rfl:u=Value.ref e:=cO;obtain⟨⟨cD,vs,ay,aq,bB,dQ⟩,_,_⟩:=(show jP X.prog X.w aI aU.heap e (yb C e (some d))from bY.cG e _ LN);obtain⟨m,ed,fc⟩:=(show jP X.prog X.w aI aU.heap d (.pW bA)from bY.cG d _ aG);obtain⟨y,bu,eM⟩:=rj.Tn (v:=v) (o:=m fF) (by rw[<-aD];exact fc fF);exact ahO bY.iU c ay aq bB dQ ed bu (Xz eM) ⟨v,aI,bY.qt _,eM,q⟩
end
section
variable{X:cQ}{nm n:Str}{t7 pos:Pos}{gV:Addr}{dX:Option Value}{Aj:Stmt}{A8:List Stmt}{rest:List ExceptHandler}{b8:g5}{iV:Addr->Option Addr->g5}{i:Nat}
def afj(C x:Addr)(d:Option Addr)(k:Nat)(D:dR):dR:=
 {dF:=fun _ H=>H x=some (yb C x d)/\D.dF (replicate k none) (wi H x),bV:=fun _ H=>H x=some (yb C x d)/\D.bV (replicate k none) (wi H x),k9:=fun _ H=>H x=some (yb C x d)/\D.k9 (replicate k none) (wi H x),A5:=fun v H=>H x=some (yb C x d)/\D.A5 v (wi H x)}
def Tz(gV:Addr)(i:Nat)(b8:g5)(iV:Addr->Option Addr->g5):Addr->Option Addr->g5:=fun C d D O H=>if C=gV then ∀x,H x=none->b8 (afj C x d O.length D) (O.set i (some (.ref x))) (V H x (yb C x d))else iV C d D O H
theorem aph(aj9:X.ex=[])(h7:X.N.Nodup)(aF:X.N[i]?=some n)(Qx:X.env.scope.names.lookup n=some .local)(dz:qw X nm)(aM:X.az nm=some (.ref gV))(c':lQ X.K gV dX)(JW:∀x,sr (X.nM x) (Aj::A8) b8)(aO:Aa X rest iV)(oX:(nm==("__debug__":Str))=false:=by decide):
  Aa X (.ExceptHandler (some (.Name nm t7)) (some n) (Aj::A8) pos::rest) (Tz gV i b8 iV):=by
 intro ao s aZ O H H' x C a0 d B yZ D J F c h;have bY:=F.y9 J;have yp:=bY.nM x;obtain⟨lK,ay,aq⟩:=F.i6.there;refine wpAny_handleBy_cons (codeAny_handlers_test (zd (X:=X.nM x) yp dz aM (Wd yp.iU c c' ay aq ?_) oX)) (by intro q;cases q);unfold Tz at h;by_cases e:C=gV
 .rw[bT e]at h;simp only[e,decide_true];refine codeAny_handlers_suite_as (mH ((HD (.ref x) none).any F.xn (lands_againW (Q:=fun _ iY=>Heap.FlyingW B X.stack x (.ref C) a0 iY.heap/\aZ.heap.UpToSlots iY.heap/\∃h',iY={aZ with heap:=h'}) F.i6 fun h' bk bP=>⟨bk,bP,h',z⟩)) (fun _ iY I=>?_) fun _ _ I=>I);obtain⟨⟨fT,gb,h',rfl⟩,nR⟩:=I;have zQ:=F.next fT gb nR;have fy:=zQ.y9 J;obtain⟨f1,f2,jG,pJ⟩:=zQ.fresh J;obtain⟨cD,vs,T,R5,avn,g1,g2,g3,_⟩:=zQ.i6.2.2.2;obtain⟨ava,hU,lg⟩:=zQ.xn;rw[g1]at hU;cases hU;have ZL:∀y c,X.env.cells.lookup y=some c->c≠x:=fun y c q I=>by
   obtain⟨v,gE,aW,bf⟩:=fy.cell y c q;rw[I,g1]at aW;cases aW;rw[g3]at bf;cases bf
  refine Tr (v:=aa.ref x) fy h7 aF (.inl Qx) z (fun b4 lS⟨a,iZ,cC⟩=>?_) (.inr Qx);have atL:x≠a:=by
   rcases cC with I|I
   .rw[I];exact jG
   .exact fun q=>ZL n a I q.symm
  have Jv:b4.heap.get? x=some cD:=(iZ.2 x atL).trans g1;have cX:=lS.as9 (a:=x) (o:=yb C x d) f2 ?_ jG ZL (fun p aN I=>?_) (atO Jv g2.1 lg g3)
  .refine mH (JW x ao b4 _ _ _ (cX.nM x) (h x f2)) (fun i6 eo q=>?_) fun _ _ I=>False.elim I;have q:=tK.Bc (x:=x) cX q;have al3:O.length=X.N.length:=J.len;have BX:∀{cB:St}{b6:aA},Inv X ao cB b6 eo->b6 x=some (yb C x d)->∀(P:Shared->Prop),(∀lO,Inv X ao (replicate O.length none) (wi b6 x) lO->P lO)->wpAny (model X.prog X.w) X.A (do bindName X.env n .none;unbindBehindTheSuite X.env n pos) (fun _ lO=>P lO) X.fJ eo:=fun{cB b6}w6 Y P pK=>by
    have v8:=w6.W7 Y;obtain⟨m,aM,_⟩:=v8.nL;refine wpAny_nameGoes Qx aM (by rw[v8.ok.kind];rfl) fun i7 YY Kn aqh=>pK _ ?_;have Us:=v8.names (t':=eo.toks+1) aqh Kn;have nh:cB.map (fun _=>(none:Option aa))=replicate O.length none:=by
     rw[List.map_const',w6.len,al3]
    rw[nh]at Us;exact Us
   cases i6 with
   |next=>obtain⟨cB,b6,w6,Y,y⟩:=q;exact BX w6 Y _ fun lO v8=>⟨_,_,v8,y⟩
   |brk=>obtain⟨cB,b6,w6,Y,y⟩:=q;exact BX w6 Y _ fun lO v8=>⟨_,_,v8,y⟩
   |cont=>obtain⟨cB,b6,w6,Y,y⟩:=q;exact BX w6 Y _ fun lO v8=>⟨_,_,v8,y⟩
   |ret u=>obtain⟨v,cB,b6,w6,r,Y,y⟩:=q;exact BX w6 Y _ fun lO v8=>⟨v,_,_,v8,r,y⟩
  .cases I:X.jw.heap.get? x with
   |none=>rfl
   |some an5=>
    have dF:x∉X.ex:=fun q=>by rw[aj9]at q;cases q
    obtain⟨gE,adW⟩:=J.base.there x an5 I dF;rw[f1]at adW;cases adW
  .have:=(J.pR p aN).1;rw[I,f1]at this;cases this
 .rw[bz e]at h;simp only[e,decide_false];exact aO ao s aZ O H H' x C a0 d B yZ D J F c h
end
theorem atd:isSubtype (.type "tuple") (.type "tuple")=pure true:=by rfl
theorem ahN{prog:Program}{w:World}{A:Around}{E:Value->Shared->Prop}{K:Frag}{C x jK:Addr}{jB:List Addr}{i:Option Value}{s:Shared}{lK:Obj}{Q:Bool->Shared->Prop}(X:K.In s.heap)(c:lQ K C i)(cs:∀gV∈jB,∃dX,lQ K gV dX)
  (cz:s.heap.get? x=some lK)(aB:lK.cls=.ref C)(bO:s.heap.get? jK=some {cls:=Value.type "tuple",data:=Data.seq (jB.map Value.ref).toArray})(a9:Q (decide (C∈jB)) s):wpAny (model prog w) A (excMatches (.ref x) (.ref jK)) Q E s:=by
 obtain⟨nm,q,N,bs,hdct,sn,sub,ab,col,dd,k0,k1,k2,k3,k5,mN,li,_,_⟩:=c.heap X;obtain⟨aN,g,eU,tk,os⟩:=s;unfold excMatches
 repeat (first
   |with_reducible refine Df bO ?_
   |wp_step)
 show wpAny (model prog w) A (isSubtype (Value.type "tuple") (Value.type "tuple")) _ E _;rw[atd]
 repeat (first
   |with_reducible refine Df bO ?_
   |wp_step)
 show wpAny (model prog w) A (forIn (jB.map Value.ref) PUnit.unit (fun(c:Value)(_:PUnit)=>(do
   let b<-isExcClass c
   if (!b)=true then do
    rule "try.except-non-exception-class"
    raiseErrorWords "TypeError" "catching classes that do not inherit from BaseException is not allowed"
    pure (ForInStep.yield PUnit.unit)
   else pure (ForInStep.yield PUnit.unit):Sem (ForInStep PUnit)))) _ E _
 refine wpAny_forIn_list _ (fun rest _ aZ=>aZ=⟨aN,g,eU,tk,os⟩/\∀v∈rest,∃gV∈jB,v=Value.ref gV) _ ?_ ?_ _ _ ⟨z,fun v a6=>?_⟩
 rotate_left 2
 .obtain⟨gV,ai,aj⟩:=vY.mp a6;exact⟨gV,ai,aj.symm⟩
 .rintro v rest _ aZ ⟨rfl,a6⟩;obtain⟨gV,L6,rfl⟩:=a6 v iO;obtain⟨dX,c'⟩:=cs gV L6;obtain⟨anL,eW,iQ,agk,aj4,aq8,asA,ae1,ag2,ahe,alE,alF,alG,alH,alI,amd,Xw,_,_⟩:=c'.heap X;have kB:(Value.ref gV::vq).contains (.type "BaseException")=true:=by
   rw[Fg];exact Bool.or_eq_true_iff.mpr (.inr (by decide+kernel))
  have f:=tc_notTuple;unfold isExcClass
  repeat (first
   |with_reducible refine Df Xw ?_
   |(with_reducible refine Le Xw ?_;rw[kB])
   |wp_step)
  exact⟨z,fun v h=>a6 v (gz _ h)⟩
 .rintro _ aZ ⟨rfl,_⟩
  repeat (first
   |(with_reducible refine Df cz ?_;rw[aB])
   |wp_step)
  show wpAny (model prog w) A (forIn (jB.map Value.ref) ((none,()):Option Bool×Unit) (fun(c:Value)(_:Option Bool×Unit)=>(do
   let b<-isSubtype (.ref C) c
   if b=true then pure (ForInStep.done (some true,()))else pure (ForInStep.yield (none,())):Sem (ForInStep (Option Bool×Unit))))) _ E _
  refine wpAny_forIn_list _ (fun rest b aZ=>aZ=⟨aN,g,eU,tk,os⟩/\b=(none,())/\∃l,rest=l.map Value.ref/\(C∈jB↔C∈l)/\∀gV∈l,gV∈jB) _ ?_ ?_ _ _ ⟨z,z,jB,z,Iff.rfl,fun _ h=>h⟩
  .rintro v rest b aZ ⟨rfl,rfl,l,aD,Qp,AA⟩;cases l with
   |nil=>cases aD
   |cons gV l=>
    rw[j6]at aD;injection aD with ai aj
    subst ai;by_cases e:C=gV
    .have m6:(Value.ref C::vq).contains (.ref gV)=true:=by
      rw[e,Fg];simp
     have iq:C∈jB:=by rw[e];exact AA gV iO
     rw[Bl iq]at a9
     repeat (first
      |(with_reducible refine Le li ?_;rw[m6])
      |wp_step)
     exact a9
    .have m6:(Value.ref C::vq).contains (.ref gV)=false:=by
      rw[Fg];have:(Value.ref gV==Value.ref C)=false:=by
       rw[E8];intro I;cases I;exact e z
      rw[this];rfl
     repeat (first
      |(with_reducible refine Le li ?_;rw[m6])
      |wp_step)
     refine⟨z,z,l,aj,Qp.trans ⟨fun I=>?_,fun I=>gz _ I⟩,fun D lH=>AA D (gz _ lH)⟩;rcases dG.mp I with I|I
     .exact absurd I e
     .exact I
  .rintro b aZ ⟨rfl,rfl,l,aD,Qp,_⟩;have akD:l=[]:=by cases l with
    |nil=>rfl
    |cons _ _=>cases aD
   subst akD;have iq:C∉jB:=fun I=>by have:=Qp.mp I;cases this
   rw[ye iq]at a9
   repeat (first|wp_step)
   exact a9
inductive v7(X:cQ):List Expr->List Addr->Prop
 |nil:v7 X [] []
 |cons {nm:Str} {t7:Pos} {gV:Addr} {dX:Option Value} {bX:List Expr} {jB:List Addr} (dz:qw X nm) (aM:X.az nm=some (.ref gV)) (c':lQ X.K gV dX) (h:v7 X bX jB) (oX:(nm==("__debug__":Str))=false:=by decide)
   (aL:∀pos,backTo pos (starEach (.Name nm t7::bX) X.env)=(false,eval (.Name nm t7) X.env)::backTo pos (starEach bX X.env):=by intro _;rfl):v7 X (.Name nm t7::bX) (gV::jB)
theorem v7.An{X:cQ}:∀{bX:List Expr}{jB:List Addr},v7 X bX jB->∀gV∈jB,∃dX,lQ X.K gV dX
 |_,_,.nil,_,h=>by cases h
 |_,_,.cons _ _ c' t _ _,gV,h=>by
  rcases dG.mp h with rfl|h
  .exact⟨_,c'⟩
  .exact v7.An t gV h
theorem v7.adf{X:cQ}{x:Addr}{ao:List (Addr×Obj)}{O:bF.St}{H:aA}{s:Shared}{E:Value->Shared->Prop}(J:Inv (X.nM x) ao O H s):∀{bX:List Expr}{jB:List Addr},v7 X bX jB->∀(pos:Pos)(Q:List Value->Shared->Prop),Q (jB.map Value.ref) s->
  wpAny (model X.prog X.w) (X.nM x).A (spliced (backTo pos (starEach bX X.env))) Q E s
 |_,_,.nil,pos,Q,a9=>Calls.spliced_nil a9
 |_,_,.cons dz aM c' t oX aL,pos,Q,a9=>by
  rw[aL pos];exact Calls.spliced_cons (zd (X:=X.nM x) J dz aM (v7.adf J t pos _ a9) oX)
section
variable{X:cQ}{bX:List Expr}{Rd:Nat}{jK pos:Pos}{jB:List Addr}{Aj:Stmt}{A8:List Stmt}{rest:List ExceptHandler}{b8:g5}{iV:Addr->Option Addr->g5}
def TA(jB:List Addr)(b8:g5)(iV:Addr->Option Addr->g5):Addr->Option Addr->g5:=fun C d D O H=>if C∈jB then b8 D O H else iV C d D O H
theorem apj(br:v7 X bX jB)(aD:jB.length<=100)(JW:∀x,sr (X.nM x) (Aj::A8) b8)(aO:Aa X rest iV):Aa X (.ExceptHandler (some (.Tuple bX Rd jK)) none (Aj::A8) pos::rest) (TA jB b8 iV):=by
 intro ao s aZ O H H' x C a0 d B i D J F c h;have bY:=F.y9 J;have yp:=bY.nM x;have l7:sizeLine=16777216:=gU;refine wpAny_handleBy_cons (codeAny_handlers_test (wpAny_Tuple_spliced (v7.adf yp br jK _ ⟨by rw[cA];omega,?_⟩))) (by intro q;cases q);have cN:∀b o,aZ.heap.get? b=some o->(aZ.heap.push {cls:=Value.type "tuple",data:=Data.seq (jB.map Value.ref).toArray}).get? b=some o:=fun b o e=>ph _ e;have bO:(aZ.heap.push {cls:=Value.type "tuple",data:=Data.seq (jB.map Value.ref).toArray}).get? aZ.heap.objs.size=some {cls:=Value.type "tuple",data:=Data.seq (jB.map Value.ref).toArray}:=vW _ z;generalize aZ.heap.push {cls:=Value.type "tuple",data:=Data.seq (jB.map Value.ref).toArray}=ai at cN bO;have Dh:tH X.prog X.w X.stack H s x C a0 d H' B {aZ with heap:=ai}:=by
  refine F.next ⟨fun b o e=>cN _ _ (F.i6.1 b o e),F.i6.2.1,Heap.FunFrames.of_keeps (fun b o e _=>⟨o,cN _ _ e,z⟩) F.i6.2.2.1,?_⟩ (fun b o e _=>⟨o.slots,cN _ _ e⟩) ?_
  .obtain⟨lK,vs,T,R5,t,fT,gb,nR,r8,yd,Bj,Bk,N9⟩:=F.i6.2.2.2;exact⟨lK,vs,T,R5,t,cN _ _ fT,gb,nR,r8,yd,Bj,cN _ _ Bk,N9⟩
  .obtain⟨o,fT,gb⟩:=F.xn;exact⟨o,cN _ _ fT,gb⟩
 have fy:=Dh.y9 J;have z6:=fy.nM x;obtain⟨lK,ay,aq⟩:=Dh.i6.there;refine ahN (K:=X.K) (C:=C) (jB:=jB) z6.iU c br.An ay aq bO ?_;unfold TA at h;by_cases e:C∈jB
 .rw[bT e]at h;simp only[e,decide_true];refine codeAny_handlers_suite (mH ((HD (.ref x) none).any Dh.xn (lands_againW (Q:=fun _ iY=>Heap.FlyingW B X.stack x (.ref C) a0 iY.heap/\ai.UpToSlots iY.heap/\∃h',iY={aZ with heap:=h'}) Dh.i6 fun h' bk bP=>⟨bk,bP,h',z⟩)) (fun _ iY I=>?_) fun _ _ I=>I);obtain⟨⟨fT,gb,h',rfl⟩,nR⟩:=I;have zQ:=Dh.next fT gb nR;have lS:=zQ.y9 J;refine mH (JW x ao _ O H' D (lS.nM x) h) (fun f b4 q=>?_) fun _ _ I=>False.elim I;exact tK.Bc lS q
 .rw[bz e]at h;simp only[e,decide_false];exact aO ao s _ O H H' x C a0 d B i D J Dh c h
end
end bF
local macro_rules|`(tactic|trivial)=>`(tactic|exact⟨rfl,rfl,rfl,by decide+kernel,rfl,by decide+kernel,by decide+kernel⟩)
namespace bF
open PySem PySem.Spec PyProof.Rows
section
variable{P:Program}{w:World}{K:Frag}{az:Str->Option Value}{base:Heap}
theorem dJ.dZ{x qual:Str}{st:Stmt}{f:Addr}{gO:FuncData}{N ps:List Str}{k:Nat}{sp:dj}(F:dJ K x qual st f gO)(S:dP N ps (cT st))(len:∀vs H Q E,sp vs H Q E->vs.length=ps.length)
  (Qf:∀(cJ:Value)(A:Around)(outer:List Env)(s:Shared)(H:aA)(vs:List aa)(Q:gc)(E:jQ),kM k (A.deeper (envOfC qual (cT st) s.heap.objs.size f cJ))->sp vs H Q E->
   ∃t,sr (yD (cW P w) P w K az base N qual (cT st) f cJ A outer s H E) (DH st) t/\t {dF:=fun _ H'=>Q .b9 H',A5:=Q} (start N vs) H):cZ P w K az base (cW P w) (k+1) f gO ps sp:=by
 obtain⟨gq,iX,oZ,doc,s8,tN,cJ,k9,zq,rfl,lk,lI⟩:=F.ex;exact aiP lk lI S len fun A outer s H vs Q E aO xD=>Qf cJ A outer s H vs Q E aO xD
end
section
variable{X:cQ}{pos:Pos}
theorem cH{x:Str}{n:Int}(aM:∃t,X.az x=some (.int n t))(dz:qw X x:=by rfl)(aG:(x==("__debug__":Str))=false:=by decide):dS X (.Name x pos) (ER (.int n)):=by
 obtain⟨t,aM⟩:=aM;exact CJ dz aM ⟨t,z⟩ aG
end
theorem pl{f:Str}{v:aa}{bA:List (Str×aa)}{n:Nat}(h:bA.length<=n):(cY f v bA).length<=n+1:=i3 (Rf f v bA) (succ_le_succ h)
theorem kY:([]:List (Str×aa)).length<=0:=dW _
theorem kZ{f:Str}{v:aa}{bA:List (Str×aa)}{n:Nat}(h:bA.length<=n)(br:n<900:=by decide):(cY f v bA).length<1000:=by
 have:=pl (f:=f) (v:=v) h;omega
theorem N2{H:aA}{p l:Addr}{x y o:cI}(h:l≠p):V (V (V H p x) l o) p y=V (V H l o) p y:=by
 funext b
 by_cases e:b=p
 .rw[e,aP,aP]
 .rw[aK e,aK e];by_cases aq:b=l
  .rw[aq,aP,aP]
  .rw[aK aq,aK aq,aK e]
theorem e8{H:aA}{p l:Addr}{x:cI}(h:V H p x l=none):l≠p/\H l=none:=by
 by_cases e:l=p
 .rw[e,aP]at h;cases h
 .rw[aK e]at h;exact⟨e,h⟩
theorem fi{c A B:Prop}[Decidable c](ai:c->A)(aj:¬c->B):if decide c=true then A else B:=by
 by_cases h:c
 .rw[bT (Bl h)];exact ai h
 .rw[bz (fun I=>h (of_decide_eq_true I))];exact aj h
theorem gK{i j:Int}(h:aa.int i=aa.int j):i=j:=by injection h
def aV(M:List Addr)(H H':aA):Prop:=∀b o,H b=some o->b∉M->H' b=some o
theorem aV.refl{M:List Addr}{H:aA}:aV M H H:=fun _ _ h _=>h
theorem aV.trans{M:List Addr}{H aI a7:aA}(ai:aV M H aI)(aj:aV M aI a7):aV M H a7:=fun b o e n=>aj b o (ai b o e n) n
theorem aV.c7{M M':List Addr}{H H':aA}(h:aV M H H')(s:∀b∈M,b∈M'):aV M' H H':=fun b o e n=>h b o e fun I=>n (s b I)
theorem aV.V{M:List Addr}{H H':aA}{p:Addr}{x:cI}(h:aV M H H')(aN:p∈M\/H p=none):aV M H (bF.V H' p x):=fun b o e n=>by
 have ae:b≠p:=fun I=>by
  rcases aN with q|q
  .exact n (I▸q)
  .rw[I,q]at e;cases e
 rw[aK ae];exact h b o e n
theorem aV.same{M:List Addr}{H H':aA}(h:aV M H H')(oU:∀b∈M,H b=none):be H H':=fun b o e=>h b o e fun I=>by rw[oU b I]at e;cases e
theorem be.gh{M:List Addr}{H H':aA}(h:be H H'):aV M H H':=fun b o e _=>h b o e
theorem aV.seq{K:Frag}{M:List Addr}{H H':aA}{aC:Addr}{xs:List aa}(h:aV M H H')(oU:aC∉M)(q:bj K H aC xs):bj K H' aC xs:=by
 rcases q with(q|⟨o,q⟩)|q
 .exact .inl (.inl (h _ _ q oU))
 .exact .inl (.inr ⟨o,h _ _ q oU⟩)
 .exact .inr q
def Lg(K:Frag)(p:Addr)(kvs:List (kK×aa)):Prop:=(p==sysModules)=false/\∀(P:Program)(w:World)(h:Heap),K.In h->∃vs,z7 kvs vs/\h.DictOf (xK P w) p vs
def asH(K:Frag)(jJ jx:eB):eB:=fun O H Q=>jJ O H fun x aI=>jx O aI fun y a7=>∃p kvs k v,x=.ref p/\Lg K p kvs/\y=oZ k/\vU kvs k=some v/\Q v a7
def asI(K:Frag)(jx jJ:eB):eB:=fun O H Q=>jx O H fun y aI=>jJ O aI fun x a7=>∃p kvs k,x=.ref p/\Lg K p kvs/\y=oZ k/\Q (.av (vU kvs k).isSome) a7
section
variable{X:cQ}{o i:Expr}{pos:Pos}{jJ jx:eB}
theorem Sn(aT:dS X o jJ)(aF:dS X i jx)(aL:Ln i):dS X (.Subscript o i pos) (asH X.K jJ jx):=by
 intro ao s O H Q J h;refine asB PySem.F.slot_dict_getitem.lookup aL (eJ (aT ao s O H _ J h) fun u aU⟨x,aI,bY,cO,aW⟩=>eJ (aF ao aU O aI _ bY aW) fun sY bD⟨y,a7,fy,eM,p,kvs,k,v,ex,g,xw,l,bf⟩=>?_);subst ex;subst xw;obtain rfl:u=Value.ref p:=cO;obtain⟨vs,SJ,dd⟩:=g.2 X.prog X.w _ fy.iU;obtain⟨zF,hw,KR⟩:=rj.Tn (v:=v) (o:=valueAt vs k) (by rw[<-l];exact SJ.val k);exact⟨dd.typeIs,wpAny_getItem_of (YK eM) dd.mapOf hw ⟨v,a7,fy.qt _,KR,bf⟩⟩
theorem Sl(aF:dS X i jx)(aT:dS X o jJ):UC X .In i o (asI X.K jx jJ):=by
 intro ao s O H Q J h;refine eJ (aF ao s O H _ J h) fun sY aU⟨y,aI,bY,eM,aW⟩=>eJ (aT ao aU O aI _ bY aW) fun u bD⟨x,a7,fy,cO,p,kvs,k,ex,g,xw,bf⟩=>?_;subst ex;subst xw;obtain rfl:u=Value.ref p:=cO;obtain⟨vs,SJ,dd⟩:=g.2 X.prog X.w _ fy.iU;refine wpAny_in_of (YK eM) g.1 dd.mapOf ?_;rw[<-(SJ.val k).alC];exact⟨.av (vU kvs k).isSome,a7,fy.qt _,z,bf⟩
end
structure Os(K:Frag)(C:Addr):Prop where
 cC:findIn K (.ref C) "__class__"=some (some (.builtin "object.__class__"))
 br:specialIn K (.builtin "object.__class__") "__get__"=some (some (.builtin "getset_descriptor.__get__"))
 xE:takesIn K (.builtin "object.__class__")=some true
 aM:mroIn K C (.type "object")=some true
 no:kitOne K (.ref C) (.type "int")=some false
 atV:kitOne K (.type "int") (.type "int")=some true
 b9:kitOne K (.type "NoneType") (.type "int")=some false
section
variable{X:cQ}{pos:Pos}
theorem agp:Bo X (.builtin "isinstance") (fun xs H Q=>∃x C,xs=[x,.jx "int"]/\Os X.K C/\((∃i,x=.int i/\Q (.av true) H)\/∃p dx bA,x=.ref p/\H p=some (.au C dx bA)/\lP X.K C/\Q (.av false) H)):=by
 intro ao s O H xs us Q J r h;obtain⟨x,C,rfl,cX,h⟩:=h;cases r with
 |cons fE gQ=>
  cases gQ with
  |cons gQ uS=>
   cases uS;cases(show _=Value.type "int" from gQ);rcases h with⟨i,rfl,q⟩|⟨p,dx,bA,rfl,e,cl,q⟩
   .exact YC J fE (.int i) cX.atV fun tk=>⟨.av true,H,J.qt _,z,q⟩
   .exact YC J fE (.au e cl cX.cC cX.br cX.xE cX.aM) cX.no fun tk=>⟨.av false,H,J.qt _,z,q⟩
end
end bF
namespace Cl
open PySem PySem.Spec PyProof.Rows bF
def dg(i:Nat):Stmt:=PySem.Challenge.pw_closurize_s01_answers.main.body.getD i (.Pass ⟨0,0,0,0⟩)
abbrev abS:Stmt:=iS (dg 7) 0
abbrev abJ:Stmt:=iS (dg 8) 0
abbrev abL:Stmt:=iS (dg 9) 0
abbrev abP:Stmt:=iS (dg 9) 1
abbrev abO:Stmt:=iS (dg 9) 2
abbrev abN:Stmt:=iS (dg 9) 3
abbrev abQ:Stmt:=iS (dg 9) 4
abbrev abM:Stmt:=iS (dg 9) 5
abbrev abq:Stmt:=iS (dg 20) 0
abbrev abo:Stmt:=iS (dg 43) 0
abbrev abT:Stmt:=iS (dg 44) 0
abbrev abp:Stmt:=iS (dg 62) 0
abbrev abK:Stmt:=iS (dg 63) 0
abbrev abr:Stmt:=iS (dg 87) 0
abbrev abI:Stmt:=iS (dg 88) 0
abbrev abR:Stmt:=iS (dg 89) 0
abbrev abX:Stmt:=iS (dg 90) 0
abbrev abZ:Stmt:=iS (dg 90) 1
abbrev abU:Stmt:=iS (dg 90) 2
abbrev ab0:Stmt:=iS (dg 90) 3
abbrev ab1:Stmt:=iS (dg 90) 4
abbrev abW:Stmt:=iS (dg 90) 5
abbrev abV:Stmt:=iS (dg 90) 6
abbrev abY:Stmt:=iS (dg 90) 7
abbrev abu:Stmt:=iS (dg 124) 0
abbrev abt:Stmt:=iS (dg 124) 1
abbrev abv:Stmt:=iS (dg 124) 2
abbrev abw:Stmt:=iS (dg 124) 3
abbrev abA:Stmt:=iS (dg 125) 0
abbrev abB:Stmt:=iS (dg 125) 1
abbrev abC:Stmt:=iS (dg 125) 2
abbrev abD:Stmt:=iS (dg 125) 3
abbrev abE:Stmt:=iS (dg 125) 4
abbrev abH:Stmt:=iS (dg 125) 5
abbrev abG:Stmt:=iS (dg 125) 6
abbrev abx:Stmt:=iS (dg 125) 7
abbrev abF:Stmt:=iS (dg 125) 8
abbrev aby:Stmt:=iS (dg 125) 9
abbrev abz:Stmt:=iS (dg 125) 10
abbrev acy:Stmt:=dg 21
abbrev acH:Stmt:=dg 22
abbrev acz:Stmt:=dg 23
abbrev acC:Stmt:=dg 24
abbrev acA:Stmt:=dg 26
abbrev acB:Stmt:=dg 27
abbrev acw:Stmt:=dg 28
abbrev ach:Stmt:=dg 29
abbrev aci:Stmt:=dg 30
abbrev SZ:Stmt:=dg 45
abbrev acg:Stmt:=dg 46
abbrev acf:Stmt:=dg 47
abbrev ace:Stmt:=dg 48
abbrev Ny:Stmt:=dg 51
abbrev S0:Stmt:=dg 52
abbrev acv:Stmt:=dg 54
abbrev acD:Stmt:=dg 64
abbrev NB:Stmt:=dg 65
abbrev acE:Stmt:=dg 67
abbrev ab6:Stmt:=dg 68
abbrev ack:Stmt:=dg 69
abbrev acs:Stmt:=dg 70
abbrev acr:Stmt:=dg 71
abbrev Nz:Stmt:=dg 73
abbrev acq:Stmt:=dg 74
abbrev acJ:Stmt:=dg 91
abbrev acj:Stmt:=dg 92
abbrev acu:Stmt:=dg 93
abbrev acF:Stmt:=dg 94
abbrev acG:Stmt:=dg 95
abbrev acd:Stmt:=dg 97
abbrev ab9:Stmt:=dg 98
abbrev S2:Stmt:=dg 100
abbrev SY:Stmt:=dg 101
abbrev acp:Stmt:=dg 102
abbrev S1:Stmt:=dg 103
abbrev acm:Stmt:=dg 104
abbrev aco:Stmt:=dg 105
abbrev ab5:Stmt:=dg 126
abbrev ab4:Stmt:=dg 127
abbrev ab2:Stmt:=dg 128
abbrev ab3:Stmt:=dg 129
abbrev ab7:Stmt:=dg 130
abbrev ab8:Stmt:=dg 131
abbrev acI:Stmt:=dg 132
abbrev acn:Stmt:=dg 133
structure bU where
 (jD iH ip gW tO p9 oQ qa vn sH n6 kC fK tP BI xd BH FY m8 g9:Addr)
 (Ik H9 Ib Ih Ig Ie Ii Ic HM HK Il HL Ia BQ H8 Ij Iq Iu Im Iv Iw Ip Io Ir HO HN HP HQ HU HV HW HX HY H7 H6 HR HZ HS HT I8 Jh I9 Jc Ja Jb I6 IQ IR IT IP IM IL IF IZ I5 Jd DM Je ID IU I2 I1 I7 I0 Jj IS I4 Jf Jg IK IJ Jk IG IY I3 IV IX IC IB Iz IA IE II Ji IW:Addr)
 (Gy Gn Gq Gv Gu Gs Gw Gr F5 F3 Gz F4 Gp F6 Gm Gx GD GG GA GH GI GC GB GF F8 F7 F9 Ga Ge Gf Gg Gh Gi Gl Gk Gb Gj Gc Gd Hl Hx Ho Hr Hp Hq Hi GX GY G0 GW GV GU GO G6 Hh Ht Hs Hu GM G1 G9 G8 Hj G7 Hz GZ Hg Hv Hw GS GR HA GP G5 Hf G2 G4 DG GL GJ GK GN GQ Hy G3:FuncData)
 rU:Addr
abbrev UR{jD iH ip gW tO p9 oQ qa vn sH n6 kC fK tP BI xd BH FY m8 g9 Ik H9 Ib Ih Ig Ie Ii Ic HM HK Il HL Ia BQ H8 Ij Iq Iu Im Iv Iw Ip Io Ir HO HN HP HQ HU HV HW HX HY H7 H6 HR HZ HS HT I8 Jh I9 Jc Ja Jb I6 IQ IR IT IP IM IL IF IZ I5 Jd DM Je ID IU I2 I1 I7 I0 Jj IS I4 Jf Jg IK IJ Jk IG IY I3 IV IX IC IB Iz IA IE II Ji IW rU:Addr}{Gy Gn Gq Gv Gu Gs Gw Gr F5 F3 Gz F4 Gp F6 Gm Gx GD GG GA GH GI GC GB GF F8 F7 F9 Ga Ge Gf Gg Gh Gi Gl Gk Gb Gj Gc Gd Hl Hx Ho Hr Hp Hq Hi GX GY G0 GW GV GU GO G6 Hh Ht Hs Hu GM G1 G9 G8 Hj G7 Hz GZ Hg Hv Hw GS GR HA GP G5 Hf G2 G4 DG GL GJ GK GN GQ Hy G3:FuncData}:bU:=⟨jD,iH,ip,gW,tO,p9,oQ,qa,vn,sH,n6,kC,fK,tP,BI,xd,BH,FY,m8,g9,Ik,H9,Ib,Ih,Ig,Ie,Ii,Ic,HM,HK,Il,HL,Ia,BQ,H8,Ij,Iq,Iu,Im,Iv,Iw,Ip,Io,Ir,HO,HN,HP,HQ,HU,HV,HW,HX,HY,H7,H6,HR,HZ,HS,HT,I8,Jh,I9,Jc,Ja,Jb,I6,IQ,IR,IT,IP,IM,IL,IF,IZ,I5,Jd,DM,Je,ID,IU,I2,I1,I7,I0,Jj,IS,I4,Jf,Jg,IK,IJ,Jk,IG,IY,I3,IV,IX,IC,IB,Iz,IA,IE,II,Ji,IW,Gy,Gn,Gq,Gv,Gu,Gs,Gw,Gr,F5,F3,Gz,F4,Gp,F6,Gm,Gx,GD,GG,GA,GH,GI,GC,GB,GF,F8,F7,F9,Ga,Ge,Gf,Gg,Gh,Gi,Gl,Gk,Gb,Gj,Gc,Gd,Hl,Hx,Ho,Hr,Hp,Hq,Hi,GX,GY,G0,GW,GV,GU,GO,G6,Hh,Ht,Hs,Hu,GM,G1,G9,G8,Hj,G7,Hz,GZ,Hg,Hv,Hw,GS,GR,HA,GP,G5,Hf,G2,G4,DG,GL,GJ,GK,GN,GQ,Hy,G3,rU⟩
abbrev fb(az:Str->Option Value)(x:Str)(c:Addr):Prop:=az x=some (.ref c)
abbrev gp(az:Str->Option Value)(x:Str)(n:Int):Prop:=∃t,az x=some (.int n t)
structure Txt(K:Frag)(az:Str->Option Value)(a:bU):Prop where
 t6:fb az "BadBytes" a.jD
 Kg:fb az "Spot" a.iH
 Kf:fb az "Node" a.ip
 Zk:fb az "Reader" a.gW
 amz:fb az "Code" a.tO
 Ze:fb az "Block" a.p9
 amF:fb az "Unfinished" a.oQ
 Zf:fb az "Body" a.qa
 amE:fb az "Program" a.vn
 Cp:fb az "Fault" a.sH
 amC:fb az "Made" a.n6
 Zl:fb az "Running" a.kC
 Zm:fb az "Worker" a.fK
 Zg:fb az "NoCode" a.tP
 Zi:fb az "NoSuchProcedure" a.BI
 Zj:fb az "NothingOut" a.xd
 Zh:fb az "NoFunctionOut" a.BH
 amD:fb az "NoSuchCall" a.FY
 amA:fb az "Line" a.m8
 amB:fb az "Machine" a.g9
 n7:lP K a.iH
 Kl:rd K a.iH a.Ik
 zj:gD K a.iH "around"
 MP:gD K a.iH "depth"
 AL:gD K a.iH "home"
 gI:lP K a.ip
 Kh:rd K a.ip a.H9
 qK:gD K a.ip "kind"
 uP:gD K a.ip "value"
 RD:gD K a.ip "parts"
 Kq:gD K a.ip "around"
 AK:gD K a.ip "home"
 MM:gD K a.ip "names"
 gS:lP K a.gW
 Zy:rd K a.gW a.Ib
 MO:gD K a.gW "data"
 ZH:gD K a.gW "deepest"
 Er:gD K a.gW "place"
 xN:gD K a.gW "nodes"
 zh:gD K a.gW "waiting"
 xf:lP K a.tO
 anj:rd K a.tO a.HM
 RA:gD K a.tO "nodes"
 Ct:gD K a.tO "takes"
 xe:lP K a.p9
 Zw:rd K a.p9 a.HK
 Rx:gD K a.p9 "steps"
 ZG:gD K a.p9 "own"
 Kp:gD K a.p9 "cells"
 qb:lP K a.oQ
 anp:rd K a.oQ a.Il
 MQ:gD K a.oQ "node"
 AM:gD K a.oQ "done"
 Es:gD K a.oQ "jump"
 qB:lP K a.qa
 Zx:rd K a.qa a.HL
 MK:gD K a.qa "around"
 Rz:gD K a.qa "own"
 Ry:gD K a.qa "home"
 Cs:gD K a.qa "taken"
 xg:lP K a.vn
 ano:rd K a.vn a.Ia
 MN:gD K a.vn "nodes"
 Ep:gD K a.vn "bodies"
 uC:lP K a.n6
 anm:rd K a.n6 a.H8
 RB:gD K a.n6 "block"
 RC:gD K a.n6 "known"
 BK:lP K a.kC
 Zz:rd K a.kC a.Ij
 ZJ:gD K a.kC "steps"
 ZI:gD K a.kC "known"
 RE:gD K a.kC "place"
 gX:lP K a.fK
 ZA:rd K a.fK a.Iq
 Et:gD K a.fK "blocks"
 RG:gD K a.fK "allowed"
 AN:gD K a.fK "calls"
 AO:gD K a.fK "cells"
 wA:gD K a.fK "out"
 lU:lP K a.m8
 ank:rd K a.m8 a.HO
 ML:gD K a.m8 "numbers"
 AJ:gD K a.m8 "place"
 jE:lP K a.g9
 anl:rd K a.g9 a.HU
 Cu:gD K a.g9 "code"
 wz:gD K a.g9 "worker"
 rB:lQ K a.jD none
 Wc:lQ K a.sH (some (.ref a.BQ))
 Bh:zP K a.sH a.BQ "fault"
 Ei:keepIn K (.ref a.sH)=true
 Ed:PySem.W.isFn K (.ref a.BQ)=true
 Pq:lQ K a.tP none
 Pu:lQ K a.BI none
 Pv:lQ K a.xd none
 Pr:lQ K a.BH none
 ahM:lQ K a.FY none
 aiF:dJ K "__init__" "Spot.__init__" abS a.Ik a.Gy
 FT:Binds K a.Gy ["self","around","depth","home"] []
 aiw:dJ K "__init__" "Node.__init__" abJ a.H9 a.Gn
 FS:Binds K a.Gn ["self","kind","value","parts","spot"] []
 aiy:dJ K "__init__" "Reader.__init__" abL a.Ib a.Gq
 U3:Binds K a.Gq ["self","data","deepest"] []
 zf:kL K a.gW "take" a.Ih
 aiC:dJ K "take" "Reader.take" abP a.Ih a.Gv
 yx:Binds K a.Gv ["self"] []
 Y6:kL K a.gW "number" a.Ig
 aiB:dJ K "number" "Reader.number" abO a.Ig a.Gu
 U6:Binds K a.Gu ["self"] []
 Y5:kL K a.gW "next_spot" a.Ie
 aiA:dJ K "next_spot" "Reader.next_spot" abN a.Ie a.Gs
 U5:Binds K a.Gs ["self"] []
 Y7:kL K a.gW "wait_for_parts" a.Ii
 aiD:dJ K "wait_for_parts" "Reader.wait_for_parts" abQ a.Ii a.Gw
 U7:Binds K a.Gw ["self","kind","spot"] []
 Y4:kL K a.gW "must_be_at_end" a.Ic
 aiz:dJ K "must_be_at_end" "Reader.must_be_at_end" abM a.Ic a.Gr
 U4:Binds K a.Gr ["self"] []
 aid:dJ K "__init__" "Code.__init__" abq a.HM a.F5
 afn:Binds K a.F5 ["self","nodes","takes"] []
 aib:dJ K "__init__" "Block.__init__" abo a.HK a.F3
 U0:Binds K a.F3 ["self","steps","own","cells"] []
 aiG:dJ K "__init__" "Unfinished.__init__" abT a.Il a.Gz
 afB:Binds K a.Gz ["self","node"] []
 aic:dJ K "__init__" "Body.__init__" abp a.HL a.F4
 U1:Binds K a.F4 ["self","around","own","home"] []
 aix:dJ K "__init__" "Program.__init__" abK a.Ia a.Gp
 afA:Binds K a.Gp ["self","nodes","bodies"] []
 aie:dJ K "__init__" "Fault.__init__" abr a.BQ a.F6
 Dw:Binds K a.F6 ["self","fault"] []
 aiv:dJ K "__init__" "Made.__init__" abI a.H8 a.Gm
 afz:Binds K a.Gm ["self","block","known"] []
 aiE:dJ K "__init__" "Running.__init__" abR a.Ij a.Gx
 U8:Binds K a.Gx ["self","steps","known"] []
 aiK:dJ K "__init__" "Worker.__init__" abX a.Iq a.GD
 Va:Binds K a.GD ["self","blocks"] []
 Za:kL K a.fK "run_main" a.Iu
 aiM:dJ K "run_main" "Worker.run_main" abZ a.Iu a.GG
 Vc:Binds K a.GG ["self","allowed"] []
 Y8:kL K a.fK "call_out" a.Im
 aiH:dJ K "call_out" "Worker.call_out" abU a.Im a.GA
 U9:Binds K a.GA ["self","number","allowed"] []
 Zb:kL K a.fK "run_steps" a.Iv
 aiN:dJ K "run_steps" "Worker.run_steps" ab0 a.Iv a.GH
 Vd:Binds K a.GH ["self","steps","stack","allowed"] []
 amy:kL K a.fK "work_out" a.Iw
 aiO:dJ K "work_out" "Worker.work_out" ab1 a.Iw a.GI
 afE:Binds K a.GI ["self","steps","stack"] []
 amx:kL K a.fK "go_on" a.Ip
 aiJ:dJ K "go_on" "Worker.go_on" abW a.Ip a.GC
 afD:Binds K a.GC ["self","running","stack"] []
 amw:kL K a.fK "count_call" a.Io
 aiI:dJ K "count_call" "Worker.count_call" abV a.Io a.GB
 afC:Binds K a.GB ["self","called","inside"] []
 Y9:kL K a.fK "make" a.Ir
 aiL:dJ K "make" "Worker.make" abY a.Ir a.GF
 Vb:Binds K a.GF ["self","block","known"] []
 aih:dJ K "__init__" "Line.__init__" abu a.HO a.F8
 afp:Binds K a.F8 ["self","numbers"] []
 amm:kL K a.m8 "ended" a.HN
 aif:dJ K "ended" "Line.ended" abt a.HN a.F7
 afo:Binds K a.F7 ["self"] []
 Co:kL K a.m8 "take" a.HP
 aii:dJ K "take" "Line.take" abv a.HP a.F9
 BC:Binds K a.F9 ["self"] []
 Em:kL K a.m8 "take_row" a.HQ
 aij:dJ K "take_row" "Line.take_row" abw a.HQ a.Ga
 Dy:Binds K a.Ga ["self"] []
 ain:dJ K "__init__" "Machine.__init__" abA a.HU a.Ge
 aft:Binds K a.Ge ["self"] []
 amr:kL K a.g9 "load" a.HV
 aio:dJ K "load" "Machine.load" abB a.HV a.Gf
 afu:Binds K a.Gf ["self","data"] []
 ME:kL K a.g9 "must_have_code" a.HW
 aip:dJ K "must_have_code" "Machine.must_have_code" abC a.HW a.Gg
 Ly:Binds K a.Gg ["self"] []
 MF:kL K a.g9 "must_have_out" a.HX
 aiq:dJ K "must_have_out" "Machine.must_have_out" abD a.HX a.Gh
 Lz:Binds K a.Gh ["self"] []
 ams:kL K a.g9 "procs" a.HY
 air:dJ K "procs" "Machine.procs" abE a.HY a.Gi
 afv:Binds K a.Gi ["self"] []
 amv:kL K a.g9 "takes_along" a.H7
 aiu:dJ K "takes_along" "Machine.takes_along" abH a.H7 a.Gl
 afy:Binds K a.Gl ["self","procedure"] []
 amu:kL K a.g9 "run" a.H6
 ait:dJ K "run" "Machine.run" abG a.H6 a.Gk
 afx:Binds K a.Gk ["self","allowed"] []
 amn:kL K a.g9 "apply" a.HR
 aik:dJ K "apply" "Machine.apply" abx a.HR a.Gb
 afq:Binds K a.Gb ["self","number","allowed"] []
 amt:kL K a.g9 "result" a.HZ
 ais:dJ K "result" "Machine.result" abF a.HZ a.Gj
 afw:Binds K a.Gj ["self"] []
 amo:kL K a.g9 "calls_made" a.HS
 ail:dJ K "calls_made" "Machine.calls_made" aby a.HS a.Gc
 afr:Binds K a.Gc ["self"] []
 amq:kL K a.g9 "cells_taken" a.HT
 aim:dJ K "cells_taken" "Machine.cells_taken" abz a.HT a.Gd
 afs:Binds K a.Gd ["self"] []
 am7:fb az "read_code" a.I8
 WY:dJ K "read_code" "read_code" acy a.I8 a.Hl
 af5:Binds K a.Hl ["data"] []
 Zu:fb az "take_at_most" a.Jh
 PK:dJ K "take_at_most" "take_at_most" acH a.Jh a.Hx
 Vl:Binds K a.Hx ["reader","most"] []
 Zr:fb az "read_expression" a.I9
 PG:dJ K "read_expression" "read_expression" acz a.I9 a.Ho
 Vi:Binds K a.Ho ["reader","home","takes"] []
 am9:fb az "read_node_procedures" a.Jc
 W0:dJ K "read_node" "read_node" acC a.Jc a.Hr
 af7:Binds K a.Hr ["reader","takes"] []
 am8:fb az "read_made" a.Ja
 WZ:dJ K "read_made" "read_made" acA a.Ja a.Hp
 af6:Binds K a.Hp ["reader","spot","takes"] []
 Zs:fb az "read_name" a.Jb
 PI:dJ K "read_name" "read_name" acB a.Jb a.Hq
 Vj:Binds K a.Hq ["reader","kind","spot","takes"] []
 am5:fb az "places_of" a.I6
 WW:dJ K "places_of" "places_of" acw a.I6 a.Hi
 af3:Binds K a.Hi ["kind","spot","takes"] []
 amT:fb az "hold_made" a.IQ
 WJ:dJ K "hold_made" "hold_made" ach a.IQ a.GX
 afR:Binds K a.GX ["nodes","takes"] []
 amU:fb az "hold_one_made" a.IR
 WK:dJ K "hold_one_made" "hold_one_made" aci a.IR a.GY
 afS:Binds K a.GY ["node","takes"] []
 Zo:fb az "laid_out" a.IT
 PD:dJ K "laid_out" "laid_out" SZ a.IT a.G0
 Vf:Binds K a.G0 ["nodes","own_steps","bodies"] []
 amS:fb az "finish_parts" a.IP
 WI:dJ K "finish_parts" "finish_parts" acg a.IP a.GW
 afQ:Binds K a.GW ["unfinished","rows"] []
 amR:fb az "finish_part" a.IM
 WH:dJ K "finish_part" "finish_part" acf a.IM a.GV
 afP:Binds K a.GV ["last","row"] []
 amQ:fb az "finish_choice_part" a.IL
 WG:dJ K "finish_choice_part" "finish_choice_part" ace a.IL a.GU
 afO:Binds K a.GU ["last","row"] []
 amM:fb az "code_blocks" a.IF
 WB:dJ K "code_blocks" "code_blocks" Ny a.IF a.GO
 afK:Binds K a.GO ["code"] []
 amZ:fb az "node_steps_code_steps" a.IZ
 WQ:dJ K "node_steps" "node_steps" S0 a.IZ a.G6
 afX:Binds K a.G6 ["node","count"] []
 Zq:fb az "place_of" a.I5
 PF:dJ K "place_of" "place_of" acv a.I5 a.Hh
 Vh:Binds K a.Hh ["kind","number","node","count"] []
 MI:fb az "read_program" a.Jd
 Jm:dJ K "read_program" "read_program" acD a.Jd a.Ht
 LA:Binds K a.Ht ["data"] []
 ana:fb az "read_node_program" a.DM
 W1:dJ K "read_node" "read_node" NB a.DM a.Hs
 af8:Binds K a.Hs ["reader","bodies"] []
 anb:fb az "read_variable" a.Je
 W2:dJ K "read_variable" "read_variable" acE a.Je a.Hu
 af9:Binds K a.Hu ["reader","spot"] []
 amK:fb az "begin_function" a.ID
 Wz:dJ K "begin_function" "begin_function" ab6 a.ID a.GM
 afI:Binds K a.GM ["reader","kind","spot","bodies"] []
 Ru:fb az "level_of" a.IU
 LV:dJ K "level_of" "level_of" ack a.IU a.G1
 OM:Binds K a.G1 ["variable"] []
 am2:fb az "note_uses" a.I2
 WT:dJ K "note_uses" "note_uses" acs a.I2 a.G9
 af0:Binds K a.G9 ["nodes","bodies"] []
 am1:fb az "note_use" a.I1
 WS:dJ K "note_use" "note_use" acr a.I1 a.G8
 afZ:Binds K a.G8 ["level","home","bodies"] []
 am6:fb az "program_blocks" a.I7
 WX:dJ K "program_blocks" "program_blocks" Nz a.I7 a.Hj
 af4:Binds K a.Hj ["program"] []
 am0:fb az "node_steps_program_steps" a.I0
 WR:dJ K "node_steps" "node_steps" acq a.I0 a.G7
 afY:Binds K a.G7 ["node"] []
 anf:fb az "taken_off" a.Jj
 W5:dJ K "taken_off" "taken_off" acJ a.Jj a.Hz
 agc:Binds K a.Hz ["stack","count"] []
 amV:fb az "known_inside" a.IS
 WL:dJ K "known_inside" "known_inside" acj a.IS a.GZ
 afT:Binds K a.GZ ["called","argument"] []
 am4:fb az "number_in" a.I4
 WV:dJ K "number_in" "number_in" acu a.I4 a.Hg
 af2:Binds K a.Hg ["value"] []
 anc:fb az "reckon" a.Jf
 W3:dJ K "reckon" "reckon" acF a.Jf a.Hv
 aga:Binds K a.Hv ["kind","first","second"] []
 Zt:fb az "signed" a.Jg
 PJ:dJ K "signed" "signed" acG a.Jg a.Hw
 Vk:Binds K a.Hw ["number"] []
 amP:fb az "ends_of" a.IK
 WE:dJ K "ends_of" "ends_of" acd a.IK a.GS
 afN:Binds K a.GS ["program","allowed","numbers"] []
 Zn:fb az "end_seen" a.IJ
 PC:dJ K "end_seen" "end_seen" ab9 a.IJ a.GR
 Ve:Binds K a.GR ["worker","outcome"] []
 Zv:fb az "takes_of" a.Jk
 PL:dJ K "takes_of" "takes_of" S2 a.Jk a.HA
 Vm:Binds K a.HA ["program"] []
 amN:fb az "code_of" a.IG
 WC:dJ K "code_of" "code_of" SY a.IG a.GP
 afL:Binds K a.GP ["program"] []
 amY:fb az "node_code" a.IY
 WO:dJ K "node_code" "node_code" acp a.IY a.G5
 afW:Binds K a.G5 ["node","bodies"] []
 am3:fb az "number_bytes" a.I3
 WU:dJ K "number_bytes" "number_bytes" S1 a.I3 a.Hf
 af1:Binds K a.Hf ["number"] []
 amW:fb az "made_code" a.IV
 WM:dJ K "made_code" "made_code" acm a.IV a.G2
 afU:Binds K a.G2 ["node","bodies"] []
 Zp:fb az "name_code" a.IX
 PE:dJ K "name_code" "name_code" aco a.IX a.G4
 Vg:Binds K a.G4 ["level","node","bodies"] []
 amJ:fb az "answers" a.IC
 Wy:dJ K "answers" "answers" ab5 a.IC a.DG
 aut:Binds K a.DG ["calls"] []
 amI:fb az "answer_or_refuse" a.IB
 Wx:dJ K "answer_or_refuse" "answer_or_refuse" ab4 a.IB a.GL
 afH:Binds K a.GL ["machine","line"] []
 amG:fb az "answer_call" a.Iz
 Wv:dJ K "answer_call" "answer_call" ab2 a.Iz a.GJ
 afF:Binds K a.GJ ["machine","line"] []
 amH:fb az "answer_machine_call" a.IA
 Ww:dJ K "answer_machine_call" "answer_machine_call" ab3 a.IA a.GK
 afG:Binds K a.GK ["machine","call","line"] []
 amL:fb az "check" a.IE
 WA:dJ K "check" "check" ab7 a.IE a.GN
 afJ:Binds K a.GN ["data"] []
 amO:fb az "compiled" a.II
 WD:dJ K "compiled" "compiled" ab8 a.II a.GQ
 afM:Binds K a.GQ ["data"] []
 ane:fb az "taken_along" a.Ji
 W4:dJ K "taken_along" "taken_along" acI a.Ji a.Hy
 agb:Binds K a.Hy ["data"] []
 amX:fb az "meant" a.IW
 WN:dJ K "meant" "meant" acn a.IW a.G3
 afV:Binds K a.G3 ["allowed","data","numbers"] []
 yJ:gp az "MAIN" 0
 DO:gp az "NUMBER" 0
 ai8:gp az "CHOICE" 8
 Xl:gp az "KEEPING" 9
 ajd:gp az "MOST_BYTES_procedures" 8192
 ajg:gp az "MOST_DEEP_procedures" 64
 ajk:gp az "MOST_PROCEDURES" 64
 ajl:gp az "MOST_VALUES" 64
 PU:gp az "ARGUMENT" 1
 P0:gp az "TAKEN" 2
 PY:gp az "RUNNING" 3
 Xm:gp az "KEPT" 10
 Jz:gp az "MADE" 11
 PX:gp az "PUSH" 0
 L0:gp az "LOOK_UP" 1
 Xn:gp az "MAKE" 2
 Xp:gp az "TAKE_ALONG" 3
 Xi:gp az "CALL" 4
 ajs:gp az "SUM" 5
 aja:gp az "DIFFERENCE" 6
 P1:gp az "UNLESS" 8
 PV:gp az "JUMP" 9
 Xk:gp az "KEEP" 10
 Xj:gp az "DROP" 11
 Xo:gp az "OWN" 2
 aje:gp az "MOST_BYTES_program" 1024
 ajh:gp az "MOST_DEEP_program" 32
 aji:gp az "MOST_FUNCTIONS" 64
 L2:gp az "VARIABLE" 1
 LZ:gp az "FUNCTION" 2
 PZ:gp az "SELF_FUNCTION" 3
 ajj:gp az "MOST_INSIDE" 128
 ajf:gp az "MOST_CELLS" 8192
 PW:gp az "MODULUS" 4294967296
 ajr:gp az "SIGN" 2147483648
 L1:gp az "NUMBER_OUT" 0
 Jy:gp az "FUNCTION_OUT" 1
 P3:gp az "WRONG_KIND" 2
 ajm:gp az "NO_CALL_LEFT" 3
 ajv:gp az "TOO_FAR_INSIDE" 4
 ajn:gp az "NO_CELL_LEFT" 5
 ai7:gp az "CHECK" 1
 ai9:gp az "COMPILE" 2
 aju:gp az "TAKES_OF" 3
 ajc:gp az "MEAN" 4
 ajb:gp az "LOAD" 5
 ajo:gp az "PROCS" 6
 ajt:gp az "TAKES" 7
 ajq:gp az "RUN" 8
 ai4:gp az "APPLY" 9
 ajp:gp az "RESULT" 10
 ai5:gp az "CALLS" 11
 ai6:gp az "CELLS" 12
 mC:az "len"=none
 MV:az "range"=none
 MW:az "zip"=none
 anQ:az "list"=none
 Cx:az "isinstance"=none
 Cw:az "int"=none
 Cj:Os K a.n6
 aH:[a.jD,a.iH,a.ip,a.gW,a.qa,a.vn,a.p9,a.oQ,a.sH,a.n6,a.kC,a.fK,a.tO,a.tP,a.FY,a.m8,a.g9,a.BI,a.xd,a.BH].Nodup
 En:fb az "PARTS" a.rU
 DI:Lg K a.rU [(.inl 4,.int 2),(.inl 5,.int 2),(.inl 6,.int 2),(.inl 7,.int 2),(.inl 8,.int 3),(.inl 9,.int 2)]
theorem auV{f:Str}{v:aa}{r:List (Str×aa)}:List.lookup f ((f,v)::r)=some v:=by
 rw[List.lookup,beq_self_eq_true]
theorem auW{f g:Str}{v:aa}{r:List (Str×aa)}(h:(f==g)=false):List.lookup f ((g,v)::r)=List.lookup f r:=by
 rw[List.lookup,h]
theorem avc{f:Str}{v x:aa}{r:List (Str×aa)}:cY f v ((f,x)::r)=(f,v)::r:=by
 rw[cY,bT z]
theorem avd{f g:Str}{v x:aa}{r:List (Str×aa)}(h:g≠f):cY f v ((g,x)::r)=(g,x)::cY f v r:=by
 rw[cY,bz h]
theorem ave{f:Str}{v:aa}:cY f v []=[(f,v)]:=rfl
def mr(bg bk bP:aa):List (Str×aa):=[("around",bg),("depth",bk),("home",bP)]
section
variable{bg bk bP y:aa}
theorem zT:(mr bg bk bP).lookup ("around":Str)=some bg:=by kernel_rfl
theorem Oj:(mr bg bk bP).lookup ("depth":Str)=some bk:=by kernel_rfl
theorem aup:cY "depth" y (mr bg bk bP)=mr bg y bP:=by kernel_rfl
theorem Bt:(mr bg bk bP).lookup ("home":Str)=some bP:=by kernel_rfl
theorem auq:cY "home" y (mr bg bk bP)=mr bg bk y:=by kernel_rfl
theorem aeq:cY "home" bP (cY "depth" bk (cY "around" bg ([])))=mr bg bk bP:=by kernel_rfl
end
def iP(bg bk bP d8 e5 oz:aa):List (Str×aa):=[("kind",bg),("value",bk),("parts",bP),("around",d8),("home",e5),("names",oz)]
section
variable{bg bk bP d8 e5 oz y:aa}
theorem q5:(iP bg bk bP d8 e5 oz).lookup ("kind":Str)=some bg:=by kernel_rfl
theorem u9:(iP bg bk bP d8 e5 oz).lookup ("value":Str)=some bk:=by kernel_rfl
theorem auj:cY "value" y (iP bg bk bP d8 e5 oz)=iP bg y bP d8 e5 oz:=by kernel_rfl
theorem Un:(iP bg bk bP d8 e5 oz).lookup ("parts":Str)=some bP:=by kernel_rfl
theorem aui:cY "parts" y (iP bg bk bP d8 e5 oz)=iP bg bk y d8 e5 oz:=by kernel_rfl
theorem Li:(iP bg bk bP d8 e5 oz).lookup ("around":Str)=some d8:=by kernel_rfl
theorem aue:cY "around" y (iP bg bk bP d8 e5 oz)=iP bg bk bP y e5 oz:=by kernel_rfl
theorem Bs:(iP bg bk bP d8 e5 oz).lookup ("home":Str)=some e5:=by kernel_rfl
theorem auf:cY "home" y (iP bg bk bP d8 e5 oz)=iP bg bk bP d8 y oz:=by kernel_rfl
theorem Og:(iP bg bk bP d8 e5 oz).lookup ("names":Str)=some oz:=by kernel_rfl
theorem auh:cY "names" y (iP bg bk bP d8 e5 oz)=iP bg bk bP d8 e5 y:=by kernel_rfl
theorem aem:cY "names" oz (cY "home" e5 (cY "around" d8 (cY "parts" bP (cY "value" bk (cY "kind" bg ([]))))))=iP bg bk bP d8 e5 oz:=by kernel_rfl
end
def gG(bg bk bP d8 e5:aa):List (Str×aa):=[("data",bg),("deepest",bk),("place",bP),("nodes",d8),("waiting",e5)]
section
variable{bg bk bP d8 e5 y:aa}
theorem Oi:(gG bg bk bP d8 e5).lookup ("data":Str)=some bg:=by kernel_rfl
theorem ad6:(gG bg bk bP d8 e5).lookup ("deepest":Str)=some bk:=by kernel_rfl
theorem aul:cY "deepest" y (gG bg bk bP d8 e5)=gG bg y bP d8 e5:=by kernel_rfl
theorem Lj:(gG bg bk bP d8 e5).lookup ("place":Str)=some bP:=by kernel_rfl
theorem aeK:cY "place" y (gG bg bk bP d8 e5)=gG bg bk y d8 e5:=by kernel_rfl
theorem yk:(gG bg bk bP d8 e5).lookup ("nodes":Str)=some d8:=by kernel_rfl
theorem aum:cY "nodes" y (gG bg bk bP d8 e5)=gG bg bk bP y e5:=by kernel_rfl
theorem zS:(gG bg bk bP d8 e5).lookup ("waiting":Str)=some e5:=by kernel_rfl
theorem aun:cY "waiting" y (gG bg bk bP d8 e5)=gG bg bk bP d8 y:=by kernel_rfl
theorem yq:(gG bg bk bP d8 e5).lookup ("take":Str)=none:=by kernel_rfl
theorem Uw:(gG bg bk bP d8 e5).lookup ("number":Str)=none:=by kernel_rfl
theorem Uv:(gG bg bk bP d8 e5).lookup ("next_spot":Str)=none:=by kernel_rfl
theorem Ux:(gG bg bk bP d8 e5).lookup ("wait_for_parts":Str)=none:=by kernel_rfl
theorem Uu:(gG bg bk bP d8 e5).lookup ("must_be_at_end":Str)=none:=by kernel_rfl
theorem aeo:cY "waiting" e5 (cY "nodes" d8 (cY "place" bP (cY "deepest" bk (cY "data" bg ([])))))=gG bg bk bP d8 e5:=by kernel_rfl
end
def w4(bg bk:aa):List (Str×aa):=[("nodes",bg),("takes",bk)]
section
variable{bg bk y:aa}
theorem Uk:(w4 bg bk).lookup ("nodes":Str)=some bg:=by kernel_rfl
theorem Dk:(w4 bg bk).lookup ("takes":Str)=some bk:=by kernel_rfl
theorem auc:cY "takes" y (w4 bg bk)=w4 bg y:=by kernel_rfl
theorem aei:cY "takes" bk (cY "nodes" bg ([]))=w4 bg bk:=by kernel_rfl
end
def pA(bg bk bP:aa):List (Str×aa):=[("steps",bg),("own",bk),("cells",bP)]
section
variable{bg bk bP y:aa}
theorem Uh:(pA bg bk bP).lookup ("steps":Str)=some bg:=by kernel_rfl
theorem ad5:(pA bg bk bP).lookup ("own":Str)=some bk:=by kernel_rfl
theorem at8:cY "own" y (pA bg bk bP)=pA bg y bP:=by kernel_rfl
theorem Lh:(pA bg bk bP).lookup ("cells":Str)=some bP:=by kernel_rfl
theorem at7:cY "cells" y (pA bg bk bP)=pA bg bk y:=by kernel_rfl
theorem aeg:cY "cells" bP (cY "own" bk (cY "steps" bg ([])))=pA bg bk bP:=by kernel_rfl
end
def q6(bg bk bP:aa):List (Str×aa):=[("node",bg),("done",bk),("jump",bP)]
section
variable{bg bk bP y:aa}
theorem Ol:(q6 bg bk bP).lookup ("node":Str)=some bg:=by kernel_rfl
theorem Dl:(q6 bg bk bP).lookup ("done":Str)=some bk:=by kernel_rfl
theorem aeM:cY "done" y (q6 bg bk bP)=q6 bg y bP:=by kernel_rfl
theorem Uo:(q6 bg bk bP).lookup ("jump":Str)=some bP:=by kernel_rfl
theorem aeN:cY "jump" y (q6 bg bk bP)=q6 bg bk y:=by kernel_rfl
theorem aer:cY "jump" bP (cY "done" bk (cY "node" bg ([])))=q6 bg bk bP:=by kernel_rfl
end
def pX(bg bk bP d8:aa):List (Str×aa):=[("around",bg),("own",bk),("home",bP),("taken",d8)]
section
variable{bg bk bP d8 y:aa}
theorem Oe:(pX bg bk bP d8).lookup ("around":Str)=some bg:=by kernel_rfl
theorem Uj:(pX bg bk bP d8).lookup ("own":Str)=some bk:=by kernel_rfl
theorem aua:cY "own" y (pX bg bk bP d8)=pX bg y bP d8:=by kernel_rfl
theorem Ui:(pX bg bk bP d8).lookup ("home":Str)=some bP:=by kernel_rfl
theorem at9:cY "home" y (pX bg bk bP d8)=pX bg bk y d8:=by kernel_rfl
theorem Dj:(pX bg bk bP d8).lookup ("taken":Str)=some d8:=by kernel_rfl
theorem aub:cY "taken" y (pX bg bk bP d8)=pX bg bk bP y:=by kernel_rfl
theorem aeh:cY "taken" d8 (cY "home" bP (cY "own" bk (cY "around" bg ([]))))=pX bg bk bP d8:=by kernel_rfl
end
def zR(bg bk:aa):List (Str×aa):=[("nodes",bg),("bodies",bk)]
section
variable{bg bk y:aa}
theorem Oh:(zR bg bk).lookup ("nodes":Str)=some bg:=by kernel_rfl
theorem Fv:(zR bg bk).lookup ("bodies":Str)=some bk:=by kernel_rfl
theorem auk:cY "bodies" y (zR bg bk)=zR bg y:=by kernel_rfl
theorem aen:cY "bodies" bk (cY "nodes" bg ([]))=zR bg bk:=by kernel_rfl
end
def u7(bg bk:aa):List (Str×aa):=[("block",bg),("known",bk)]
section
variable{bg bk y:aa}
theorem Ul:(u7 bg bk).lookup ("block":Str)=some bg:=by kernel_rfl
theorem Um:(u7 bg bk).lookup ("known":Str)=some bk:=by kernel_rfl
theorem aud:cY "known" y (u7 bg bk)=u7 bg y:=by kernel_rfl
theorem ael:cY "known" bk (cY "block" bg ([]))=u7 bg bk:=by kernel_rfl
end
def oG(bg bk bP:aa):List (Str×aa):=[("steps",bg),("known",bk),("place",bP)]
section
variable{bg bk bP y:aa}
theorem ad9:(oG bg bk bP).lookup ("steps":Str)=some bg:=by kernel_rfl
theorem ad7:(oG bg bk bP).lookup ("known":Str)=some bk:=by kernel_rfl
theorem auo:cY "known" y (oG bg bk bP)=oG bg y bP:=by kernel_rfl
theorem ad8:(oG bg bk bP).lookup ("place":Str)=some bP:=by kernel_rfl
theorem aeL:cY "place" y (oG bg bk bP)=oG bg bk y:=by kernel_rfl
theorem aep:cY "place" bP (cY "known" bk (cY "steps" bg ([])))=oG bg bk bP:=by kernel_rfl
end
def fX(bg bk bP d8 e5:aa):List (Str×aa):=[("blocks",bg),("allowed",bk),("calls",bP),("cells",d8),("out",e5)]
section
variable{bg bk bP d8 e5 y:aa}
theorem Fw:(fX bg bk bP d8 e5).lookup ("blocks":Str)=some bg:=by kernel_rfl
theorem aea:(fX bg bk bP d8 e5).lookup ("allowed":Str)=some bk:=by kernel_rfl
theorem aeO:cY "allowed" y (fX bg bk bP d8 e5)=fX bg y bP d8 e5:=by kernel_rfl
theorem Fx:(fX bg bk bP d8 e5).lookup ("calls":Str)=some bP:=by kernel_rfl
theorem UG:cY "calls" y (fX bg bk bP d8 e5)=fX bg bk y d8 e5:=by kernel_rfl
theorem Fy:(fX bg bk bP d8 e5).lookup ("cells":Str)=some d8:=by kernel_rfl
theorem UH:cY "cells" y (fX bg bk bP d8 e5)=fX bg bk bP y e5:=by kernel_rfl
theorem zU:(fX bg bk bP d8 e5).lookup ("out":Str)=some e5:=by kernel_rfl
theorem UI:cY "out" y (fX bg bk bP d8 e5)=fX bg bk bP d8 y:=by kernel_rfl
theorem Uz:(fX bg bk bP d8 e5).lookup ("run_main":Str)=none:=by kernel_rfl
theorem Uy:(fX bg bk bP d8 e5).lookup ("call_out":Str)=none:=by kernel_rfl
theorem UA:(fX bg bk bP d8 e5).lookup ("run_steps":Str)=none:=by kernel_rfl
theorem aeH:(fX bg bk bP d8 e5).lookup ("work_out":Str)=none:=by kernel_rfl
theorem aeG:(fX bg bk bP d8 e5).lookup ("go_on":Str)=none:=by kernel_rfl
theorem aeF:(fX bg bk bP d8 e5).lookup ("count_call":Str)=none:=by kernel_rfl
theorem Lm:(fX bg bk bP d8 e5).lookup ("make":Str)=none:=by kernel_rfl
theorem aes:cY "out" e5 (cY "cells" d8 (cY "calls" bP (cY "allowed" bk (cY "blocks" bg ([])))))=fX bg bk bP d8 e5:=by kernel_rfl
end
def sj(bg bk:aa):List (Str×aa):=[("numbers",bg),("place",bk)]
section
variable{bg bk y:aa}
theorem Of:(sj bg bk).lookup ("numbers":Str)=some bg:=by kernel_rfl
theorem Fq:(sj bg bk).lookup ("place":Str)=some bk:=by kernel_rfl
theorem UF:cY "place" y (sj bg bk)=sj bg y:=by kernel_rfl
theorem aew:(sj bg bk).lookup ("ended":Str)=none:=by kernel_rfl
theorem v9:(sj bg bk).lookup ("take":Str)=none:=by kernel_rfl
theorem Dq:(sj bg bk).lookup ("take_row":Str)=none:=by kernel_rfl
theorem aej:cY "place" bk (cY "numbers" bg ([]))=sj bg bk:=by kernel_rfl
end
def i4(bg bk:aa):List (Str×aa):=[("code",bg),("worker",bk)]
section
variable{bg bk y:aa}
theorem Ft:(i4 bg bk).lookup ("code":Str)=some bg:=by kernel_rfl
theorem aeI:cY "code" y (i4 bg bk)=i4 y bk:=by kernel_rfl
theorem yj:(i4 bg bk).lookup ("worker":Str)=some bk:=by kernel_rfl
theorem aeJ:cY "worker" y (i4 bg bk)=i4 bg y:=by kernel_rfl
theorem aeA:(i4 bg bk).lookup ("load":Str)=none:=by kernel_rfl
theorem z8:(i4 bg bk).lookup ("must_have_code":Str)=none:=by kernel_rfl
theorem z9:(i4 bg bk).lookup ("must_have_out":Str)=none:=by kernel_rfl
theorem aeB:(i4 bg bk).lookup ("procs":Str)=none:=by kernel_rfl
theorem aeE:(i4 bg bk).lookup ("takes_along":Str)=none:=by kernel_rfl
theorem aeD:(i4 bg bk).lookup ("run":Str)=none:=by kernel_rfl
theorem aex:(i4 bg bk).lookup ("apply":Str)=none:=by kernel_rfl
theorem aeC:(i4 bg bk).lookup ("result":Str)=none:=by kernel_rfl
theorem aey:(i4 bg bk).lookup ("calls_made":Str)=none:=by kernel_rfl
theorem aez:(i4 bg bk).lookup ("cells_taken":Str)=none:=by kernel_rfl
theorem aek:cY "worker" bk (cY "code" bg ([]))=i4 bg bk:=by kernel_rfl
end
end Cl
namespace bF
open PySem PySem.Spec PyProof.Rows
def Ec(e:DictEntry):Option (Int×Int):=match e.key,e.val with
 |.int i _,.int v _=>if e.hash=hashInt i then some (i,v)else none
 |_,_=>none
theorem Yy{e:DictEntry}{x:Int×Int}(h:Ec e=some x):(∃t u,e.key=.int x.1 t/\e.val=.int x.2 u)/\e.hash=hashInt x.1:=by
 unfold Ec at h;split at h
 .rename_i i t v u ay aq;split at h
  .rename_i bB;cases h;exact⟨⟨t,u,ay,aq⟩,bB⟩
  .cases h
 .cases h
theorem VZ(P:Program)(w:World):∀(bX:List DictEntry)(kvs:List (Int×Int)),bX.map Ec=kvs.map some->Pairs (xK P w) bX (bX.zip kvs|>.map fun x=>(Sum.inl x.2.1,x.1.val))/\z7 (kvs.map fun x=>((Sum.inl x.1:kK),aa.int x.2)) (bX.zip kvs|>.map fun x=>(Sum.inl x.2.1,x.1.val))
 |[],[],_=>⟨.nil,.nil⟩
 |[],_::_,h=>by simp at h
 |_::_,[],h=>by simp at h
 |e::bX,x::kvs,h=>by
  simp only[j6,List.cons.injEq]at h;obtain⟨⟨t,u,ay,aq⟩,bB⟩:=Yy h.1;obtain⟨ej,c6⟩:=VZ P w bX kvs h.2;refine⟨.cons ?_ z ej,.cons ⟨z,?_⟩ c6⟩
  .show AE (.inl x.1) e.key=true;rw[ay];exact Rb _ _
  .show RelV (aa.int x.2) e.val;rw[aq];exact⟨u,z⟩
theorem VX{P:Program}{w:World}:∀(bX:List DictEntry)(kvs:List (Int×Int)),bX.map Ec=kvs.map some->∀e∈bX,∃k:kK,(xK P w).is k e.key=true/\e.hash=(xK P w).hash k
 |[],_,_,_,h=>by simp at h
 |_::_,[],h,_,_=>by simp at h
 |e::bX,x::kvs,h,ie,cz=>by
  simp only[j6,List.cons.injEq]at h;rcases dG.mp cz with rfl|cz
  .obtain⟨⟨t,u,ay,aq⟩,bB⟩:=Yy h.1;refine⟨.inl x.1,?_,bB⟩;show AE (.inl x.1) ie.key=true;rw[ay];exact Rb _ _
  .exact VX bX kvs h.2 ie cz
theorem ahm{K:Frag}{p:Addr}{bX:Array DictEntry}{n:Nat}(aN:(p==sysModules)=false)(aD:K.lookup p=some ⟨.type "dict",none,.dict bX n,#[]⟩){kvs:List (Int×Int)}(cz:bX.toList.map Ec=kvs.map some)(aH:(kvs.map fun x=>(Sum.inl x.1:kK)).Nodup):
  Lg K p (kvs.map fun x=>((Sum.inl x.1:kK),aa.int x.2)):=by
 refine⟨aN,fun P w h X=>?_⟩;obtain⟨ej,c6⟩:=VZ P w bX.toList kvs cz;refine⟨_,c6,_,bX,n,X _ _ aD,⟨z,z,z⟩,z,fun e aM=>VX bX.toList kvs cz e (by simpa using aM),ej,?_⟩;have e:∀(bX:List DictEntry)(kvs:List (Int×Int)),bX.map Ec=kvs.map some->(bX.zip kvs|>.map fun x=>((Sum.inl x.2.1:kK),x.1.val)).map (·.1)=kvs.map fun x=>(Sum.inl x.1:kK):=by
  intro bX
  induction bX with
  |nil=>intro kvs h;cases kvs with
   |nil=>rfl
   |cons _ _=>simp at h
  |cons e bX eL=>intro kvs h;cases kvs with
   |nil=>simp at h
   |cons x kvs=>
    simp only[j6,List.cons.injEq]at h;simp[eL kvs h.2]
 rw[e _ _ cz];exact aH
theorem Wg{K:Frag}{C N:Addr}{yZ:Option Value}{nm q:Str}{bs:List Value}{hdct:Bool}{sn:List Str}{sub:List Value}{ab:Bool}{col:Option Bool}{dd:Option Addr}{k0 k1 k2 k3 k5:Option Value}(l:K.lookup C=some (excClassObj nm q C N bs vq hdct sn sub ab col dd k0 k1 k2 k3 k5 "Exception.__new__"))(n:nsOkIn K N=true)(i:nsIn K N "__init__"=some yZ):lQ K C yZ:=⟨_,_,_,_,_,_,_,_,_,_,_,_,_,_,_,l,n,i⟩
end bF
namespace Cl
open PySem PySem.Spec PyProof.Rows bF
section
variable{P:Program}{w:World}{K:Frag}{az:Str->Option Value}{base:Heap}{a:bU}
def ark(C:Addr):dj:=fun vs H Q _=>∃(p dx:Addr)(b5 bL eX:aa),vs=[.ref p,b5,bL,eX]/\H p=some (.au C dx [])/\Q .b9 (V H p (.au C dx (mr b5 bL eX)))
theorem aqt:dP ["self","around","depth","home"] ["self","around","depth","home"] (cT abS):=by trivial
theorem KC(T:Txt K az a):cZ P w K az base (cW P w) 1 a.Ik a.Gy ["self","around","depth","home"] (ark a.iH):=by
 refine T.aiF.dZ aqt (fun vs H Q E h=>?_) (fun cJ A outer s H vs Q E aO h=>?_)
 .obtain⟨p,dx,b5,bL,eX,rfl,_⟩:=h;rfl
 .obtain⟨p,dx,b5,bL,eX,rfl,aN,k⟩:=h;refine⟨_,bh (f5 (af 0) (af 1) z) (bh (f5 (af 0) (af 2) z) (bl (f5 (af 0) (af 3) z))),?_⟩;refine⟨_,z,_,z,p,_,dx,_,z,aN,T.n7,T.zj,(by show 0<1000;decide),?_⟩;refine⟨_,z,_,z,p,_,dx,_,z,aP,T.n7,T.MP,(kZ kY),?_⟩;refine⟨_,z,_,z,p,_,dx,_,z,aP,T.n7,T.AL,(kZ (pl kY)),?_⟩;rw[jz,jz,aeq];exact k
def ac7(C kA:Addr):dj:=fun vs H Q _=>∃(p dx sp bH:Addr)(b5 bL eX gr mi oq:aa),vs=[.ref p,b5,bL,eX,.ref sp]/\H p=some (.au C dx [])/\sp≠p/\H sp=some (.au kA bH (mr gr mi oq))/\
 ∀l,H l=none->l≠p->Q .b9 (V (V H l (.ak [])) p (.au C dx (iP b5 bL eX gr oq (.ref l))))
theorem aqp:dP ["self","kind","value","parts","spot"] ["self","kind","value","parts","spot"] (cT abJ):=by trivial
theorem KB(T:Txt K az a):cZ P w K az base (cW P w) 1 a.H9 a.Gn ["self","kind","value","parts","spot"] (ac7 a.ip a.iH):=by
 refine T.aiw.dZ aqp (fun vs H Q E h=>?_) (fun cJ A outer s H vs Q E aO h=>?_)
 .obtain⟨p,dx,sp,bH,b5,bL,eX,gr,mi,oq,rfl,_⟩:=h;rfl
 .obtain⟨p,dx,sp,bH,b5,bL,eX,gr,mi,oq,rfl,aN,br,aL,k⟩:=h;refine⟨_,bh (f5 (af 0) (af 1) z) (bh (f5 (af 0) (af 2) z) (bh (f5 (af 0) (af 3) z) (bh (f5 (af 0) (bG (af 4) z) z)
   (bh (f5 (af 0) (bG (af 4) z) z) (bl (f5 (af 0) (gx aY) z)))))),?_⟩
  refine⟨_,z,_,z,p,_,dx,_,z,aN,T.gI,T.qK,(by show 0<1000;decide),?_⟩;refine⟨_,z,_,z,p,_,dx,_,z,aP,T.gI,T.uP,kZ kY,?_⟩;rw[jz];refine⟨_,z,_,z,p,_,dx,_,z,aP,T.gI,T.RD,kZ (pl kY),?_⟩;rw[jz];refine⟨_,z,sp,_,bH,_,_,z,(by rw[aK br];exact aL),T.n7,T.zj,zT,_,z,p,_,dx,_,z,aP,T.gI,T.Kq,kZ (pl (pl kY)),?_⟩;rw[jz];refine⟨_,z,sp,_,bH,_,_,z,(by rw[aK br];exact aL),T.n7,T.AL,Bt,_,z,p,_,dx,_,z,aP,T.gI,T.AK,kZ (pl (pl (pl kY))),?_⟩;rw[jz];refine⟨jV _,fun l aD=>?_⟩;obtain⟨fL,iJ⟩:=e8 aD;refine⟨_,z,p,_,dx,_,z,(by rw[aK (bC fL)];exact aP),T.gI,T.MM,kZ (pl (pl (pl (pl kY)))),?_⟩;rw[N2 fL,aem];exact k l iJ fL
def ari(C:Addr):dj:=fun vs H Q _=>∃(p dx:Addr)(b5 bL:aa),vs=[.ref p,b5,bL]/\H p=some (.au C dx [])/\
 ∀l m,H l=none->l≠p->H m=none->m≠p->m≠l->Q .b9 (V (V (V H l (.ak [])) m (.ak [])) p (.au C dx (gG b5 bL (.int 0) (.ref l) (.ref m))))
theorem aqr:dP ["self","data","deepest"] ["self","data","deepest"] (cT abL):=by trivial
theorem aab(T:Txt K az a):cZ P w K az base (cW P w) 1 a.Ib a.Gq ["self","data","deepest"] (ari a.gW):=by
 refine T.aiy.dZ aqr (fun vs H Q E h=>?_) (fun cJ A outer s H vs Q E aO h=>?_)
 .obtain⟨p,dx,b5,bL,rfl,_⟩:=h;rfl
 .obtain⟨p,dx,b5,bL,rfl,aN,k⟩:=h;refine⟨_,bh (f5 (af 0) (af 1) z) (bh (f5 (af 0) (af 2) z) (bh (f5 (af 0) dc z) (bh (f5 (af 0) (gx aY) z) (bl (f5 (af 0) (gx aY) z))))),?_⟩;refine⟨_,z,_,z,p,_,dx,_,z,aN,T.gS,T.MO,(by show 0<1000;decide),?_⟩;refine⟨_,z,_,z,p,_,dx,_,z,aP,T.gS,T.ZH,kZ kY,?_⟩;rw[jz];refine⟨_,z,p,_,dx,_,z,aP,T.gS,T.Er,kZ (pl kY),?_⟩;rw[jz];refine⟨jV _,fun l aD=>?_⟩;obtain⟨fL,iJ⟩:=e8 aD;refine⟨_,z,p,_,dx,_,z,(by rw[aK (bC fL)];exact aP),T.gS,T.xN,kZ (pl (pl kY)),?_⟩;rw[N2 fL];refine⟨jV _,fun m aM=>?_⟩;obtain⟨fz,gw⟩:=e8 aM;obtain⟨vD,MC⟩:=e8 gw;refine⟨_,z,p,_,dx,_,z,(by rw[aK (bC fz)];exact aP),T.gS,T.zh,kZ (pl (pl (pl kY))),?_⟩;rw[N2 fz,aeo];exact k l m iJ fL MC fz vD
def gM(l:List UInt8):List aa:=l.map fun b=>aa.int b.toNat
def asn(K:Frag)(C wZ:Addr):dj:=fun vs H Q E=>∃(p dx aC:Addr)(bL dI dO:aa)(aR:List UInt8)(i:Nat),vs=[.ref p]/\H p=some (.au C dx (gG (.ref aC) bL (.int i) dI dO))/\bj K H aC (gM aR)/\i<=aR.length/\
 (i=aR.length->E (.ref wZ) none H)/\∀b,aR[i]?=some b->Q (.int b.toNat) (V H p (.au C dx (gG (.ref aC) bL (.int ((i+1:Nat):Int)) dI dO)))
theorem acX:dP ["self","byte"] ["self"] (cT abP):=by trivial
theorem zp(T:Txt K az a):cZ P w K az base (cW P w) 1 a.Ih a.Gv ["self"] (asn K a.gW a.jD):=by
 refine T.aiC.dZ acX (fun vs H Q E h=>?_) (fun cJ A outer s H vs Q E aO h=>?_)
 .obtain⟨p,dx,aC,bL,dI,dO,aR,i,rfl,_⟩:=h;rfl
 .obtain⟨p,dx,aC,bL,dI,dO,aR,i,rfl,aN,aG,aF,dM,k⟩:=h;refine⟨_,bh (d7 (dN e9 (bG (af 0) z) (j3 mu (by rfl) T.mC m3 (aE (bG (af 0) z) aY)) (dH _)) (bl (qQ gT z T.t6 T.rB)) fH)
   (bh (dU (i:=1) acX.aH z (Or.inl z) (mD nJ (bG (af 0) z) (bG (af 0) z) (fun _ _=>rfl)))
   (bh (f5 (af 0) (f9 kH (bG (af 0) z) dc) z) (bl (di (af 1))))),?_⟩
  refine⟨_,z,p,_,dx,_,_,z,aN,T.gS,T.Er,Lj,_,z,p,_,dx,_,_,z,aN,T.gS,T.MO,Oi,aC,_,z,.inl aG,z,_,z,?_⟩;refine fi (fun h=>?_) (fun h=>?_)
  .refine dM ?_;have:=gK h;unfold gM at this;rw[cA]at this;omega
  .have aD:i<aR.length:=by
    rcases Ff i aR.length with q|q
    .exact q
    .exact absurd (by rw[show i=aR.length by omega];unfold gM;rw[cA]) h
   obtain⟨b,ae⟩:∃b,aR[i]?=some b:=⟨_,gA aD⟩;refine⟨_,z,p,_,dx,_,_,z,aN,T.gS,T.MO,Oi,_,z,p,_,dx,_,_,z,aN,T.gS,T.Er,Lj,aC,_,_,_,z,z,aG,lD (v:=aa.int b.toNat) (by unfold gM;rw[h8,ae];rfl),?_⟩;refine⟨_,z,p,_,dx,_,_,z,aN,T.gS,T.Er,Lj,_,_,z,z,_,z,p,_,dx,_,z,aN,T.gS,T.Er,(by show 5<1000;decide),?_⟩;refine⟨_,z,?_⟩;rw[aeK];exact k b ae
theorem al2(l:List UInt8)(b:UInt8):Cz.le (l++[b])=Cz.le l+b.toNat*256^l.length:=by
 induction l with
 |nil=>simp[Cz.le]
 |cons x r eL=>
  have e:Cz.le (x::r++[b])=x.toNat+256*Cz.le (r++[b]):=rfl;have aq:Cz.le (x::r)=x.toNat+256*Cz.le r:=rfl;rw[e,aq,eL,c9,Nat.pow_succ];have bB:256*(b.toNat*256^r.length)=b.toNat*(256^r.length*256):=by
   rw[Nat.mul_comm 256,Nat.mul_assoc]
  rw[Nat.mul_add,bB];omega
def arY(K:Frag)(C wZ:Addr):dj:=fun vs H Q E=>∃(p dx aC:Addr)(bL dI dO:aa)(aR:List UInt8)(i:Nat),vs=[.ref p]/\H p=some (.au C dx (gG (.ref aC) bL (.int i) dI dO))/\aC≠p/\bj K H aC (gM aR)/\i<=aR.length/\
 (aR.length<i+4->∀H',aV [p] H H'->E (.ref wZ) none H')/\
 (i+4<=aR.length->∀H',aV [p] H H'->H' p=some (.au C dx (gG (.ref aC) bL (.int ((i+4:Nat):Int)) dI dO))->Q (.int (Cz.le ((aR.drop i).take 4))) H')
theorem NF:dP ["self","value","shift"] ["self"] (cT abO):=by trivial
theorem ac5{j:Nat}(bQ:j<4):([.int 0,.int 8,.int 16,.int 24]:List aa)[j]?=some (.int (8*j:Nat)):=by
 match j,bQ with
 |0,_=>rfl
 |1,_=>rfl
 |2,_=>rfl
 |3,_=>rfl
theorem aak(T:Txt K az a):cZ P w K az base (cW P w) 2 a.Ig a.Gu ["self"] (arY K a.gW a.jD):=by
 refine T.aiB.dZ NF (fun vs H Q E h=>?_) (fun cJ A outer s H vs Q E aO h=>?_)
 .obtain⟨p,dx,aC,bL,dI,dO,aR,i,rfl,_⟩:=h;rfl
 .obtain⟨p,dx,aC,bL,dI,dO,aR,i,rfl,aN,ki,aG,aF,dM,k⟩:=h;refine⟨_,bh (dU (i:=1) NF.aH z (Or.inl z) dc)
   (bh (vL gT.own z (aaP (qO (aE dc (aE dc (aE dc (aE dc aY)))))) (mF (i:=2) NF.aH z (Or.inl z))
    (bl (dU (i:=1) NF.aH z (Or.inl z) (f9 kH (af 1) (f9 ao5 (iC (af 0) T.gS T.zf (zp T) aO T.yx .nil bZ) (af 2))))))
   (bl (di (af 1)))),?_⟩
  refine⟨(by show 4<=sizeLine;decide),fun t bO=>⟨t,z,⟨_,je.bM aP⟩,?_⟩⟩;have Yc:t≠p:=fun I=>by rw[I,aN]at bO;cases bO
  refine aiQ (K:=K) (a:=t) (xs:=[.int 0,.int 8,.int 16,.int 24]) (fun j O H'=>∃v:Option aa,O=[some (.ref p),some (.int (Cz.le ((aR.drop i).take j):Nat)),v]/\aV [p] H H'/\i+j<=aR.length/\
   H' t=some (.dD [.int 0,.int 8,.int 16,.int 24])/\H' p=some (.au a.gW dx (gG (.ref aC) bL (.int ((i+j:Nat):Int)) dI dO))) ?_ (fun j O H' _⟨_,_,_,_,q,_⟩=>je.bM q) ?_ ?_
  .exact⟨none,z,aV.refl.V (.inr bO),aF,aP,by rw[aK (bC Yc)];exact aN⟩
  .rintro j x O H' bQ ⟨v,rfl,aJ,aD,aW,bf⟩;have Mg:j<4:=by
    have:=(gn.mp bQ).1;exact this
   rw[ac5 Mg]at bQ;cases bQ;refine⟨_,z,_,z,p,dx,_,z,bf,yq,p,dx,aC,bL,dI,dO,aR,i+j,z,bf,aJ.seq (by simpa using ki) aG,aD,fun e=>dM (by omega) _ aJ,fun b ae=>?_⟩;have eY:i+j<aR.length:=(gn.mp ae).1;refine⟨_,z,_,_,z,z,⟨by omega,by omega,?_⟩,_,_,z,z,?_⟩
   .have:=b.toNat_lt;have e:(2:Nat)^64=18446744073709551616:=by decide
    rw[e];omega
   .refine⟨some (.int ((8*j:Nat):Int)),?_,aJ.V (.inl (by simp)),eY,by rw[aK Yc];exact aW,aP⟩;have e:(aR.drop i)[j]?=some b:=by rw[getElem?_drop];exact ae
    have aq:(aR.drop i).take (j+1)=(aR.drop i).take j++[b]:=by
     rw[take_add_one,e];rfl
    have bB:((aR.drop i).take j).length=j:=by
     rw[u0,oE];omega
    have dQ:(2:Int)^(8*j)=((256^j:Nat):Int):=by
     rw[Int.natCast_pow,show((256:Nat):Int)=2^8 from rfl,<-Int.pow_mul]
    have f7:(((8*j:Nat):Int)).toNat=8*j:=by omega
    rw[aq,al2,bB];show[some (aa.ref p),some (aa.int (((Cz.le ((aR.drop i).take j):Nat):Int)+(b.toNat:Int)*2^(((8*j:Nat):Int)).toNat)),_]=_;rw[f7,dQ];push_cast;rfl
  .rintro O H' ⟨v,rfl,aJ,aD,aW,bf⟩;exact⟨_,z,k aD H' aJ bf⟩
def arU(C kA wZ:Addr):dj:=fun vs H Q E=>∃(p dx aX sp bH:Addr)(b5 eX dI gr oq:aa)(m d:Int)(xs:List aa),vs=[.ref p]/\H p=some (.au C dx (gG b5 (.int m) eX dI (.ref aX)))/\H aX=some (.ak (xs++[.ref sp]))/\
 H sp=some (.au kA bH (mr gr (.int d) oq))/\(m<d->E (.ref wZ) none (V H aX (.ak xs)))/\(d<=m->Q (.ref sp) (V H aX (.ak xs)))
theorem acQ:dP ["self","spot"] ["self"] (cT abN):=by trivial
theorem aaj(T:Txt K az a):cZ P w K az base (cW P w) 1 a.Ie a.Gs ["self"] (arU a.gW a.iH a.jD):=by
 refine T.aiA.dZ acQ (fun vs H Q E h=>?_) (fun cJ A outer s H vs Q E aO h=>?_)
 .obtain⟨p,dx,aX,sp,bH,b5,eX,dI,gr,oq,m,d,xs,rfl,_⟩:=h;rfl
 .obtain⟨p,dx,aX,sp,bH,b5,eX,dI,gr,oq,m,d,xs,rfl,aN,hw,aL,dM,k⟩:=h;have ed:p≠aX:=fQ aN hw (by intro q;cases q);have fc:sp≠aX:=fQ aL hw (by intro q;cases q);refine⟨_,bh (dU (i:=1) acQ.aH z (Or.inl z) (vJ gZ vX wV vE (bG (af 0) z)))
   (bh (d7 (dN AW (bG (af 1) z) (bG (af 0) z) (dH _)) (bl (qQ gT z T.t6 T.rB)) fH) (bl (di (af 1)))),?_⟩
  refine⟨_,z,p,_,dx,_,_,z,aN,T.gS,T.zh,zS,.inl ⟨z,_,bj.bM hw⟩,aX,_,.ref sp,z,z,hw,(by simp),?_⟩;rw[uu];refine⟨_,z,sp,_,bH,_,_,z,(by rw[aK fc];exact aL),T.n7,T.MP,Oj,_,z,p,_,dx,_,_,z,(by rw[aK ed];exact aN),T.gS,T.ZH,ad6,_,_,z,z,_,z,?_⟩;refine fi (fun h=>dM h) (fun h=>⟨_,z,k (by omega)⟩)
def arq(K:Frag)(C wZ:Addr):dj:=fun vs H Q E=>∃(p dx aC:Addr)(bL dI dO:aa)(aR:List UInt8)(i:Nat),vs=[.ref p]/\H p=some (.au C dx (gG (.ref aC) bL (.int i) dI dO))/\bj K H aC (gM aR)/\
 (i<aR.length->E (.ref wZ) none H)/\(aR.length<=i->Q .b9 H)
theorem aqx:dP ["self"] ["self"] (cT abM):=by trivial
theorem aae(T:Txt K az a):cZ P w K az base (cW P w) 1 a.Ic a.Gr ["self"] (arq K a.gW a.jD):=by
 refine T.aiz.dZ aqx (fun vs H Q E h=>?_) (fun cJ A outer s H vs Q E aO h=>?_)
 .obtain⟨p,dx,aC,bL,dI,dO,aR,i,rfl,_⟩:=h;rfl
 .obtain⟨p,dx,aC,bL,dI,dO,aR,i,rfl,aN,aG,dM,k⟩:=h;refine⟨_,bl (d7 (dN KD (bG (af 0) z) (j3 mu (by rfl) T.mC m3 (aE (bG (af 0) z) aY)) (dH _)) (bl (qQ gT z T.t6 T.rB)) fH),?_⟩;refine⟨_,z,p,_,dx,_,_,z,aN,T.gS,T.Er,Lj,_,z,p,_,dx,_,_,z,aN,T.gS,T.MO,Oi,aC,_,z,.inl aG,_,_,z,z,_,z,?_⟩;have e:(gM aR).length=aR.length:=by unfold gM;rw[cA]
  rw[e];exact fi (fun h=>dM (by omega)) (fun h=>k (by omega))
def p7(C:Addr)(H:aA)(x:Addr)(sp:Z.jd):Prop:=∃dx,H x=some (.au C dx (mr (.int sp.eZ) (.int sp.depth) (.int sp.bJ)))
def vI(c:Nat):Nat:=if c=8 then 3 else 2
def A1(c n d h:Nat):List Z.jd:=⟨if c=9 then n+1 else n,d+1,h⟩::replicate (vI c -1) ⟨n,d+1,h⟩
theorem E0{c:Nat}(h:4<=c/\c<=9):vU ([(.inl 4,.int 2),(.inl 5,.int 2),(.inl 6,.int 2),(.inl 7,.int 2),(.inl 8,.int 3),(.inl 9,.int 2)]:List (kK×aa)) (.inl (c:Int))=some (.int (vI c)):=by
 have:c=4\/c=5\/c=6\/c=7\/c=8\/c=9:=by omega
 rcases this with rfl|rfl|rfl|rfl|rfl|rfl<;>rfl
theorem TR{c:Nat}(h:¬(4<=c/\c<=9)):vU ([(.inl 4,.int 2),(.inl 5,.int 2),(.inl 6,.int 2),(.inl 7,.int 2),(.inl 8,.int 3),(.inl 9,.int 2)]:List (kK×aa)) (.inl (c:Int))=none:=by
 have e:∀k:Int,4<=k->k<=9->¬((Sum.inl k:kK)=Sum.inl (c:Int)):=fun k ai aj I=>by
  have:=Sum.inl.inj I;omega
 rw[C5 (e 4 (by decide) (by decide)),C5 (e 5 (by decide) (by decide)),C5 (e 6 (by decide) (by decide)),C5 (e 7 (by decide) (by decide)),C5 (e 8 (by decide) (by decide)),C5 (e 9 (by decide) (by decide)),atv]
theorem rV{cL ik:Type}{F:cL->ik->Prop}:∀{l:List cL}{m:List ik}{x:cL}{y:ik},Paired F l m->F x y->Paired F (l++[x]) (m++[y])
 |_,_,_,_,.nil,h=>.cons h .nil
 |_,_,_,_,.cons r t,h=>.cons r (rV t h)
theorem p7.keep{C:Addr}{H H':aA}{M:List Addr}{x:Addr}{sp:Z.jd}(h:p7 C H x sp)(k:aV M H H')(oU:∀b∈M,∃xs,H b=some (.ak xs)):p7 C H' x sp:=by
 obtain⟨dx,e⟩:=h;refine⟨dx,k _ _ e fun I=>?_⟩;obtain⟨xs,q⟩:=oU x I;rw[e]at q;cases q
def ass(C kA:Addr):dj:=fun vs H Q _=>∃(p dx aX sp bH:Addr)(b5 bL eX dI:aa)(c n d h:Nat)(ah:List aa),vs=[.ref p,.int c,.ref sp]/\H p=some (.au C dx (gG b5 bL eX dI (.ref aX)))/\H aX=some (.ak ah)/\
 H sp=some (.au kA bH (mr (.int n) (.int d) (.int h)))/\(4<=c/\c<=9)/\ah.length+10<=sizeLine/\
 ∀(H':aA)(xs:List Addr),aV [aX] H H'->H' aX=some (.ak (ah++xs.map aa.ref))->Paired (p7 kA H') xs (A1 c n d h)->Q .b9 H'
theorem NI:dP ["self","kind","spot","depth","last","earlier"] ["self","kind","spot"] (cT abQ):=by trivial
theorem aau(T:Txt K az a):cZ P w K az base (cW P w) 3 a.Ii a.Gw ["self","kind","spot"] (ass a.gW a.iH):=by
 refine T.aiD.dZ NI (fun vs H Q E h=>?_) (fun cJ A outer s H vs Q E aO h=>?_)
 .obtain⟨p,dx,aX,sp,bH,b5,bL,eX,dI,c,n,d,h,ah,rfl,_⟩:=h;rfl
 .obtain⟨p,dx,aX,sp,bH,b5,bL,eX,dI,c,n,d,h,ah,rfl,aN,hw,aL,aB,bR,k⟩:=h;have ed:p≠aX:=fQ aN hw (by intro q;cases q);have fc:sp≠aX:=fQ aL hw (by intro q;cases q);refine⟨_,bh (dU (i:=3) NI.aH z (Or.inl z) (f9 kH (bG (af 2) z) dc))
   (bh (dU (i:=4) NI.aH z (Or.inl z) (AX (dN e9 (af 1) (cH T.Xl) (dH _)) (f9 kH (bG (af 2) z) dc) (bG (af 2) z)))
   (bh (fD (jk gZ k7 lA kU (bG (af 0) z)
    (aE (mE T.Kl (KC T) aO z T.Kg T.FT .nil bZ (aE (af 4) (aE (af 3) (aE (bG (af 2) z) aY)))) aY)))
   (bl (vL gT.own z (Nc z T.MV (aE (f9 uc (Sn (CJ (v:=.ref a.rU) z T.En z) (af 1) (fun _ _=>rfl)) dc) aY)) (mF (i:=5) NI.aH z (Or.inl z))
    (bl (fD (jk gZ k7 lA kU (bG (af 0) z)
     (aE (mE T.Kl (KC T) aO z T.Kg T.FT .nil bZ (aE (bG (af 2) z) (aE (af 3) (aE (bG (af 2) z) aY)))) aY)))))))),?_⟩
  refine⟨_,z,sp,_,bH,_,_,z,aL,T.n7,T.MP,Oj,_,_,z,z,?_⟩;refine⟨_,z,z,_,z,fi (fun wk=>⟨_,z,sp,_,bH,_,_,z,aL,T.n7,T.zj,zT,_,_,z,z,?_⟩) (fun wk=>⟨_,z,sp,_,bH,_,_,z,aL,T.n7,T.zj,zT,?_⟩)⟩
  all_goals
   refine⟨_,z,p,_,dx,_,_,z,aN,T.gS,T.zh,zS,.inl ⟨z,_,bj.bM hw⟩,_,z,_,z,_,z,sp,_,bH,_,_,z,aL,T.n7,T.AL,Bt,?_⟩;intro x wj aq ay bB;have dF:x≠aX:=fun I=>by rw[I,hw]at aq;cases aq
   have aH:wj≠aX:=fun I=>by rw[I,hw]at ay;cases ay
   refine⟨x,wj,_,_,_,z,aP,z,aX,ah,_,z,z,(by rw[aK (bC dF),aK (bC dF),aK (bC aH)];exact hw),by omega,?_⟩;have D5:2<=vI c/\vI c<=3:=by unfold vI;split<;>omega
   refine⟨_,z,a.rU,_,.inl (c:Int),_,z,T.DI,z,E0 aB,_,_,z,z,_,z,by omega,by omega,?_⟩;have gY:((vI c:Int) -1).toNat=vI c -1:=by omega
   rw[gY];refine PM (n:=vI c -1) (fun j O H'=>∃dI dO:Option aa,O=[some (.ref p),some (.int c),some (.ref sp),some (.int ((d:Int)+1)),dI,dO]/\∃xs:List Addr,xs.length=j+1/\aV [aX] H H'/\H' aX=some (.ak (ah++xs.map aa.ref))/\
    Paired (p7 a.iH H') xs (⟨if c=9 then n+1 else n,d+1,h⟩::replicate j ⟨n,d+1,h⟩)) ?_ ?_ ?_
   .refine⟨_,_,z,[x],z,(((aV.refl.V (.inr ay)).V (.inr aq)).V (.inr aq)).V (.inl (by simp)),aP,.cons ⟨wj,?_⟩ .nil⟩;rw[aK dF,aP]
    first
     |(rw[bT (by have:=gK wk;omega)];rfl)
     |(rw[bz (fun I=>wk (by rw[I];rfl))];rfl)
   .rintro j O H' bQ ⟨dI,dO,rfl,xs,Y,aJ,aW,bf⟩;have QH:=aJ _ _ aN (by simpa using ed);have xB:=aJ _ _ aL (by simpa using fc);refine⟨_,z,p,_,dx,_,_,z,QH,T.gS,T.zh,zS,.inl ⟨z,_,bj.bM aW⟩,_,z,sp,_,bH,_,_,z,xB,T.n7,T.zj,zT,_,z,_,z,sp,_,bH,_,_,z,xB,T.n7,T.AL,Bt,?_⟩;intro y oR f2 f1 jG;have CC:y≠aX:=fun I=>by rw[I,aW]at f2;cases f2
    have RJ:oR≠aX:=fun I=>by rw[I,aW]at f1;cases f1
    have d9:∀b,H' b=none->H b=none:=fun b e=>by
     cases q:H b with
     |none=>rfl
     |some o=>
      by_cases ae:b=aX
      .rw[ae,aW]at e;cases e
      .rw[aJ b o q (by simpa using ae)]at e;cases e
    refine⟨y,oR,_,_,_,z,aP,z,aX,_,_,z,z,(by rw[aK (bC CC),aK (bC CC),aK (bC RJ)];exact aW),(by rw[g8,cA];omega),?_⟩;refine⟨_,_,z,xs++[y],by simp[Y],(((aJ.V (.inr (d9 _ f1))).V (.inr (d9 _ f2))).V (.inr (d9 _ f2))).V (.inl (by simp)),by rw[aP];simp,?_⟩;rw[List.replicate_succ',<-List.cons_append];refine rV (bF.Paired.nI (fun b avl ae=>?_) bf) ⟨oR,by rw[aK CC,aP];rfl⟩;exact p7.keep ae (M:=[aX]) ((((aV.refl.V (.inr f1)).V (.inr f2)).V (.inr f2)).V (.inl (by simp))) (fun b ae=>by have:=mem_singleton.mp ae;subst this;exact⟨_,aW⟩)
   .rintro O H' ⟨dI,dO,rfl,xs,Y,aJ,aW,bf⟩;exact k H' xs aJ aW bf
end
section
variable{P:Program}{w:World}{K:Frag}{az:Str->Option Value}{base:Heap}{a:bU}
def ara(C:Addr):dj:=fun vs H Q _=>∃(p dx:Addr)(b5 bL eX:aa),vs=[.ref p,b5,bL,eX]/\H p=some (.au C dx [])/\∀l,H l=none->l≠p->Q .b9 (V (V H l (.ak [])) p (.au C dx (pX b5 bL eX (.ref l))))
theorem aqj:dP ["self","around","own","home"] ["self","around","own","home"] (cT abp):=by trivial
theorem aaa(T:Txt K az a):cZ P w K az base (cW P w) 1 a.HL a.F4 ["self","around","own","home"] (ara a.qa):=by
 refine T.aic.dZ aqj (fun vs H Q E h=>?_) (fun cJ A outer s H vs Q E aO h=>?_)
 .obtain⟨p,dx,b5,bL,eX,rfl,_⟩:=h;rfl
 .obtain⟨p,dx,b5,bL,eX,rfl,aN,k⟩:=h;refine⟨_,bh (f5 (af 0) (af 1) z) (bh (f5 (af 0) (af 2) z) (bh (f5 (af 0) (af 3) z) (bl (f5 (af 0) (gx aY) z)))),?_⟩;refine⟨_,z,_,z,p,_,dx,_,z,aN,T.qB,T.MK,(by show 0<1000;decide),?_⟩;refine⟨_,z,_,z,p,_,dx,_,z,aP,T.qB,T.Rz,kZ kY,?_⟩;rw[jz];refine⟨_,z,_,z,p,_,dx,_,z,aP,T.qB,T.Ry,kZ (pl kY),?_⟩;rw[jz];refine⟨jV _,fun l aD=>?_⟩;obtain⟨fL,iJ⟩:=e8 aD;refine⟨_,z,p,_,dx,_,z,(by rw[aK (bC fL)];exact aP),T.qB,T.Cs,kZ (pl (pl kY)),?_⟩;rw[N2 fL,aeh];exact k l iJ fL
def arh(C:Addr):dj:=fun vs H Q _=>∃(p dx:Addr)(b5 bL:aa),vs=[.ref p,b5,bL]/\H p=some (.au C dx [])/\Q .b9 (V H p (.au C dx (zR b5 bL)))
theorem aqq:dP ["self","nodes","bodies"] ["self","nodes","bodies"] (cT abK):=by trivial
theorem aof(T:Txt K az a):cZ P w K az base (cW P w) 1 a.Ia a.Gp ["self","nodes","bodies"] (arh a.vn):=by
 refine T.aix.dZ aqq (fun vs H Q E h=>?_) (fun cJ A outer s H vs Q E aO h=>?_)
 .obtain⟨p,dx,b5,bL,rfl,_⟩:=h;rfl
 .obtain⟨p,dx,b5,bL,rfl,aN,k⟩:=h;refine⟨_,bh (f5 (af 0) (af 1) z) (bl (f5 (af 0) (af 2) z)),?_⟩;refine⟨_,z,_,z,p,_,dx,_,z,aN,T.xg,T.MN,(by show 0<1000;decide),?_⟩;refine⟨_,z,_,z,p,_,dx,_,z,aP,T.xg,T.Ep,kZ kY,?_⟩;rw[jz,aen];exact k
def asd(K:Frag)(C kA wZ:Addr):dj:=fun vs H Q E=>∃(p dx aC sp bH:Addr)(bL dI dO mi oq:aa)(aR:List UInt8)(i n:Nat),vs=[.ref p,.ref sp]/\H p=some (.au C dx (gG (.ref aC) bL (.int i) dI dO))/\bj K H aC (gM aR)/\i<=aR.length/\
 sp≠p/\H sp=some (.au kA bH (mr (.int n) mi oq))/\(i=aR.length->E (.ref wZ) none H)/\
 ∀b,aR[i]?=some b->(n<=b.toNat->E (.ref wZ) none (V H p (.au C dx (gG (.ref aC) bL (.int ((i+1:Nat):Int)) dI dO))))/\(b.toNat<n->Q (.int b.toNat) (V H p (.au C dx (gG (.ref aC) bL (.int ((i+1:Nat):Int)) dI dO))))
theorem acV:dP ["reader","spot","outward"] ["reader","spot"] (cT acE):=by trivial
theorem aoV(T:Txt K az a):cZ P w K az base (cW P w) 2 a.Je a.Hu ["reader","spot"] (asd K a.gW a.iH a.jD):=by
 refine T.W2.dZ acV (fun vs H Q E h=>?_) (fun cJ A outer s H vs Q E aO h=>?_)
 .obtain⟨p,dx,aC,sp,bH,bL,dI,dO,mi,oq,aR,i,n,rfl,_⟩:=h;rfl
 .obtain⟨p,dx,aC,sp,bH,bL,dI,dO,mi,oq,aR,i,n,rfl,aN,aG,aF,br,aL,dM,k⟩:=h;refine⟨_,bh (dU (i:=2) acV.aH z (Or.inl z) (iC (af 0) T.gS T.zf (zp T) aO T.yx .nil bZ))
   (bh (d7 (dN CH (af 2) (bG (af 1) z) (dH _)) (bl (qQ gT z T.t6 T.rB)) fH) (bl (di (af 2)))),?_⟩
  refine⟨_,z,p,dx,_,z,aN,yq,p,dx,aC,bL,dI,dO,aR,i,z,aN,aG,aF,dM,fun b ae=>?_⟩;refine⟨_,z,_,z,sp,_,bH,_,_,z,(by rw[aK br];exact aL),T.n7,T.zj,zT,_,_,z,z,_,z,?_⟩;exact fi (fun h=>(k b ae).1 (by omega)) (fun h=>⟨_,z,(k b ae).2 (by omega)⟩)
def uw(a:bU)(H:aA)(x:Addr)(aH:Z.jO):Prop:=∃(dx:Addr)(nm:aa),H x=some (.au a.ip dx (iP (.int aH.kind) (.int aH.value) (.int aH.jj) (.int aH.eZ) (.int aH.bJ) nm))
structure jM(a:bU)(H:aA)(av:Addr)(xs cg:List Addr)(B:List Z.fV)(T:Nat->List Nat):Prop where
 ak:H av=some (.ak (xs.map aa.ref))
 lj:xs.length=B.length
 lt:cg.length=B.length
 at_:∀(i:Nat)(x t:Addr)(b:Z.fV),xs[i]?=some x->cg[i]?=some t->B[i]?=some b->
  (∃dx,H x=some (.au a.qa dx (pX (.int b.eZ) (.int b.own) (.int b.bJ) (.ref t))))/\H t=some (.ak ((T i).map fun l=>aa.int (l:Nat)))
 aH:cg.Nodup
 fB:av∉cg
structure w9(K:Frag)(a:bU)(G H:aA)(p aC aQ aX av:Addr)(m:Nat)(aR:List UInt8)(i:Nat)(N:List Z.jO)(ah:List Z.jd)(B:List Z.fV):Prop where
 tn:∃dx,H p=some (.au a.gW dx (gG (.ref aC) (.int m) (.int i) (.ref aQ) (.ref aX)))
 uD:bj K H aC (gM aR)
 le:i<=aR.length
 oi:∃xs,H aQ=some (.ak (xs.map aa.ref))/\Paired (uw a H) xs N
 ya:∃xs,H aX=some (.ak (xs.map aa.ref))/\Paired (p7 a.iH H) xs ah.reverse
 n5:∃xs cg,jM a H av xs cg B (fun _=>[])/\∀t∈cg,t≠aQ/\t≠aX/\G t=none
 kF:aQ≠aX
 xQ:aQ≠av
 C6:aX≠av
 tM:aC∉[p,aQ,aX,av]
 N6:ah.length<=2*i+1
 wC:N.length<=i
 ble:B.length<=65
 A7:aR.length<=100000
 qE:∀b,H b=none->G b=none
def zu(c:Nat):Nat:=if c=2 then 1 else 2
def ars(K:Frag)(a:bU):dj:=fun vs H Q E=>∃(p dx aX sp bH av:Addr)(b5 bL eX dI:aa)(c n d h:Nat)(ah bs:List aa),vs=[.ref p,.int c,.ref sp,.ref av]/\H p=some (.au a.gW dx (gG b5 bL eX dI (.ref aX)))/\H aX=some (.ak ah)/\
 H av=some (.ak bs)/\aX≠av/\H sp=some (.au a.iH bH (mr (.int n) (.int d) (.int h)))/\ah.length+10<=sizeLine/\bs.length+10<=sizeLine/\
 (64<bs.length->E (.ref a.jD) none H)/\
 (bs.length<=64->∀(H':aA)(x t y:Addr),aV [aX,av] H H'->H x=none->H t=none->x≠t->H' av=some (.ak (bs++[.ref x]))->H' aX=some (.ak (ah++[.ref y]))->
  (∃dx,H' x=some (.au a.qa dx (pX (.int n) (.int (zu c)) (.int h) (.ref t))))->H' t=some (.ak [])->p7 a.iH H' y ⟨n+zu c,d+1,bs.length⟩->Q (.int bs.length) H')
theorem S3:dP ["reader","kind","spot","bodies","home","own"] ["reader","kind","spot","bodies"] (cT ab6):=by trivial
theorem aol(T:Txt K az a):cZ P w K az base (cW P w) 3 a.ID a.GM ["reader","kind","spot","bodies"] (ars K a):=by
 refine T.Wz.dZ S3 (fun vs H Q E h=>?_) (fun cJ A outer s H vs Q E aO h=>?_)
 .obtain⟨p,dx,aX,sp,bH,av,b5,bL,eX,dI,c,n,d,h,ah,bs,rfl,_⟩:=h;rfl
 .obtain⟨p,dx,aX,sp,bH,av,b5,bL,eX,dI,c,n,d,h,ah,bs,rfl,aN,hw,ae,Yr,aL,bR,auQ,dM,k⟩:=h;have ed:p≠aX:=fQ aN hw (by intro q;cases q);have fc:sp≠aX:=fQ aL hw (by intro q;cases q);have ql:p≠av:=fQ aN ae (by intro q;cases q);have AI:sp≠av:=fQ aL ae (by intro q;cases q);refine⟨_,bh (dU (i:=4) S3.aH z (Or.inl z) (j3 mu (by rfl) T.mC m3 (aE (af 3) aY)))
   (bh (d7 (dN AW (af 4) (cH T.aji) (dH _)) (bl (qQ gT z T.t6 T.rB)) fH)
   (bh (dU (i:=5) S3.aH z (Or.inl z) (AX (dN e9 (af 1) (cH T.LZ) (dH _)) dc dc))
   (bh (fD (jk gZ k7 lA kU (af 3)
    (aE (mE T.Zx (aaa T) aO z T.Zf T.U1 .nil bZ (aE (bG (af 2) z) (aE (af 5) (aE (bG (af 2) z) aY)))) aY)))
   (bh (fD (jk gZ k7 lA kU (bG (af 0) z)
    (aE (mE T.Kl (KC T) aO z T.Kg T.FT .nil bZ (aE (f9 kH (bG (af 2) z) (af 5)) (aE (f9 kH (bG (af 2) z) dc) (aE (af 4) aY)))) aY)))
   (bl (di (af 4))))))),?_⟩
  refine⟨_,z,av,_,z,.inl (bj.bM ae),?_⟩;refine⟨_,z,_,_,z,z,_,z,fi (fun h=>dM (by omega)) (fun my=>?_)⟩;refine⟨_,z,z,_,z,fi (fun aj=>?_) (fun aj=>?_)⟩
  all_goals
   have tR:∃o:Nat,o=zu c:=⟨_,z⟩;refine⟨_,z,.inl ⟨z,_,bj.bM ae⟩,_,z,sp,_,bH,_,_,z,aL,T.n7,T.zj,zT,_,z,_,z,sp,_,bH,_,_,z,aL,T.n7,T.AL,Bt,?_⟩;intro x wj aq ay bB;refine⟨x,wj,_,_,_,z,aP,fun t bO Mq=>⟨z,?_⟩⟩;obtain⟨pe,kr⟩:=e8 bO;obtain⟨vQ,om⟩:=e8 kr;have dF:x≠av:=fun I=>by rw[I,ae]at aq;cases aq
   have aH:wj≠av:=fun I=>by rw[I,ae]at ay;cases ay
   have Z2:t≠av:=fun I=>by rw[I,ae]at om;cases om
   have anu:x≠aX:=fun I=>by rw[I,hw]at aq;cases aq
   have dw:wj≠aX:=fun I=>by rw[I,hw]at ay;cases ay
   have Km:t≠aX:=fun I=>by rw[I,hw]at om;cases om
   have zA:sp≠x:=fun I=>by rw[<-I,aL]at aq;cases aq
   have EN:sp≠wj:=fun I=>by rw[<-I,aL]at ay;cases ay
   have st:sp≠t:=fun I=>by rw[<-I,aL]at om;cases om
   have avg:p≠x:=fun I=>by rw[<-I,aN]at aq;cases aq
   have avb:p≠wj:=fun I=>by rw[<-I,aN]at ay;cases ay
   have s9:p≠t:=fun I=>by rw[<-I,aN]at om;cases om
   refine⟨av,bs,_,z,z,(by rw[aK (bC dF),aK (bC Z2),aK (bC dF),aK (bC aH)];exact ae),by omega,?_⟩;have oY:∀a7,aV [av] H a7->a7 sp=some (.au a.iH bH (mr (.int n) (.int d) (.int h))):=fun a7 q=>q _ _ aL (by simpa using AI);have kj:∀a7,aV [av] H a7->a7 aX=some (.ak ah):=fun a7 q=>q _ _ hw (by simpa using Yr);have gh:∀gE nN t9 Z6 Z7,aV [av] H (V (V (V (V (V H wj gE) x nN) t t9) x Z6) av Z7):=fun gE nN t9 Z6 Z7=>((((aV.refl.V (.inr ay)).V (.inr aq)).V (.inr om)).V (.inr aq)).V (.inl (by simp));have j2:∀a7,aV [av] H a7->a7 p=some (.au a.gW dx (gG b5 bL eX dI (.ref aX))):=fun a7 q=>q _ _ aN (by simpa using ql);refine⟨_,z,p,_,dx,_,_,z,j2 _ (gh _ _ _ _ _),T.gS,T.zh,zS,?_⟩;refine⟨.inl ⟨z,_,bj.bM (kj _ (gh _ _ _ _ _))⟩,_,z,sp,_,bH,_,_,z,oY _ (gh _ _ _ _ _),T.n7,T.zj,zT,_,z,_,_,z,z,_,z,sp,_,bH,_,_,z,oY _ (gh _ _ _ _ _),T.n7,T.MP,Oj,_,_,z,z,_,z,?_⟩;intro y oR f2 f1 jG;obtain⟨uY,uZ⟩:=e8 f2;obtain⟨N8,atR⟩:=e8 uZ;obtain⟨E7,La⟩:=e8 atR;obtain⟨adV,atU⟩:=e8 La;obtain⟨avr,yc⟩:=e8 atU;obtain⟨lE,mL⟩:=e8 f1;obtain⟨ag9,aha⟩:=e8 mL;obtain⟨ahb,ahc⟩:=e8 aha;obtain⟨VS,ahd⟩:=e8 ahc;obtain⟨auu,d0⟩:=e8 ahd;have CC:y≠aX:=fun I=>by rw[I,hw]at yc;cases yc
   have RJ:oR≠aX:=fun I=>by rw[I,hw]at d0;cases d0
   refine⟨y,oR,_,_,_,z,aP,z,aX,ah,_,z,z,(by rw[aK (bC CC),aK (bC CC),aK (bC RJ)];exact kj _ (gh _ _ _ _ _)),by omega,?_⟩;refine⟨_,z,k (by omega) _ x t y ?_ aq om (bC Mq) ?_ ?_ ⟨wj,?_⟩ ?_ ⟨oR,?_⟩⟩
   .refine((((gh _ _ _ _ _).c7 (fun b ae=>?_)).V (.inr d0)).V (.inr yc)).V (.inr yc)|>.V (.inl (by simp));simp at ae;simp[ae]
   .rw[aK (bC Yr),aK (bC uY),aK (bC uY),aK (bC lE),aP]
   .rw[aP]
   .rw[aK anu,aK (bC N8),aK (bC N8),aK (bC ag9),aK dF,aP]
    first
     |(unfold zu;rw[bT (by have:=gK aj;omega)];rfl)
     |(unfold zu;rw[bz (fun I=>aj (by rw[I];rfl))];rfl)
   .rw[aK Km,aK (bC E7),aK (bC E7),aK (bC ahb),aK Z2,aK Mq,aP]
   .rw[aK CC,aP]
    first
     |(unfold zu;rw[bT (by have:=gK aj;omega)];rfl)
     |(unfold zu;rw[bz (fun I=>aj (by rw[I];rfl))];rfl)
end
theorem jZ{l:List Addr}{x y:Addr}(h:l.Nodup)(i j:Nat)(JL:i≠j)(aF:l[i]?=some x)(bQ:l[j]?=some y):x≠y:=fun e=>JL (Ku h aF (by rw[e];exact bQ))
section
variable{P:Program}{w:World}{K:Frag}{az:Str->Option Value}{base:Heap}{a:bU}
def p5(a:bU)(H:aA)(M:List Addr):Prop:=∀b∈M,∃o,H b=some o/\((∃xs,o=.ak xs)\/∃dx bA,o=.au a.gW dx bA)
theorem _root_.bF.aV.au{M:List Addr}{H H':aA}{x C dx:Addr}{bA:List (Str×aa)}(k:aV M H H')(m:p5 a H M)(li:C≠a.gW)(h:H x=some (.au C dx bA)):H' x=some (.au C dx bA):=
 k _ _ h fun I=>by
  obtain⟨o,e,q⟩:=m x I;rw[h]at e;cases e;rcases q with⟨xs,q⟩|⟨d,f,q⟩
  .cases q
  .cases q;exact li z
theorem uw.keep{M:List Addr}{H H':aA}{x:Addr}{aH:Z.jO}(h:uw a H x aH)(T:Txt K az a)(k:aV M H H')(m:p5 a H M):uw a H' x aH:=by
 obtain⟨dx,nm,e⟩:=h;exact⟨dx,nm,k.au m (jZ T.aH 2 3 (by decide) z z) e⟩
theorem p7.J8{M:List Addr}{H H':aA}{x:Addr}{sp:Z.jd}(h:p7 a.iH H x sp)(T:Txt K az a)(k:aV M H H')(m:p5 a H M):p7 a.iH H' x sp:=by
 obtain⟨dx,e⟩:=h;exact⟨dx,k.au m (jZ T.aH 1 3 (by decide) z z) e⟩
theorem w9.mut{G H:aA}{p aC aQ aX av:Addr}{m i:Nat}{aR:List UInt8}{N:List Z.jO}{ah:List Z.jd}{B:List Z.fV}(R:w9 K a G H p aC aQ aX av m aR i N ah B):p5 a H [p,aQ,aX,av]:=by
 intro b ae;obtain⟨dx,ay⟩:=R.tn;obtain⟨xs,aq,_⟩:=R.oi;obtain⟨ys,bB,_⟩:=R.ya;obtain⟨pg,cg,dQ,_⟩:=R.n5;simp at ae;rcases ae with rfl|rfl|rfl|rfl
 .exact⟨_,ay,.inr ⟨_,_,z⟩⟩
 .exact⟨_,aq,.inl ⟨_,z⟩⟩
 .exact⟨_,bB,.inl ⟨_,z⟩⟩
 .exact⟨_,dQ.ak,.inl ⟨_,z⟩⟩
theorem jf{aR:List UInt8}{i:Nat}{b:UInt8}(h:aR[i]?=some b):aR.drop i=b::aR.drop (i+1):=by
 obtain⟨aD,e⟩:=gn.mp h;rw[List.drop_eq_getElem_cons aD,e]
theorem yF{aR:List UInt8}{i:Nat}(h:i=aR.length):aR.drop i=[]:=by rw[h,List.drop_length]
theorem M6{cL ik:Type}{F:cL->ik->Prop}:∀{l:List cL}{m:List ik}{y:ik},Paired F l (m++[y])->∃oh x,l=oh++[x]/\Paired F oh m/\F x y
 |_,[],_,.cons h .nil=>⟨[],_,z,.nil,h⟩
 |_,_::m,y,.cons h t=>by
  obtain⟨oh,x,e,p,q⟩:=M6 (m:=m) t;exact⟨_::oh,x,by rw[e];rfl,.cons h p,q⟩
theorem Si{cL ik:Type}{F:cL->ik->Prop}:∀{l oh:List cL}{m dB:List ik},Paired F l m->Paired F oh dB->Paired F (l++oh) (m++dB)
 |_,_,_,_,.nil,h=>h
 |_,_,_,_,.cons r t,h=>.cons r (Si t h)
theorem kX{cL ik:Type}{F:cL->ik->Prop}:∀{l:List cL}{m:List ik},Paired F l m->l.length=m.length
 |_,_,.nil=>rfl
 |_,_,.cons _ t=>oA (·+1) (kX t)
theorem jM.keep{M:List Addr}{H H':aA}{av:Addr}{xs cg:List Addr}{B:List Z.fV}{S:Nat->List Nat}(T:Txt K az a)(h:jM a H av xs cg B S)(k:aV M H H')(m:p5 a H M)(ae:av∉M)(bO:∀t∈cg,t∉M):jM a H' av xs cg B S:=by
 refine⟨k _ _ h.ak ae,h.lj,h.lt,fun i x t b ay aq bB=>?_,h.aH,h.fB⟩;obtain⟨⟨dx,aW⟩,bf⟩:=h.at_ i x t b ay aq bB;exact⟨⟨dx,k.au m (jZ T.aH 4 3 (by decide) z z) aW⟩,k _ _ bf (bO t (jc aq))⟩
theorem jM.snoc{M:List Addr}{H H':aA}{av x t:Addr}{xs cg:List Addr}{B:List Z.fV}{b:Z.fV}(T:Txt K az a)(h:jM a H av xs cg B fun _=>[])(k:aV M H H')(m:p5 a H M)(bO:∀t∈cg,t∉M)(aD:H' av=some (.ak (xs.map aa.ref++[.ref x])))
  (Y:∃dx,H' x=some (.au a.qa dx (pX (.int b.eZ) (.int b.own) (.int b.bJ) (.ref t))))(Ym:H' t=some (.ak []))(br:t∉cg)(ae:t≠av):jM a H' av (xs++[x]) (cg++[t]) (B++[b]) fun _=>[]:=by
 refine⟨by rw[aD,gB];rfl,by simp[h.lj],by simp[h.lt],fun i y u c ay aq bB=>?_,?_,?_⟩
 .by_cases aF:i<B.length
  .rw[sd (by rw[h.lj];exact aF)]at ay;rw[sd (by rw[h.lt];exact aF)]at aq;rw[sd aF]at bB;obtain⟨⟨dx,aW⟩,bf⟩:=h.at_ i y u c ay aq bB;exact⟨⟨dx,k.au m (jZ T.aH 4 3 (by decide) z z) aW⟩,k _ _ bf (bO u (jc aq))⟩
  .have Mf:i=B.length:=by
    have:=(gn.mp bB).1;simp at this;omega
   subst Mf;rw[<-h.lj,List.getElem?_concat_length]at ay;rw[<-h.lt,List.getElem?_concat_length]at aq;rw[List.getElem?_concat_length]at bB;cases ay;cases aq;cases bB;exact⟨Y,Ym⟩
 .rw[nodup_append];exact⟨h.aH,by simp,fun y bu I bR=>by simp at bR;subst bR;exact fun e=>br (e▸bu)⟩
 .simp;exact⟨h.fB,fun e=>ae e.symm⟩
theorem w9.new{G H H':aA}{p aC aQ aX av x dx:Addr}{m i dX:Nat}{aR:List UInt8}{N:List Z.jO}{ah gm:List Z.jd}{B pq:List Z.fV}{aH:Z.jO}{cR i0:List Addr}(T:Txt K az a)(R:w9 K a G H p aC aQ aX av m aR i N ah B)
  (k:aV [p,aQ,aX,av] H H')(aN:H' p=some (.au a.gW dx (gG (.ref aC) (.int m) (.int dX) (.ref aQ) (.ref aX))))(ef:Paired (uw a H) cR N)(br:H' aQ=some (.ak (cR.map aa.ref++[.ref x])))(Y:uw a H' x aH)
  (hw:H' aX=some (.ak (i0.map aa.ref)))(qR:Paired (p7 a.iH H') i0 gm.reverse)(ae:∃xs cg,jM a H' av xs cg pq (fun _=>[])/\∀t∈cg,t≠aQ/\t≠aX/\G t=none)(aF:i<dX)(kQ:dX<=aR.length)(aD:gm.length<=2*dX+1)(eF:pq.length<=65):
  w9 K a G H' p aC aQ aX av m aR dX (N++[aH]) gm pq:=
 ⟨⟨dx,aN⟩,k.seq R.tM R.uD,kQ,⟨cR++[x],by rw[br,gB];rfl,rV (bF.Paired.nI (fun y n h=>h.keep T k R.mut) ef) Y⟩,⟨i0,hw,qR⟩,ae,R.kF,R.xQ,R.C6,R.tM,aD,by have:=R.wC;simp;omega,eF,R.A7,fun b ni=>R.qE b (by
  cases q:H b with
  |none=>rfl
  |some o=>
   by_cases aM:b∈[p,aQ,aX,av]
   .obtain⟨xs,cg,Qe,_⟩:=ae;simp at aM;rcases aM with rfl|rfl|rfl|rfl
    .rw[aN]at ni;cases ni
    .rw[br]at ni;cases ni
    .rw[hw]at ni;cases ni
    .rw[Qe.ak]at ni;cases ni
   .rw[k b o q aM]at ni;cases ni)⟩
def asa(K:Frag)(a:bU):dj:=fun vs H Q E=>∃(G:aA)(p aC aQ aX av:Addr)(aR:List UInt8)(i:Nat)(N:List Z.jO)(sp:Z.jd)(ah:List Z.jd)(B:List Z.fV),vs=[.ref p,.ref av]/\w9 K a G H p aC aQ aX av 32 aR i N (sp::ah) B/\
 (Z.fin N B (sp::ah) (aR.drop i)=none->∀H',aV [p,aQ,aX,av] H H'->E (.ref a.jD) none H')/\
 (∀(H':aA)(dX:Nat)(iQ:List Z.jO)(gm:List Z.jd)(pq:List Z.fV),aV [p,aQ,aX,av] H H'->w9 K a G H' p aC aQ aX av 32 aR dX iQ gm pq->i<dX->Z.fin iQ pq gm (aR.drop dX)=Z.fin N B (sp::ah) (aR.drop i)->Q .b9 H')
theorem xV:dP ["reader","bodies","spot","kind","value","parts"] ["reader","bodies"] (cT NB):=by trivial
theorem aoT(T:Txt K az a):cZ P w K az base (cW P w) 5 a.DM a.Hs ["reader","bodies"] (asa K a):=by
 refine T.W1.dZ xV (fun vs H Q E h=>?_) (fun cJ A outer s H vs Q E aO h=>?_)
 .obtain⟨G,p,aC,aQ,aX,av,aR,i,N,sp,ah,B,rfl,_⟩:=h;rfl
 .obtain⟨G,p,aC,aQ,aX,av,aR,i,N,sp,ah,B,rfl,R,dM,k⟩:=h;obtain⟨u,ck,N3⟩:∃u,sr (yD (cW P w) P w K az base ["reader","bodies","spot","kind","value","parts"] "read_node" (cT NB) a.DM cJ A outer s H E) ((DH NB).drop 5) u/\
    ∀(D:dR)(H':aA)(dx iM bH:Addr)(b5 bL eX dO gr mi oq:aa)(bW iE fC:aa)(ns:List aa),H' p=some (.au a.gW dx (gG b5 bL eX (.ref aQ) dO))->H' aQ=some (.ak ns)->ns.length<sizeLine->H' iM=some (.au a.iH bH (mr gr mi oq))->
     (∀(j9:aA)(x fk:Addr)(l:aa),aV [aQ] H' j9->j9 aQ=some (.ak (ns++[.ref x]))->j9 x=some (.au a.ip fk (iP bW iE fC gr oq l))->D.dF [some (.ref p),some (.ref av),some (.ref iM),some bW,some iE,some fC] j9)->
     u D [some (.ref p),some (.ref av),some (.ref iM),some bW,some iE,some fC] H':=by
   refine⟨_,bl (fD (jk gZ k7 lA kU (bG (af 0) z)
    (aE (mE T.Kh (KB T) aO.dw z T.Kf T.FS .nil bZ (aE (af 3) (aE (af 4) (aE (af 5) (aE (af 2) aY))))) aY))),?_⟩
   intro D H' dx iM bH b5 bL eX dO gr mi oq bW iE fC ns aN br bR aL fin;refine⟨_,z,p,_,dx,_,_,z,aN,T.gS,T.xN,yk,.inl ⟨z,_,bj.bM br⟩,_,z,_,z,_,z,_,z,?_⟩;intro x fk aq ay bB;have zA:iM≠x:=fun I=>by rw[<-I,aL]at aq;cases aq
   have EN:iM≠fk:=fun I=>by rw[<-I,aL]at ay;cases ay
   have dF:x≠aQ:=fun I=>by rw[I,br]at aq;cases aq
   have aH:fk≠aQ:=fun I=>by rw[I,br]at ay;cases ay
   refine⟨x,fk,iM,bH,_,_,_,gr,mi,oq,z,aP,zA,(by rw[aK zA,aK EN];exact aL),fun l aD akt=>⟨z,?_⟩⟩;obtain⟨fL,iJ⟩:=e8 aD;obtain⟨tY,qk⟩:=e8 iJ;have RN:l≠aQ:=fun I=>by rw[I,br]at qk;cases qk
   refine⟨aQ,ns,_,z,z,(by rw[aK (bC dF),aK (bC RN),aK (bC dF),aK (bC aH)];exact br),bR,?_⟩;exact fin _ x fk (.ref l) (((((aV.refl.V (.inr ay)).V (.inr aq)).V (.inr qk)).V (.inr aq)).V (.inl (by simp))) aP (by rw[aK dF,aP])
  obtain⟨eV,aN⟩:=R.tn;obtain⟨cR,br,ef⟩:=R.oi;obtain⟨ul,QT,CL⟩:=R.ya;obtain⟨yz,cg,ae,bO⟩:=R.n5;rw[zL]at CL;obtain⟨i0,iM,rfl,qR,uE,aL⟩:=M6 CL;have hw:H aX=some (.ak (i0.map aa.ref++[.ref iM])):=by rw[QT,gB];rfl
  have l0:=R.mut;have akH:cR.length=N.length:=kX ef;have ald:i0.length=ah.length:=by rw[kX qR,tE]
  have atY:=R.wC;have T5:=R.le;have pg:=R.A7;have T6:=R.N6;have T4:=R.ble;rw[c9]at T6;have b7:sizeLine=16777216:=gU;have ed:p≠aX:=fQ aN hw (by intro q;cases q);have fc:p≠aQ:=fQ aN br (by intro q;cases q);have ql:p≠av:=fQ aN ae.ak (by intro q;cases q);have aU:iM≠aX:=fQ aL hw (by intro q;cases q);have bD:iM≠aQ:=fQ aL br (by intro q;cases q);have b4:iM≠av:=fQ aL ae.ak (by intro q;cases q);have eo:iM≠p:=fun I=>by
   rw[I,aN]at aL;have:=j7 aL;injection this with q _ _
   exact jZ T.aH 3 1 (by decide) z z q
  have wg:aC≠p:=fun I=>R.tM (by simp[I]);have FP:aC≠aX:=fun I=>R.tM (by simp[I]);have adB:∀t∈cg,t∉[p,aQ,aX,av]:=fun t h I=>by
   obtain⟨aW,bf,_⟩:=bO t h;have df:t≠av:=fun e=>ae.fB (e▸h);have e7:t≠p:=fun e=>by
    obtain⟨j,bQ⟩:=vZ h;have lJ:j<B.length:=by rw[<-ae.lt];exact(gn.mp bQ).1
    obtain⟨x,Y⟩:∃x,yz[j]?=some x:=⟨_,gA (by rw[ae.lj];exact lJ)⟩;have:=(ae.at_ j x t B[j] Y bQ (gA lJ)).2;rw[e,aN]at this;cases this
   simp at I;rcases I with I|I|I|I
   .exact e7 I
   .exact aW I
   .exact bf I
   .exact df I
  refine⟨_,bh (dU (i:=2) xV.aH z (Or.inl z) (iC (af 0) T.gS T.Y5 (aaj T) aO.dw T.U5 .nil bZ))
   (bh (dU (i:=3) xV.aH z (Or.inl z) (iC (af 0) T.gS T.zf (zp T) aO.dw T.yx .nil bZ))
   (bh (dU (i:=4) xV.aH z (Or.inl z) dc)
   (bh (dU (i:=5) xV.aH z (Or.inl z) dc)
   (bh (d7 (dN e9 (af 3) (cH T.DO) (dH _))
    (bl (dU (i:=4) xV.aH z (Or.inl z) (iC (af 0) T.gS T.Y6 (aak T) aO.dw T.U6 .nil bZ)))
    (bl (d7 (dN e9 (af 3) (cH T.L2) (dH _))
     (bl (dU (i:=4) xV.aH z (Or.inl z) (fU (aoV T) aO.dw z T.anb T.W2.cN T.af9 .nil bZ (aE (af 0) (aE (af 2) aY)))))
     (bl (d7 (KN (dN e9 (af 3) (cH T.LZ) (dH _)) (KO (dN e9 (af 3) (cH T.PZ) (dH _)))).s9
      (bh (dU (i:=4) xV.aH z (Or.inl z) (fU (aol T) aO.dw z T.amK T.Wz.cN T.afI .nil bZ (aE (af 0) (aE (af 3) (aE (af 2) (aE (af 1) aY))))))
       (bl (dU (i:=5) xV.aH z (Or.inl z) dc)))
      (bl (d7 (Sx (Sl (af 3) (CJ (v:=.ref a.rU) z T.En z)))
       (bh (fD (qN (af 0) T.gS T.Y7 (aau T) aO.dw T.U7 .nil bZ (aE (af 3) (aE (af 2) aY))))
        (bl (dU (i:=5) xV.aH z (Or.inl z) (Sn (CJ (v:=.ref a.rU) z T.En z) (af 3) (fun _ _=>rfl)))))
       (bl (qQ gT z T.t6 T.rB)))))))))
   ck)))),?_⟩
  refine⟨_,z,p,eV,_,z,aN,Uv,p,eV,aX,iM,uE,_,_,_,_,_,32,sp.depth,i0.map aa.ref,z,aN,hw,aL,fun aG=>?_,fun aG=>?_⟩
  .exact dM (Z.ahV (by omega)) _ (aV.refl.V (.inl (by simp)))
  obtain⟨n,d,h⟩:=sp;have gP:d<=32:=by have:((d:Nat):Int)<=32:=aG;omega
  have nK:aV [aX] H (V H aX (.ak (i0.map aa.ref))):=aV.refl.V (.inl (by simp));have wq:V H aX (.ak (i0.map aa.ref)) aX=some (.ak (i0.map aa.ref)):=aP;generalize V H aX (.ak (i0.map aa.ref))=aI at nK wq⊢;have nG:=nK _ _ aN (by simpa using ed);have oW:bj K aI aC (gM aR):=nK.seq (by simpa using FP) R.uD;have JV:=nK _ _ aL (by simpa using aU);refine⟨_,z,p,eV,_,z,nG,yq,p,eV,aC,_,_,_,aR,i,z,nG,oW,T5,fun e=>?_,fun b nj=>?_⟩
  .exact dM (by rw[yF e];exact Z.ahW) _ (nK.c7 (by simp))
  have yT:i<aR.length:=(gn.mp nj).1;have ir:aV [p,aX] H (V aI p (.au a.gW eV (gG (.ref aC) (.int 32) (.int ((i+1:Nat):Int)) (.ref aQ) (.ref aX)))):=(nK.c7 (by simp)).V (.inl (by simp));have j2:V aI p (.au a.gW eV (gG (.ref aC) (.int 32) (.int ((i+1:Nat):Int)) (.ref aQ) (.ref aX))) p=some (.au a.gW eV (gG (.ref aC) (.int 32) (.int ((i+1:Nat):Int)) (.ref aQ) (.ref aX))):=aP;have kj:V aI p (.au a.gW eV (gG (.ref aC) (.int 32) (.int ((i+1:Nat):Int)) (.ref aQ) (.ref aX))) aX=some (.ak (i0.map aa.ref)):=by rw[aK (bC ed)];exact wq
  generalize V aI p (.au a.gW eV (gG (.ref aC) (.int 32) (.int ((i+1:Nat):Int)) (.ref aQ) (.ref aX)))=a7 at ir j2 kj⊢;have DS:bj K a7 aC (gM aR):=ir.seq (by simp[wg,FP]) R.uD;have oY:=ir _ _ aL (by simp[aU,eo]);have kh:=ir _ _ br (by simp[bC fc,R.kF]);have B7:=ir _ _ ae.ak (by simp[bC ql,bC R.C6]);have pO:aV [p,aQ,aX,av] H a7:=ir.c7 (by simp);have Am:H aQ=some (.ak (cR.map aa.ref)):=br;have fin:∀(b6:aA)(x fk:Addr)(l:aa)(dX bW iE fC:Nat)(gm:List Z.jd)(pq:List Z.fV)(C9:List Addr),aV [p,aQ,aX,av] H b6->b6 p=some (.au a.gW eV (gG (.ref aC) (.int 32) (.int dX) (.ref aQ) (.ref aX)))->
    b6 aQ=some (.ak (cR.map aa.ref++[.ref x]))->b6 x=some (.au a.ip fk (iP (.int bW) (.int iE) (.int fC) (.int n) (.int h) l))->b6 aX=some (.ak (C9.map aa.ref))->Paired (p7 a.iH b6) C9 gm.reverse->
    (∃xs cg,jM a b6 av xs cg pq (fun _=>[])/\∀t∈cg,t≠aQ/\t≠aX/\G t=none)->i<dX->dX<=aR.length->gm.length<=ah.length+3->pq.length<=65->Z.fin (N++[⟨bW,iE,fC,n,h⟩]) pq gm (aR.drop dX)=Z.fin N B (⟨n,d,h⟩::ah) (aR.drop i)->Q .b9 b6:=
   fun b6 x fk l dX bW iE fC gm pq C9 aW bf df e7 k6 oj mW CN A2 apr SE aps=>k b6 dX _ gm pq aW (R.new T aW bf ef df ⟨fk,l,e7⟩ k6 oj mW CN A2 (by omega) SE) CN aps
  have same:∀(b6:aA),aV [p,aQ,aX] H b6->∃xs cg,jM a b6 av xs cg B (fun _=>[])/\∀t∈cg,t≠aQ/\t≠aX/\G t=none:=fun b6 q=>
   ⟨yz,cg,ae.keep T q (fun b ae=>l0 b (by simp at ae⊢;rcases ae with h|h|h<;>simp[h])) (by simp[bC ql,bC R.xQ,bC R.C6]) (fun t h I=>adB t h (by simp at I⊢;rcases I with h|h|h<;>simp[h])),bO⟩
  have zH:∀(b6:aA),aV [p,aQ,aX,av] H b6->Paired (p7 a.iH b6) i0 ah.reverse:=fun b6 q=>bF.Paired.nI (fun y s h=>h.J8 T q l0) qR;refine⟨_,z,z,_,z,fi (fun cP=>?_) (fun cP=>?_)⟩
  ·
   have aT:b.toNat=0:=by have:=gK cP;omega
   refine⟨_,z,p,eV,_,z,j2,Uw,p,eV,aC,_,_,_,aR,i+1,z,j2,wg,DS,yT,fun aD bI gi=>?_,fun aD bI gi jS=>?_⟩
   .refine dM ?_ _ (pO.trans (gi.c7 (by simp)));rw[jf nj];exact Z.ah1 gP aT (by rw[oE];omega)
   .have o4:aV [p,aQ,aX,av] H bI:=pO.trans (gi.c7 (by simp));have kE:=gi _ _ kh (by simpa using bC fc);have rG:=gi _ _ oY (by simpa using eo);refine N3 _ bI eV iM uE _ _ _ _ _ _ _ _ _ _ _ jS kE (by rw[cA];omega) rG (fun b6 x fk l fG ay aq=>?_);refine fin b6 x fk l (i+1+4) b.toNat _ 0 ah B i0 (o4.trans (fG.c7 (by simp))) (fG _ _ jS (by simpa using fc)) ay aq (fG _ _ (gi _ _ kj (by simpa using bC ed)) (by simpa using bC R.kF)) (zH _ (o4.trans (fG.c7 (by simp)))) (same _ ?_) (by omega) aD (by omega) T4 ?_
    .exact((ir.c7 (by simp)).trans (gi.c7 (by simp))).trans (fG.c7 (by simp))
    .rw[jf nj,Z.ah0 gP aT (by rw[oE];omega),drop_drop,aT]
  refine⟨_,z,z,_,z,fi (fun ai=>?_) (fun ai=>?_)⟩
  ·
   have aT:b.toNat=1:=by have:=gK ai;omega
   refine⟨_,z,_,z,p,eV,aC,iM,uE,_,_,_,_,_,aR,i+1,n,z,j2,DS,yT,eo,oY,fun e=>?_,fun v a6=>⟨fun kQ=>?_,fun eY=>?_⟩⟩
   .refine dM ?_ _ pO;rw[jf nj,yF e];exact Z.ah6 gP aT
   .refine dM ?_ _ (pO.V (.inl (by simp)));rw[jf nj,jf a6];exact Z.ah5 gP aT kQ
   .have QS:i+1<aR.length:=(gn.mp a6).1;have gi:aV [p] a7 (V a7 p (.au a.gW eV (gG (.ref aC) (.int 32) (.int ((i+1+1:Nat):Int)) (.ref aQ) (.ref aX)))):=aV.refl.V (.inl (by simp));have jS:V a7 p (.au a.gW eV (gG (.ref aC) (.int 32) (.int ((i+1+1:Nat):Int)) (.ref aQ) (.ref aX))) p=some (.au a.gW eV (gG (.ref aC) (.int 32) (.int ((i+1+1:Nat):Int)) (.ref aQ) (.ref aX))):=aP;generalize V a7 p (.au a.gW eV (gG (.ref aC) (.int 32) (.int ((i+1+1:Nat):Int)) (.ref aQ) (.ref aX)))=bI at gi jS⊢;have o4:aV [p,aQ,aX,av] H bI:=pO.trans (gi.c7 (by simp));have kE:=gi _ _ kh (by simpa using bC fc);have rG:=gi _ _ oY (by simpa using eo);refine N3 _ bI eV iM uE _ _ _ _ _ _ _ _ _ _ _ jS kE (by rw[cA];omega) rG (fun b6 x fk l fG ay aq=>?_);refine fin b6 x fk l (i+1+1) b.toNat v.toNat 0 ah B i0 (o4.trans (fG.c7 (by simp))) (fG _ _ jS (by simpa using fc)) ay aq (fG _ _ (gi _ _ kj (by simpa using bC ed)) (by simpa using bC R.kF)) (zH _ (o4.trans (fG.c7 (by simp)))) (same _ ?_) (by omega) QS (by omega) T4 ?_
    .exact((ir.c7 (by simp)).trans (gi.c7 (by simp))).trans (fG.c7 (by simp))
    .rw[jf nj,jf a6,Z.ah4 gP aT eY,aT]
  have Jq:∀y,a7 y=none->H y=none:=fun y e=>by
   cases q:H y with
   |none=>rfl
   |some o=>
    by_cases aM:y∈[p,aX]
    .simp at aM;rcases aM with rfl|rfl
     .rw[j2]at e;cases e
     .rw[kj]at e;cases e
    .rw[ir y o q aM]at e;cases e
  refine⟨_,z,z,_,z,fi (fun aj=>lY ?_) (fun aj=>⟨_,z,z,_,z,fi (fun bN=>?_) (fun bN=>?_)⟩)⟩
  rotate_left 2
  ·
   refine⟨_,z,a.rU,_,.inl (b.toNat:Int),z,T.DI,z,_,z,?_⟩;by_cases aB:4<=b.toNat/\b.toNat<=9
   .rw[E0 aB];refine lY ?_;refine⟨_,z,p,eV,_,z,j2,Ux,_,z,_,z,p,eV,aX,iM,uE,_,_,_,_,b.toNat,n,d,h,i0.map aa.ref,z,j2,kj,oY,aB,(by rw[cA];omega),fun bI xs gi nH SD=>?_⟩;refine⟨_,z,a.rU,_,.inl (b.toNat:Int),_,z,T.DI,z,E0 aB,?_⟩;have o4:aV [p,aQ,aX,av] H bI:=pO.trans (gi.c7 (by simp));have jS:=gi _ _ j2 (by simpa using ed);have kE:=gi _ _ kh (by simpa using R.kF);have rG:=gi _ _ oY (by simpa using aU);refine N3 _ bI eV iM uE _ _ _ _ _ _ _ _ _ _ _ jS kE (by rw[cA];omega) rG (fun b6 x fk l fG ay aq=>?_);have za:=o4.trans (fG.c7 (M':=[p,aQ,aX,av]) (by simp));have bR:(A1 b.toNat n d h).length<=3:=by
     unfold A1 vI;rw[c9,List.length_replicate];split<;>omega
    refine fin b6 x fk l (i+1) b.toNat 0 (vI b.toNat) ((A1 b.toNat n d h).reverse++ah) B (i0++xs) za (fG _ _ jS (by simpa using fc)) ay aq (by rw[fG _ _ nH (by simpa using bC R.kF),gB]) ?_ (same _ ?_) (by omega) yT (by rw[g8,tE];omega) T4 ?_
    .rw[reverse_append,reverse_reverse];refine Si (zH _ za) (bF.Paired.nI (fun y s bu=>?_) SD);exact bu.J8 T fG (fun b ae=>⟨_,by simp at ae;subst ae;exact kE,.inl ⟨_,z⟩⟩)
    .exact((ir.c7 (by simp)).trans (gi.c7 (by simp))).trans (fG.c7 (by simp))
    .rw[jf nj];have:b.toNat=4\/b.toNat=5\/b.toNat=6\/b.toNat=7\/b.toNat=8\/b.toNat=9:=by omega
     rcases this with aB|aB|aB|aB|aB|aB
     .rw[Z.ahT gP aB,aB];rfl
     .rw[Z.ahS gP aB,aB];rfl
     .rw[Z.ah3 gP aB,aB];rfl
     .rw[Z.ahX gP aB,aB];rfl
     .rw[Z.ahU gP aB,aB];rfl
     .rw[Z.ahY gP aB,aB];rfl
   .rw[TR aB];refine nt (dM ?_ _ pO);rw[jf nj];refine Z.ah2 gP ?_;have qW:b.toNat≠0:=fun I=>cP (by rw[I];rfl);have pe:b.toNat≠1:=fun I=>ai (by rw[I];rfl);have kr:b.toNat≠2:=fun I=>aj (by rw[I];rfl);have vQ:b.toNat≠3:=fun I=>bN (by rw[I];rfl);omega
  all_goals
   have aB:b.toNat=2\/b.toNat=3:=by first|(have:=gK aj;omega)|(have:=gK bN;omega)
   have akv:∀{H5:aA},64<B.length->Z.fin N B (⟨n,d,h⟩::ah) (aR.drop i)=none:=fun{H5}eF=>by
    rw[jf nj];rcases aB with aB|aB
    .rw[Z.Wl gP aB];exact Z.Wm (by simp;omega)
    .rw[Z.Wk gP aB];exact Z.Wm (by simp;omega)
   refine⟨_,z,_,z,_,z,_,z,p,eV,aX,iM,uE,av,_,_,_,_,b.toNat,n,d,h,i0.map aa.ref,yz.map aa.ref,z,j2,kj,B7,R.C6,oY,(by rw[cA];omega),(by rw[cA,ae.lj];omega),fun my=>?_,fun my bI x t y gi ex nF ext xq DK Wb ahJ xw=>?_⟩
   .rw[cA,ae.lj]at my;exact dM (akv (H5:=H) my) _ pO
   .rw[cA,ae.lj]at my xw;have o4:aV [p,aQ,aX,av] H bI:=pO.trans (gi.c7 (by simp));have jS:=gi _ _ j2 (by simp[ed,ql]);have kE:=gi _ _ kh (by simp[R.kF,R.xQ]);have rG:=gi _ _ oY (by simp[aU,b4]);refine N3 _ bI eV iM uE _ _ _ _ _ _ _ _ _ _ _ jS kE (by rw[cA];omega) rG (fun b6 bg fk l fG ay aq=>?_);have za:=o4.trans (fG.c7 (M':=[p,aQ,aX,av]) (by simp));have MC:p5 a bI [aQ]:=fun b ae=>⟨_,by simp at ae;subst ae;exact kE,.inl ⟨_,z⟩⟩;have A9:H t=none:=Jq t nF;have NW:t≠aQ:=fun I=>by rw[I,br]at A9;cases A9
    have NY:t≠aX:=fun I=>by rw[I,hw]at A9;cases A9
    have xZ:t≠av:=fun I=>by rw[I,ae.ak]at A9;cases A9
    have atc:t∉cg:=fun I=>by
     obtain⟨j,bQ⟩:=vZ I;have lJ:j<B.length:=by rw[<-ae.lt];exact(gn.mp bQ).1
     obtain⟨atH,ale⟩:∃x,yz[j]?=some x:=⟨_,gA (by rw[ae.lj];exact lJ)⟩;have:=(ae.at_ j atH t B[j] ale bQ (gA lJ)).2;rw[A9]at this;cases this
    have aht:(List.map aa.ref yz).length=B.length:=by rw[cA,ae.lj]
    refine fin b6 bg fk l (i+1) b.toNat B.length 1 (⟨n+zu b.toNat,d+1,B.length⟩::ah) (B++[⟨n,zu b.toNat,h⟩]) (i0++[y]) za (fG _ _ jS (by simpa using fc)) ay (by rw[aq,aht];rfl) (by rw[fG _ _ DK (by simpa using bC R.kF),gB];rfl) ?_ ?_ (by omega) yT (by simp) (by simp;omega) ?_
    .rw[zL];exact rV (zH _ za) (xw.J8 T fG MC)
    .refine⟨yz++[x],cg++[t],ae.snoc T za l0 (fun t h=>adB t h) (fG _ _ xq (by simpa using bC R.xQ)) ?_ (fG _ _ ahJ (by simpa using NW)) atc xZ,fun u ck=>?_⟩
     .obtain⟨dx,q⟩:=Wb;exact⟨dx,fG.au MC (jZ T.aH 4 3 (by decide) z z) q⟩
     .rcases fN.mp ck with ck|ck
      .exact bO u ck
      .simp at ck;subst ck;exact⟨NW,NY,R.qE _ A9⟩
    .rw[jf nj];rcases aB with aB|aB
     .rw[Z.Wl gP aB,aB];rfl
     .rw[Z.Wk gP aB,aB];rfl
end
open Z (arB ownB)
section
variable{P:Program}{w:World}{K:Frag}{az:Str->Option Value}{base:Heap}{a:bU}
def arI(a:bU):dj:=fun vs H Q _=>∃(x dx:Addr)(b5 eX dO mh:aa)(ar v:Int),vs=[.ref x]/\H x=some (.au a.ip dx (iP b5 (.int v) eX (.int ar) dO mh))/\Q (.int (ar -1 -v)) H
theorem aqE:dP ["variable"] ["variable"] (cT ack):=by trivial
theorem R6(T:Txt K az a):cZ P w K az base (cW P w) 1 a.IU a.G1 ["variable"] (arI a):=by
 refine T.LV.dZ aqE (fun vs H Q E h=>?_) (fun cJ A outer s H vs Q E aO h=>?_)
 .obtain⟨x,dx,b5,eX,dO,mh,ar,v,rfl,_⟩:=h;rfl
 .obtain⟨x,dx,b5,eX,dO,mh,ar,v,rfl,Y,k⟩:=h;refine⟨_,bl (di (f9 uc (f9 uc (bG (af 0) z) dc) (bG (af 0) z))),?_⟩;exact⟨_,z,x,_,dx,_,_,z,Y,T.gI,T.Kq,Li,_,_,z,z,_,z,x,_,dx,_,_,z,Y,T.gI,T.uP,u9,_,_,z,z,k⟩
inductive wY(B:List Z.fV):Nat->List Nat->Prop
 |main {b:Z.fV}:B[0]?=some b->b.eZ=0->wY B 0 []
 |up {j:Nat} {b:Z.fV} {c:List Nat}:B[j]?=some b->wY B b.bJ c->wY B j (j::c)
theorem wY.here{B:List Z.fV}{j:Nat}{c:List Nat}(h:wY B j c):∃b,B[j]?=some b/\((c=[]/\b.eZ=0)\/∃c',c=j::c'/\wY B b.bJ c'):=by
 cases h with
 |main ai aj=>exact⟨_,ai,.inl ⟨z,aj⟩⟩
 |up ai aj=>exact⟨_,ai,.inr ⟨_,z,aj⟩⟩
theorem UQ(l:List Nat)(x:Nat):Z.lC (Z.lC l x) x=Z.lC l x:=by
 unfold Z.lC;by_cases h:x∈l
 .simp[h]
 .simp[h]
theorem UP(l:List Nat)(x:Nat):(Z.lC l x).length<=l.length+1:=by
 unfold Z.lC;split<;>simp
theorem Z0{ar:Nat->Nat}{dY:Nat}:∀(c:List Nat)(S:Nat->List Nat)(i:Nat),Z.rR ar dY c S i=S i\/Z.rR ar dY c S i=Z.lC (S i) dY
 |[],S,i=>.inl z
 |j::c,S,i=>by
  rw[Z.rR];split
  .rcases Z0 c (fun i=>if i=j then Z.lC (S j) dY else S i) i with h|h
   .rw[h];by_cases e:i=j
    .subst e;exact .inr (by simp)
    .exact .inl (by simp[e])
   .rw[h];by_cases e:i=j
    .subst e;exact .inr (by simp[UQ])
    .exact .inr (by simp[e])
  .exact .inl z
theorem jM.set{H:aA}{av t:Addr}{xs cg:List Addr}{B:List Z.fV}{S:Nat->List Nat}{j:Nat}{l:List Nat}(h:jM a H av xs cg B S)(bQ:cg[j]?=some t):
  jM a (V H t (.ak (l.map fun l=>aa.int (l:Nat)))) av xs cg B (fun i=>if i=j then l else S i):=by
 have ak2:av≠t:=fun e=>h.fB (e▸jc bQ);have lJ:j<B.length:=by rw[<-h.lt];exact(gn.mp bQ).1
 obtain⟨bg,xF⟩:∃x,xs[j]?=some x:=⟨_,gA (by rw[h.lj];exact lJ)⟩;have QM:=(h.at_ j bg t B[j] xF bQ (gA lJ)).2;refine⟨by rw[aK ak2];exact h.ak,h.lj,h.lt,fun i x u b ay aq bB=>?_,h.aH,h.fB⟩;obtain⟨⟨dx,aW⟩,bf⟩:=h.at_ i x u b ay aq bB;refine⟨⟨dx,by rw[aK (fQ aW QM (by intro q;cases q))];exact aW⟩,?_⟩;by_cases e:i=j
 .subst e;rw[bQ]at aq;cases aq;rw[aP,bT z]
 .have ki:u≠t:=fun I=>e (Ku h.aH aq (by rw[I];exact bQ));rw[aK ki,bz e];exact bf
theorem alw{x:Nat}{l:List Nat}:Mv (.int x) (l.map fun l=>aa.int (l:Nat))=decide (x∈l):=by
 induction l with
 |nil=>rfl
 |cons y r eL=>
  show(tS (.int (y:Nat)) (.int x)||Mv (.int x) (r.map fun l=>aa.int (l:Nat)))=_;rw[eL];have:tS (.int (y:Nat)) (.int x)=decide (x=y):=by
   show((y:Int)==(x:Int))=decide (x=y);rw[Bool.eq_iff_iff];simp;omega
  rw[this];by_cases e:x=y
  .simp[e]
  .simp[e]
theorem Ws{l:List Nat}:(l.map fun l=>aa.int (l:Nat)).all uH=true:=by
 rw[List.all_map,zJ];intro x _;rfl
def arW(a:bU):dj:=fun vs H Q _=>∃(dY bJ m:Nat)(av:Addr)(xs cg:List Addr)(B:List Z.fV)(S:Nat->List Nat)(c:List Nat),vs=[.int dY,.int bJ,.ref av]/\jM a H av xs cg B S/\wY B bJ c/\(∀i,(S i).length<=m)/\m+10<=sizeLine/\
 ∀H',aV cg H H'->jM a H' av xs cg B (Z.rR (arB B) dY c S)->Q .b9 H'
theorem S5:dP ["level","home","bodies","body"] ["level","home","bodies"] (cT acr):=by trivial
theorem aoJ(T:Txt K az a):cZ P w K az base (cW P w) 1 a.I1 a.G8 ["level","home","bodies"] (arW a):=by
 refine T.WS.dZ S5 (fun vs H Q E h=>?_) (fun cJ A outer s H vs Q E aO h=>?_)
 .obtain⟨dY,bJ,m,av,xs,cg,B,S,c,rfl,_⟩:=h;rfl
 .obtain⟨dY,bJ,m,av,xs,cg,B,S,c,rfl,ae,aB,aM,bR,k⟩:=h;refine⟨_,bl (A0 gT.own (dN KD (af 0) (bG (mD nJ (af 2) (af 1) (fun _ _=>rfl)) z) (dH _))
   (bh (dU (i:=3) S5.aH z (Or.inl z) (mD nJ (af 2) (af 1) (fun _ _=>rfl)))
   (bh (d7 (dN ao4 (af 0) (bG (af 3) z) (by with_unfolding_all rfl))
    (bl (fD (jk gZ k7 lA kU (bG (af 3) z) (aE (af 0) aY)))) fH)
   (bl (dU (i:=1) S5.aH z (Or.inl z) (bG (af 3) z)))))),?_⟩
  refine⟨fun n O H'=>∃(jR:Nat)(c':List Nat)(k8:Nat->List Nat)(v:Option aa),O=[some (.int dY),some (.int jR),some (.ref av),v]/\n=c'.length/\wY B jR c'/\Z.rR (arB B) dY c' k8=Z.rR (arB B) dY c S/\(∀i,k8 i=S i\/k8 i=Z.lC (S i) dY)/\
   aV cg H H'/\jM a H' av xs cg B k8,⟨_,bJ,c,S,none,z,z,aB,z,fun _=>.inl z,aV.refl,ae⟩,?_⟩
  rintro n O H' ⟨jR,c',k8,v,rfl,rfl,DR,DJ,uI,aJ,iB⟩;obtain⟨b,JG,Ca⟩:=DR.here;have lJ:jR<B.length:=(gn.mp JG).1;obtain⟨x,Y⟩:∃x,xs[jR]?=some x:=⟨_,gA (by rw[iB.lj];exact lJ)⟩;obtain⟨t,bO⟩:∃t,cg[jR]?=some t:=⟨_,gA (by rw[iB.lt];exact lJ)⟩;obtain⟨⟨dx,aW⟩,bf⟩:=iB.at_ jR x t b Y bO JG;have V6:arB B jR=b.eZ:=by unfold arB;rw[JG]
  have XR:(xs.map aa.ref)[jR]?=some (.ref x):=by rw[h8,Y];rfl
  refine⟨_,z,_,z,_,z,av,_,_,_,z,z,bj.bM iB.ak,lD XR,x,_,dx,_,_,z,aW,T.qB,T.MK,Oe,_,_,z,z,_,z,fi (fun eY=>?_) (fun eY=>?_)⟩
  .have Qy:dY<b.eZ:=by omega
   rcases Ca with⟨rfl,cP⟩|⟨ry,rfl,XG⟩
   .omega
   .rw[Z.rR,bT (by rw[V6];exact Qy)]at DJ;refine⟨fun cB j9=>∃(Dt:Nat->List Nat),cB=[some (.int dY),some (.int b.bJ),some (.ref av),some (.ref x)]/\Z.rR (arB B) dY ry Dt=Z.rR (arB B) dY c S/\(∀i,Dt i=S i\/Dt i=Z.lC (S i) dY)/\aV cg H j9/\jM a j9 av xs cg B Dt,?_,?_⟩
    .rintro cB j9 ⟨Dt,rfl,g1,g2,g3,hU⟩;exact⟨ry.length,by simp,b.bJ,ry,Dt,_,z,z,XG,g1,g2,g3,hU⟩
    .refine⟨_,z,_,z,av,_,_,_,z,z,bj.bM iB.ak,lD XR,?_⟩;refine⟨_,z,_,z,x,_,dx,_,_,z,aW,T.qB,T.Cs,Dj,t,_,z,.inl (bj.bM bf),z,Ws,_,z,?_⟩;have ahE:(fun i=>if i=jR then Z.lC (k8 jR) dY else k8 i) jR=Z.lC (k8 jR) dY:=by simp
     have W8:∀i,(fun i=>if i=jR then Z.lC (k8 jR) dY else k8 i) i=S i\/(fun i=>if i=jR then Z.lC (k8 jR) dY else k8 i) i=Z.lC (S i) dY:=fun i=>by
      by_cases e:i=jR
      .subst e;rw[ahE];rcases uI i with h|h
       .rw[h];exact .inr z
       .rw[h,UQ];exact .inr z
      .simp only[bz e];exact uI i
     rw[bT z,alw];by_cases vy:dY∈k8 jR
     .rw[Bl vy];refine nt ?_;refine⟨_,z,x,_,dx,_,_,z,aW,T.qB,T.Ry,Ui,fun i=>if i=jR then Z.lC (k8 jR) dY else k8 i,z,DJ,W8,aJ,?_⟩;have ay:(fun i=>if i=jR then Z.lC (k8 jR) dY else k8 i)=k8:=by
       funext i
       by_cases e:i=jR
       .subst e;simp[Z.lC,vy]
       .simp[e]
      rw[ay];exact iB
     .rw[ye vy];refine lY ?_;have gv:((k8 jR).map fun l=>aa.int (l:Nat)).length<sizeLine:=by
       rw[cA];have ai:=aM jR;have aj:=UP (S jR) dY;rcases uI jR with h|h<;>rw[h]<;>omega
      refine⟨_,z,x,_,dx,_,_,z,aW,T.qB,T.Cs,Dj,.inl ⟨z,_,bj.bM bf⟩,_,z,t,_,_,z,z,bf,gv,?_⟩;have XC:=iB.set (l:=Z.lC (k8 jR) dY) bO;have aq:((k8 jR).map fun l=>aa.int (l:Nat))++[aa.int (dY:Nat)]=(Z.lC (k8 jR) dY).map fun l=>aa.int (l:Nat):=by
       unfold Z.lC;rw[bz vy,gB];rfl
      rw[<-aq]at XC;refine⟨_,z,x,_,dx,_,_,z,(by rw[aK (fQ aW bf (by intro q;cases q))];exact aW),T.qB,T.Ry,Ui,fun i=>if i=jR then Z.lC (k8 jR) dY else k8 i,z,DJ,W8,aJ.V (.inl (jc bO)),XC⟩
  .have Qy:¬dY<b.eZ:=by omega
   refine k H' aJ ?_;rcases Ca with⟨rfl,cP⟩|⟨ry,rfl,XG⟩
   .rw[<-DJ];exact iB
   .rw[Z.rR,bz (by rw[V6];exact Qy)]at DJ;rw[<-DJ];exact iB
end
section
variable{P:Program}{w:World}{K:Frag}{az:Str->Option Value}{base:Heap}{a:bU}
theorem ae7{B:List Z.fV}(h:Z.Fk B)(cP:∃b,B[0]?=some b/\b.eZ=0):∀j,j<B.length->wY B j (Z.ch B j):=by
 intro j
 induction j using Nat.strongRecOn with
 |_ j eL=>
  intro bQ;by_cases e:j=0
  .subst e;obtain⟨b,ay,aq⟩:=cP;rw[Z.OV];exact .main ay aq
  .obtain⟨b,ae⟩:∃b,B[j]?=some b:=⟨_,gA bQ⟩;have:=h j b ae e;rw[Z.VD h ae e];exact .up ae (eL b.bJ this (by omega))
theorem wH{cL ik:Type}{F:cL->ik->Prop}:∀{l:List cL}{m:List ik}{i:Nat}{x:cL},Paired F l m->l[i]?=some x->∃y,m[i]?=some y/\F x y
 |_,_,_,_,.nil,h=>by simp at h
 |_,_,0,_,.cons r _,h=>by simp at h;subst h;exact⟨_,z,r⟩
 |_,_,i+1,_,.cons _ t,h=>by
  obtain⟨y,ai,aj⟩:=wH (i:=i) t (by simpa using h);exact⟨y,by simpa using ai,aj⟩
theorem xY{cL:Type}:∀{l:List cL}{i:Nat}{x:cL},l[i]?=some x->l.take (i+1)=l.take i++[x]:=fun{l i x}h=>by
 rw[take_add_one,h];rfl
theorem jM.congr{H:aA}{av:Addr}{xs cg:List Addr}{B:List Z.fV}{S k8:Nat->List Nat}(h:jM a H av xs cg B S)(e:∀i,S i=k8 i):jM a H av xs cg B k8:=by
 have:S=k8:=funext e;rw[<-this];exact h
def arX(a:bU):dj:=fun vs H Q _=>∃(aQ av:Addr)(cR xs cg:List Addr)(N:List Z.jO)(B:List Z.fV)(c:Nat->List Nat),vs=[.ref aQ,.ref av]/\H aQ=some (.ak (cR.map aa.ref))/\Paired (uw a H) cR N/\jM a H av xs cg B (fun _=>[])/\aQ∉cg/\N.length<=100000/\
 (∀x∈N,x.kind=1->x.value<x.eZ/\wY B x.bJ (c x.bJ))/\∀H',aV cg H H'->jM a H' av xs cg B (Z.ji (arB B) c (fun _=>[]) N)->Q .b9 H'
theorem acR:dP ["nodes","bodies","node"] ["nodes","bodies"] (cT acs):=by trivial
theorem jM.Rh{H:aA}{av:Addr}{xs cg:List Addr}{B:List Z.fV}{S:Nat->List Nat}(h:jM a H av xs cg B S):∀t∈cg,∃l,H t=some (.ak l):=fun t bO=>by
 obtain⟨j,bQ⟩:=vZ bO;have lJ:j<B.length:=by rw[<-h.lt];exact(gn.mp bQ).1
 obtain⟨x,Y⟩:∃x,xs[j]?=some x:=⟨_,gA (by rw[h.lj];exact lJ)⟩;exact⟨_,(h.at_ j x t B[j] Y bQ (gA lJ)).2⟩
theorem aoK(T:Txt K az a):cZ P w K az base (cW P w) 2 a.I2 a.G9 ["nodes","bodies"] (arX a):=by
 refine T.WT.dZ acR (fun vs H Q E h=>?_) (fun cJ A outer s H vs Q E aO h=>?_)
 .obtain⟨aQ,av,cR,xs,cg,N,B,c,rfl,_⟩:=h;rfl
 .obtain⟨aQ,av,cR,xs,cg,N,B,c,rfl,br,ef,ae,QE,bR,h7,k⟩:=h;have gv:cR.length=N.length:=kX ef;have b7:sizeLine=16777216:=gU;have Km:p5 a H cg:=fun b iB=>by obtain⟨l,e⟩:=ae.Rh b iB;exact⟨_,e,.inl ⟨_,z⟩⟩
  refine⟨_,bl (vL gT.own z (wI (af 0)) (mF (i:=2) acR.aH z (Or.inl z))
   (bl (d7 (dN e9 (bG (af 2) z) (cH T.L2) (dH _))
    (bl (fD (fU (aoJ T) aO z T.am1 T.WS.cN T.afZ .nil bZ
     (aE (fU (R6 T) aO z T.Ru T.LV.cN T.OM .nil bZ (aE (af 2) aY)) (aE (bG (af 2) z) (aE (af 1) aY)))))) fH))),?_⟩
  refine⟨_,z,aQ,z,⟨_,bj.bM br⟩,?_⟩;refine DN (K:=K) (a:=aQ) (xs:=cR.map aa.ref) (fun j O H'=>∃v:Option aa,O=[some (.ref aQ),some (.ref av),v]/\aV cg H H'/\jM a H' av xs cg B (Z.ji (arB B) c (fun _=>[]) (N.take j))/\∀i,(Z.ji (arB B) c (fun _=>[]) (N.take j) i).length<=j) ?_ ?_ ?_ ?_
  .exact⟨none,z,aV.refl,ae,fun i=>dW _⟩
  .rintro j O H' _ ⟨v,_,q,_,_⟩;exact bj.bM (q _ _ br QE)
  .rintro j y O H' bQ ⟨v,rfl,aJ,iB,aD⟩;rw[h8]at bQ;cases e:cR[j]? with
   |none=>rw[e]at bQ;cases bQ
   |some x=>
    rw[e]at bQ;cases bQ;obtain⟨aH,aq,yX⟩:=wH ef e;have lJ:j<N.length:=(gn.mp aq).1;obtain⟨dx,nm,Y⟩:=yX.keep T aJ Km;have LM:N.take (j+1)=N.take j++[aH]:=xY aq;refine⟨_,z,x,_,dx,_,_,z,Y,T.gI,T.qK,q5,z,_,z,fi (fun ai=>?_) (fun ai=>?_)⟩
    .have DW:aH.kind=1:=by have:=gK ai;omega
     obtain⟨a6,aB⟩:=h7 aH (jc aq) DW;refine⟨_,z,x,dx,_,_,_,_,_,_,z,Y,?_⟩;refine⟨_,z,x,_,dx,_,_,z,Y,T.gI,T.AK,Bs,_,z,aH.eZ -1 -aH.value,aH.bJ,j,av,xs,cg,B,_,c aH.bJ,?_,iB,aB,aD,by omega,fun j9 akj B7=>?_⟩
     .have:((aH.eZ:Int) -1 -(aH.value:Int))=((aH.eZ -1 -aH.value:Nat):Int):=by omega
      rw[this];rfl
     .have nf:Z.ji (arB B) c (fun _=>[]) (N.take (j+1))=Z.rR (arB B) (aH.eZ -1 -aH.value) (c aH.bJ) (Z.ji (arB B) c (fun _=>[]) (N.take j)):=by
       rw[LM,Z.RS];show Z.wD _ _ _ aH=_;rw[Z.wD,bT DW]
      refine⟨_,z,aJ.trans akj,by rw[nf];exact B7,fun i=>?_⟩;rw[nf];have aj:=aD i;have bN:=UP (Z.ji (arB B) c (fun _=>[]) (N.take j) i) (aH.eZ -1 -aH.value);rcases Z0 (ar:=arB B) (dY:=aH.eZ -1 -aH.value) (c aH.bJ) (Z.ji (arB B) c (fun _=>[]) (N.take j)) i with h|h<;>rw[h]<;>omega
    .have DW:aH.kind≠1:=fun I=>ai (by rw[I];rfl);have nf:Z.ji (arB B) c (fun _=>[]) (N.take (j+1))=Z.ji (arB B) c (fun _=>[]) (N.take j):=by
      rw[LM,Z.RS];show Z.wD _ _ _ aH=_;rw[Z.zl DW]
     refine⟨_,z,aJ,by rw[nf];exact iB,fun i=>?_⟩;rw[nf];have:=aD i;omega
  .rintro O H' ⟨v,rfl,aJ,iB,aD⟩;rw[cA,gv,Bm]at iB;exact k H' aJ iB
structure Ad(a:bU)(H:aA)(fR:Addr)(t:Cz.Term)(aQ av:Addr)(cR xs cg:List Addr):Prop where
 obj:∃eE,H fR=some (.au a.vn eE (zR (.ref aQ) (.ref av)))
 oi:H aQ=some (.ak (cR.map aa.ref))
 ef:Paired (uw a H) cR (Z.cU t 0 0 1)
 n5:jM a H av xs cg (Z.ic t) (Z.oN t)
 ah:Z.iw t 0
 eE:Z.cf t<=32
 fn:t.fns<=64
 cF:(Z.cU t 0 0 1).length<=1024
def asc(K:Frag)(a:bU):dj:=fun vs H Q E=>∃(aC:Addr)(aR:List UInt8),vs=[.ref aC]/\Ds H aC (.ak (gM aR))/\aR.length<=100000/\
 (Cz.program aR=none->∀H',be H H'->E (.ref a.jD) none H')/\
 (∀t,Cz.program aR=some t->∀(H':aA)(fR aQ av:Addr)(cR xs cg:List Addr),be H H'->Ad a H' fR t aQ av cR xs cg->Q (.ref fR) H')
theorem S8:dP ["data","reader","bodies"] ["data"] (cT acD):=by trivial
theorem apm{aR:List UInt8}(h:1024<aR.length):Cz.program aR=none:=by
 unfold Cz.program;rw[bT (show Cz.PROGRAM<aR.length from h)]
theorem apl{aR:List UInt8}(h:aR.length<=1024):Cz.program aR=(Z.fin [] [⟨0,0,0⟩] [⟨0,1,0⟩] aR).bind fun x=>if x.2.2=[]then(Cz.readT 32 0 aR).map (·.1)else none:=by
 unfold Cz.program;rw[bz (show ¬Cz.PROGRAM<aR.length by show ¬1024<aR.length;omega),Z.Wj];cases e:Cz.readT 32 0 aR with
 |none=>rfl
 |some x=>
  obtain⟨t,r⟩:=x;simp only[j8,ur];cases r with
  |nil=>
   by_cases q:t.fns<=64
   .simp[q]
   .simp[q]
  |cons y r=>
   by_cases q:t.fns<=64
   .simp[q]
   .simp[q]
theorem M5(T:Txt K az a):cZ P w K az base (cW P w) 6 a.Jd a.Ht ["data"] (asc K a):=by
 refine T.Jm.dZ S8 (fun vs H Q E h=>?_) (fun cJ A outer s H vs Q E aO h=>?_)
 .obtain⟨aC,aR,rfl,_⟩:=h;rfl
 .obtain⟨aC,aR,rfl,yR,bR,dM,k⟩:=h;have aG:bj K H aC (gM aR):=.inl yR;have B6:H aC≠none:=by
   rcases yR with q|⟨o,q⟩<;>rw[q]<;>exact fun I=>by cases I
  have b7:sizeLine=16777216:=gU;have nh:(gM aR).length=aR.length:=by unfold gM;rw[cA]
  refine⟨_,bh (d7 (dN AW (j3 mu (by rfl) T.mC m3 (aE (af 0) aY)) (cH T.aje) (dH _)) (bl (qQ gT z T.t6 T.rB)) fH)
   (bh (dU (i:=1) S8.aH z (Or.inl z) (mE T.Zy (aab T) aO.dw z T.Zk T.U3 .nil bZ (aE (af 0) (aE (cH T.ajh) aY))))
   (bh (dU (i:=2) S8.aH z (Or.inl z) (gx (aE (mE T.Zx (aaa T) aO.dw z T.Zf T.U1 .nil bZ (aE dc (aE dc (aE (cH T.yJ) aY)))) aY)))
   (bh (fD (jk gZ k7 lA kU (bG (af 1) z)
    (aE (mE T.Kl (KC T) aO.dw z T.Kg T.FT .nil bZ (aE dc (aE dc (aE (cH T.yJ) aY)))) aY)))
   (bh (A0 gT.own (Ni (bG (af 1) z) (fun _=>rfl)) (bl (fD (fU (aoT T) aO.dw z T.ana T.W1.cN T.af8 .nil bZ (aE (af 1) (aE (af 2) aY))))))
   (bh (fD (iC (af 1) T.gS T.Y4 (aae T) aO.dw T.U4 .nil bZ))
   (bh (fD (fU (aoK T) aO.dw z T.am2 T.WT.cN T.af0 .nil bZ (aE (bG (af 1) z) (aE (af 2) aY))))
   (bl (di (mE T.ano (aof T) aO.dw z T.amE T.afA .nil bZ (aE (bG (af 1) z) (aE (af 2) aY))))))))))),?_⟩
  refine⟨_,z,aC,_,z,.inl aG,_,_,z,z,_,z,fi (fun h=>?_) (fun aL=>?_)⟩
  .exact dM (apm (by rw[nh]at h;omega)) H (be.refl H)
  rw[nh]at aL;have xC:aR.length<=1024:=by omega
  refine⟨_,z,fun p eE f2 f1 jG=>⟨p,eE,_,_,z,aP,fun aQ aX g1 g2 g3 hU lg=>⟨z,?_⟩⟩⟩;obtain⟨_,g1⟩:=e8 g1;obtain⟨_,g1⟩:=e8 g1;obtain⟨_,g3⟩:=e8 g3;obtain⟨_,g3⟩:=e8 g3;generalize yN:V (V (V (V (V H eE (cI.own p)) p (cI.au a.gW eE [])) aQ (cI.ak [])) aX (cI.ak [])) p (cI.au a.gW eE (gG (.ref aC) (.int 32) (.int 0) (.ref aQ) (.ref aX)))=aI;have aU:aV [] H aI:=by rw[<-yN];exact((((aV.refl.V (.inr f1)).V (.inr f2)).V (.inr g1)).V (.inr g3)).V (.inr f2)
  have nG:aI p=some (.au a.gW eE (gG (.ref aC) (.int 32) (.int 0) (.ref aQ) (.ref aX))):=by rw[<-yN,aP]
  have JO:aI aQ=some (.ak []):=by rw[<-yN,aK g2,aK (bC lg),aP]
  have wq:aI aX=some (.ak []):=by rw[<-yN,aK hU,aP]
  have BX:∀{H5:aA},aV [] H H5->∀b,H5 b=none->H b=none:=fun{H5}q b e=>by
   cases I:H b with
   |none=>rfl
   |some o=>rw[q b o I (by simp)]at e;cases e
  refine fun oO dK aq ay bB=>⟨oO,dK,_,_,_,z,aP,fun t bO Mq=>⟨z,?_⟩⟩;obtain⟨pe,kr⟩:=e8 bO;obtain⟨vQ,om⟩:=e8 kr;generalize P8:V (V (V (V aI dK (cI.own oO)) oO (cI.au a.qa dK [])) t (cI.ak [])) oO (cI.au a.qa dK (pX (.int 0) (.int 0) (.int 0) (.ref t)))=a7;have bD:aV [] aI a7:=by rw[<-P8];exact(((aV.refl.V (.inr ay)).V (.inr aq)).V (.inr om)).V (.inr aq)
  have Ms:a7 oO=some (.au a.qa dK (pX (.int 0) (.int 0) (.int 0) (.ref t))):=by rw[<-P8,aP]
  have rH:a7 t=some (.ak []):=by rw[<-P8,aK Mq,aP]
  refine⟨(by show 1<=sizeLine;omega),fun av qe=>?_⟩;have b4:aV [] a7 (V a7 av (.ak [.ref oO])):=aV.refl.V (.inr qe);have XD:V a7 av (.ak [.ref oO]) av=some (.ak [.ref oO]):=aP;generalize V a7 av (.ak [.ref oO])=bI at b4 XD⊢;have jS:=b4 _ _ (bD _ _ nG (by simp)) (by simp);have kE:=b4 _ _ (bD _ _ JO (by simp)) (by simp);have nH:=b4 _ _ (bD _ _ wq (by simp)) (by simp);have Cg:=b4 _ _ Ms (by simp);have Mp:=b4 _ _ rH (by simp);have wL:aV [] H bI:=(aU.trans bD).trans b4;have Wh:H av=none:=BX (aU.trans bD) av qe;have aiV:H t=none:=BX aU t om;have xQ:aQ≠av:=fun I=>by rw[<-I,bD _ _ JO (by simp)]at qe;cases qe
  have C6:aX≠av:=fun I=>by rw[<-I,bD _ _ wq (by simp)]at qe;cases qe
  have gk:t≠av:=fun I=>by rw[<-I,rH]at qe;cases qe
  have NW:t≠aQ:=fun I=>by rw[I,JO]at om;cases om
  have NY:t≠aX:=fun I=>by rw[I,wq]at om;cases om
  refine⟨_,z,p,_,eE,_,_,z,jS,T.gS,T.zh,zS,.inl ⟨z,_,bj.bM nH⟩,?_⟩;refine fun sp bH jy q1 NZ=>⟨sp,bH,_,_,_,z,aP,z,aX,[],_,z,z,?_,(by show 0<sizeLine;omega),?_⟩
  .have fT:aX≠sp:=fun I=>by rw[<-I,nH]at jy;cases jy
   have gb:aX≠bH:=fun I=>by rw[<-I,nH]at q1;cases q1
   rw[aK fT,aK fT,aK gb];exact nH
  have fT:sp≠aX:=fun I=>by rw[I,nH]at jy;cases jy
  generalize B3:V (V (V (V bI bH (cI.own sp)) sp (cI.au a.iH bH [])) sp (cI.au a.iH bH (mr (.int 0) (.int 1) (.int 0)))) aX (cI.ak ([]++[.ref sp]))=b6;have eo:aV [aX] bI b6:=by rw[<-B3];exact(((aV.refl.V (.inr q1)).V (.inr jy)).V (.inr jy)).V (.inl (by simp))
  have Ea:b6 aX=some (.ak [.ref sp]):=by rw[<-B3,aP];rfl
  have uL:b6 sp=some (.au a.iH bH (mr (.int 0) (.int 1) (.int 0))):=by rw[<-B3,aK fT,aP]
  have SB:p≠aX:=fQ jS nH (by intro q;cases q);have agl:oO≠aX:=fQ Cg nH (by intro q;cases q);have D4:=eo _ _ jS (by simpa using SB);have Cd:=eo _ _ kE (by simpa using bC lg);have ajU:=eo _ _ XD (by simpa using bC C6);have AC:=eo _ _ Cg (by simpa using agl);have ak1:=eo _ _ Mp (by simpa using NY);have SW:aV [aX] H b6:=(wL.c7 (by simp)).trans eo;have UO:aC∉[p,aQ,aX,av]:=fun I=>by
   simp at I;rcases I with rfl|rfl|rfl|rfl
   .exact B6 f2
   .exact B6 g1
   .exact B6 g3
   .exact B6 Wh
  have FJ:w9 K a H b6 p aC aQ aX av 32 aR 0 [] [⟨0,1,0⟩] [⟨0,0,0⟩]:=by
   refine⟨⟨eE,D4⟩,SW.seq (fun I=>UO (by simp at I;simp[I])) aG,jV _,⟨[],Cd,.nil⟩,⟨[sp],Ea,.cons ⟨bH,uL⟩ .nil⟩,⟨[oO],[t],⟨ajU,z,z,fun i x u b aW bf df=>?_,by simp,by simpa using bC gk⟩,fun u ck=>?_⟩,bC lg,xQ,C6,UO,by simp,by simp,by simp,bR,fun b ni=>?_⟩
   .cases i with
    |zero=>
     simp at aW bf df;subst aW bf df;exact⟨⟨dK,AC⟩,ak1⟩
    |succ i=>simp at aW
   .simp at ck;subst ck;exact⟨NW,NY,aiV⟩
   .cases I:H b with
    |none=>rfl
    |some o=>
     by_cases e:b=aX
     .rw[e,g3]at I;cases I
     .rw[SW b o I (by simpa using e)]at ni;cases ni
  have d9:∀b∈[p,aQ,aX,av],H b=none:=fun b ni=>by
   simp at ni;rcases ni with rfl|rfl|rfl|rfl
   .exact f2
   .exact g1
   .exact g3
   .exact Wh
  have agd:aV [p,aQ,aX,av] H b6:=SW.c7 (by simp);have V3:=apl xC;refine⟨fun m O H'=>∃(i:Nat)(N:List Z.jO)(ah:List Z.jd)(B:List Z.fV),O=[some (.ref aC),some (.ref p),some (.ref av)]/\m=aR.length -i/\aV [p,aQ,aX,av] H H'/\w9 K a H H' p aC aQ aX av 32 aR i N ah B/\Z.fin N B ah (aR.drop i)=Z.fin [] [⟨0,0,0⟩] [⟨0,1,0⟩] aR,
   ⟨_,0,[],_,_,z,z,agd,FJ,z⟩,?_⟩
  rintro m O H' ⟨i,N,ah,B,rfl,rfl,aJ,R,bq⟩;obtain⟨eV,aN⟩:=R.tn;obtain⟨ul,hw,qR⟩:=R.ya;refine⟨_,z,p,_,eV,_,_,z,aN,T.gS,T.zh,zS,_,.inl ⟨_,bj.bM hw,z⟩,?_⟩;cases ah with
  |cons KS ah=>
   have ki:(ul.map aa.ref).isEmpty=false:=by
    have:=kX qR;cases ul with
    |nil=>simp at this
    |cons _ _=>rfl
   rw[ki];refine lY ⟨fun cB j9=>∃(dX:Nat)(iQ:List Z.jO)(gm:List Z.jd)(pq:List Z.fV),cB=[some (.ref aC),some (.ref p),some (.ref av)]/\i<dX/\dX<=aR.length/\aV [p,aQ,aX,av] H j9/\w9 K a H j9 p aC aQ aX av 32 aR dX iQ gm pq/\Z.fin iQ pq gm (aR.drop dX)=Z.fin [] [⟨0,0,0⟩] [⟨0,1,0⟩] aR,?_,?_⟩
   .rintro cB j9 ⟨dX,iQ,gm,pq,rfl,aW,bf,df,e7,k6⟩;exact⟨aR.length -dX,by omega,dX,iQ,gm,pq,z,z,df,e7,k6⟩
   .refine⟨_,z,_,z,H,p,aC,aQ,aX,av,aR,i,N,KS,ah,B,z,R,fun Aw j9 q=>?_,fun j9 dX iQ gm pq aW bf df e7=>?_⟩
    .refine dM ?_ j9 ((aJ.trans q).same d9);rw[V3,<-bq,Aw];rfl
    .exact⟨dX,iQ,gm,pq,z,df,bf.le,aJ.trans aW,bf,e7.trans bq⟩
  |nil=>
   have ki:(ul.map aa.ref).isEmpty=true:=by
    have:=kX qR;cases ul with
    |nil=>rfl
    |cons _ _=>simp at this
   rw[ki];refine nt ?_;rw[Z.ahZ R.ble]at bq;refine⟨_,z,p,eV,_,z,aN,Uu,p,eV,aC,_,_,_,aR,i,z,aN,R.uD,fun eY=>?_,fun JK=>?_⟩
   .refine dM ?_ H' (aJ.same d9);rw[V3,<-bq,j8,bz];intro I;have:=oA List.length I;simp at this;omega
   have aF:i=aR.length:=by have:=R.le;omega
   have mz:aR.drop i=[]:=yF aF;rw[mz]at bq;rw[Z.Wj]at bq;obtain⟨⟨qW,Nl⟩,D9,Me⟩:=jL.mp bq.symm;split at Me
   .rename_i qH;simp only[tC,u3]at Me;obtain⟨Am,uF,Pp⟩:=Me;subst Pp;have akR:Cz.program aR=some qW:=by
     unfold Cz.program;rw[bz (show ¬Cz.PROGRAM<aR.length by show ¬1024<aR.length;omega),D9];simp[qH]
    have rI:=Z.q2 _ _ _ _ _ D9;have aj5:=Z.qC _ _ _ _ _ D9;obtain⟨cR,br,ef⟩:=R.oi;obtain⟨yz,cg,ae,xE⟩:=R.n5;have ahr:B=Z.ic qW:=uF.symm;subst ahr;rw[<-Am]at ef;refine⟨_,z,p,_,eV,_,_,z,aN,T.gS,T.xN,yk,_,z,aQ,av,cR,yz,cg,_,_,Z.ch (Z.ic qW),z,br,ef,ae,fun I=>(xE aQ I).1 rfl,?_,fun x Y DW=>?_,fun Oq aW bf=>?_⟩
    .rw[Am];have:=R.wC;have:=R.le;omega
    .obtain⟨uY,uZ⟩:=Z.qM qW 0 0 1 rI (by omega) x Y;refine⟨uZ DW,ae7 (Z.US qW) ⟨_,z,z⟩ _ ?_⟩;unfold Z.ic;rw[c9,Z.iA];omega
    .have QH:=aW _ _ aN (fun I=>by
      obtain⟨l,e⟩:=ae.Rh p I;rw[aN]at e;cases e)
     have Mh:=aW _ _ br (fun I=>(xE aQ I).1 rfl);have Km:p5 a H' cg:=fun b iB=>by obtain⟨l,e⟩:=ae.Rh b iB;exact⟨_,e,.inl ⟨_,z⟩⟩
     refine⟨_,z,p,_,eV,_,_,z,QH,T.gS,T.xN,yk,_,z,?_⟩;refine fun fR HC bL b5 eX=>⟨fR,HC,_,_,z,aP,z,?_⟩;have wM:aV [] Oq (V (V (V Oq HC (cI.own fR)) fR (cI.au a.vn HC [])) fR (cI.au a.vn HC (zR (.ref aQ) (.ref av)))):=((aV.refl.V (.inr b5)).V (.inr bL)).V (.inr bL);have uO:p5 a Oq []:=fun b iB=>by simp at iB
     refine k qW akR _ fR aQ av cR yz cg ?_ ⟨⟨HC,aP⟩,wM _ _ Mh (by simp),bF.Paired.nI (fun y aH bu=>(bu.keep T aW Km).keep T wM uO) ef,((bf.congr (Z.anX qW rI)).keep T wM uO (by simp) (by simp)),rI,aj5,qH,(by rw[Am];have:=R.wC;have:=R.le;omega)⟩;have aqc:be H H':=aJ.same d9;exact fun b o e=>wM b o (aW b o (aqc b o e) (fun I=>by rw[(xE b I).2.2]at e;cases e)) (by simp)
   .cases Me
end
section
variable{P:Program}{w:World}{K:Frag}{az:Str->Option Value}{base:Heap}{a:bU}
def c8(l:List Nat):List aa:=l.map fun n=>aa.int (n:Nat)
theorem AP(l m:List Nat):c8 (l++m)=c8 l++c8 m:=by simp[c8]
theorem jT(l:List Nat):(c8 l).length=l.length:=by simp[c8]
theorem OR{H:aA}{av:Addr}{xs cg:List Addr}{B:List Z.fV}{S:Nat->List Nat}(h:jM a H av xs cg B S){j:Nat}(bQ:j<B.length):∃x t dx,(xs.map aa.ref)[j]?=some (.ref x)/\cg[j]?=some t/\
  H x=some (.au a.qa dx (pX (.int (arB B j)) (.int (ownB B j)) (.int (B[j]).bJ) (.ref t)))/\H t=some (.ak (c8 (S j))):=by
 obtain⟨x,Y⟩:∃x,xs[j]?=some x:=⟨_,gA (by rw[h.lj];exact bQ)⟩;obtain⟨t,bO⟩:∃t,cg[j]?=some t:=⟨_,gA (by rw[h.lt];exact bQ)⟩;obtain⟨⟨dx,aW⟩,bf⟩:=h.at_ j x t B[j] Y bO (gA bQ);refine⟨x,t,dx,by rw[h8,Y];rfl,bO,?_,bf⟩;rw[aW];unfold arB ownB;rw[gA bQ]
def arT(a:bU):dj:=fun vs H Q _=>∃(dY ar aM:Nat)(x dx av:Addr)(b5 bL eX mh:aa)(xs cg:List Addr)(B:List Z.fV)(S:Nat->List Nat),vs=[.int dY,.ref x,.ref av]/\H x=some (.au a.ip dx (iP b5 bL eX (.int ar) (.int aM) mh))/\jM a H av xs cg B S/\aM<B.length/\
 dY<ar/\(dY<arB B aM->dY∈S aM)/\∀l,H l=none->Q (.ref l) (V H l (.ak (c8 (Z.rN (arB B) (ownB B) S dY ar aM))))
theorem S4:dP ["level","node","bodies","body","inside"] ["level","node","bodies"] (cT aco):=by trivial
theorem Yw{x:Nat}:∀{l:List Nat},x∈l->∃I,(c8 l)[l.idxOf x]?=some I/\tS I (.int x)=true/\∀(m:Nat)(qv:aa),m<l.idxOf x->(c8 l)[m]?=some qv->tS qv (.int x)=false
 |y::l,h=>by
  by_cases e:y=x
  .subst e;refine⟨.int y,by simp[c8],by show((y:Int)==(y:Int))=true;simp,fun m qv aM=>?_⟩;simp at aM
  .have Y:x∈l:=by
    rcases dG.mp h with q|q
    .exact absurd q.symm e
    .exact q
   obtain⟨I,ai,aj,bN⟩:=Yw Y;have kB:(y==x)=false:=by simp[e]
   have V7:(y::l).idxOf x=l.idxOf x+1:=by rw[idxOf_cons,kB];rfl
   rw[V7];refine⟨I,by simpa[c8]using ai,aj,fun m qv aM bR=>?_⟩;cases m with
   |zero=>
    simp[c8]at bR;subst bR;show((y:Int)==(x:Int))=false;simp;omega
   |succ m=>exact bN m qv (by omega) (by simpa[c8]using bR)
theorem aai(T:Txt K az a):cZ P w K az base (cW P w) 1 a.IX a.G4 ["level","node","bodies"] (arT a):=by
 refine T.PE.dZ S4 (fun vs H Q E h=>?_) (fun cJ A outer s H vs Q E aO h=>?_)
 .obtain⟨dY,ar,aM,x,dx,av,b5,bL,eX,mh,xs,cg,B,S,rfl,_⟩:=h;rfl
 .obtain⟨dY,ar,aM,x,dx,av,b5,bL,eX,mh,xs,cg,B,S,rfl,Y,ae,ee,aD,bO,k⟩:=h;obtain⟨oO,t,dK,aW,bf,df,e7⟩:=OR ae ee;have bD:2<=sizeLine:=by rw[gU];decide
  refine⟨_,bh (dU (i:=3) S4.aH z (Or.inl z) (mD nJ (af 2) (bG (af 1) z) (fun _ _=>rfl)))
   (bh (dU (i:=4) S4.aH z (Or.inl z) (f9 kH (bG (af 3) z) (bG (af 3) z)))
   (bh (d7 (dN CH (af 0) (af 4) (dH _)) (bl (di (gx (aE (cH T.Xm) (aE (f9 uc (f9 uc (bG (af 1) z) dc) (af 0)) aY))))) fH)
   (bh (d7 (dN e9 (af 0) (f9 uc (af 4) dc) (dH _)) (bl (di (gx (aE (cH T.PU) (aE dc aY))))) fH)
   (bh (d7 (dN CH (af 0) (bG (af 3) z) (dH _)) (bl (di (gx (aE (cH T.PY) (aE dc aY))))) fH)
   (bl (di (gx (aE (cH T.P0) (aE (jk gZ PySem.F.slot_list_index PySem.F.type_list_index ans (bG (af 3) z) (aE (af 0) aY)) aY))))))))),?_⟩
  refine⟨_,z,_,z,x,_,dx,_,_,z,Y,T.gI,T.AK,Bs,av,_,_,_,z,z,bj.bM ae.ak,lD aW,?_⟩;refine⟨_,z,oO,_,dK,_,_,z,df,T.qB,T.MK,Oe,_,z,oO,_,dK,_,_,z,df,T.qB,T.Rz,Uj,_,_,z,z,?_⟩;refine⟨_,z,_,z,_,_,z,z,_,z,fi (fun ai=>?_) (fun ai=>?_)⟩
  .refine⟨_,z,x,_,dx,_,_,z,Y,T.gI,T.Kq,Li,_,_,z,z,_,z,_,_,z,z,bD,fun l uK=>?_⟩;have e:=k l uK;unfold Z.rN at e;rw[bT (by omega)]at e;have aq:c8 [10,ar -1 -dY]=[aa.int 10,aa.int ((ar:Int) -1 -(dY:Int))]:=by
    show[aa.int 10,aa.int ((ar -1 -dY:Nat):Int)]=_;rw[show((ar -1 -dY:Nat):Int)=(ar:Int) -1 -(dY:Int) by omega]
   rw[aq]at e;exact e
  refine⟨_,z,_,z,_,_,z,z,z,_,z,fi (fun aj=>?_) (fun aj=>?_)⟩
  .refine⟨bD,fun l uK=>?_⟩;have aj:=gK aj;have e:=k l uK;unfold Z.rN at e;rw[bz (by omega),bT (by omega)]at e;exact e
  have L4:¬(dY+1=arB B aM+ownB B aM):=fun I=>aj (by
   show aa.int dY=aa.int ((arB B aM:Int)+(ownB B aM:Int) -1);rw[show((arB B aM:Int)+(ownB B aM:Int) -1)=(dY:Int) by omega])
  refine⟨_,z,_,z,oO,_,dK,_,_,z,df,T.qB,T.MK,Oe,_,_,z,z,_,z,fi (fun bN=>?_) (fun bN=>?_)⟩
  .refine⟨bD,fun l uK=>?_⟩;have e:=k l uK;unfold Z.rN at e;rw[bz (by omega),bz L4,bT (by omega)]at e;exact e
  obtain⟨I,ej,c6,nq⟩:=Yw (bO (by omega));refine⟨_,z,oO,_,dK,_,_,z,df,T.qB,T.Cs,Dj,.inl ⟨z,_,bj.bM e7⟩,_,z,t,_,_,_,I,z,z,bj.bM e7,z,Ws,ej,c6,nq,bD,fun l uK=>?_⟩;have e:=k l uK;unfold Z.rN at e;rw[bz (by omega),bz L4,bz (by omega)]at e;exact e
theorem zB{O:bF.St}{H:aA}{A B:aA->Prop}(h:A H):adw O H (fun b bI=>if b=true then A bI else B bI):=by
 show(if true=true then A H else B H);rw[bT z];exact h
def arZ:dj:=fun vs H Q _=>∃(n:Nat),vs=[.int n]/\∀H' l,be H H'->H' l=some (.ak (c8 (Z.zm n)))->H l=none->Q (.ref l) H'
theorem S6:dP ["number","shift"] ["number"] (cT S1):=by trivial
theorem aoL(T:Txt K az a):cZ P w K az base (cW P w) 1 a.I3 a.Hf ["number"] arZ:=by
 refine T.WU.dZ S6 (fun vs H Q E h=>?_) (fun cJ A outer s H vs Q E aO h=>?_)
 .obtain⟨n,rfl,_⟩:=h;rfl
 .obtain⟨n,rfl,k⟩:=h;refine⟨_,bl (di (M9 (own:=[("shift",1)]) z S6.aH (aaP (qO (aE dc (aE dc (aE dc (aE dc aY)))))) (by exact yy (N:=["number","shift"]) (sc:=cT S1) (by decide+kernel))
   (fun s H C cl cM=>mF (i:=1) S6.aH z (Or.inl z)) (fun s H C cl cM=>zx) (fun s H C cl cM=>f9 ao2 (f9 ao6 (af 0) (af 1)) dc))),?_⟩
  have b7:sizeLine=16777216:=gU;refine⟨(by show 4<=sizeLine;omega),fun t bO=>⟨t,z,⟨_,je.bM aP⟩,fun D lH=>?_⟩⟩;obtain⟨lE,mL⟩:=e8 lH;refine al1 (K:=K) (a:=t) (xs:=[.int 0,.int 8,.int 16,.int 24]) (fun j H'=>be H H'/\H' t=some (.dD [.int 0,.int 8,.int 16,.int 24])/\H' D=some (.ak (c8 ((Z.zm n).take j)))) ?_ (fun j H' _ q=>je.bM q.2.1) ?_ ?_
  .refine⟨fun b o e=>?_,by rw[aK (bC lE),aP],aP⟩;rw[aK (fun I=>by rw[I,mL]at e;cases e),aK (fun I=>by rw[I,bO]at e;cases e)];exact e
  .rintro j x H' bQ ⟨g1,g2,g3⟩;have Mg:j<4:=(gn.mp bQ).1;rw[ac5 Mg]at bQ;cases bQ;refine⟨z,zB ?_⟩;refine⟨_,z,_,z,_,_,z,z,by omega,_,_,z,z,_,g3,?_,?_⟩
   .rw[jT,u0];show min j (Z.zm n).length<sizeLine;have:(Z.zm n).length=4:=rfl;omega
   .refine⟨fun b o e=>?_,?_,?_⟩
    .rw[aK (fun I=>by rw[I,mL]at e;cases e)];exact g1 b o e
    .rw[aK (bC lE)];exact g2
    .rw[aP];have f7:(((8*j:Nat):Int)).toNat=8*j:=by omega
     have yG:(Z.zm n)[j]?=some (n/2^(8*j)%256):=by
      match j,Mg with
      |0,_=>simp[Z.zm]
      |1,_=>rfl
      |2,_=>rfl
      |3,_=>rfl
     rw[xY yG,AP];show some (cI.ak (_++[aa.int (Builtin.bitAnd ((n:Int)/2^(((8*j:Nat):Int)).toNat) 255)]))=_;rw[f7];have lV:(2:Int)^(8*j)=((2^(8*j):Nat):Int):=by rw[Int.natCast_pow];rfl
     have lW:(n:Int)/2^(8*j)=((n/2^(8*j):Nat):Int):=by rw[lV];rfl
     have jF:=T9.age (x:=((n/2^(8*j):Nat):Int)) 8 (Int.natCast_nonneg _);rw[lW];have jg:(2:Int)^8 -1=255:=by decide
     rw[jg]at jF;rw[jF];rfl
  .rintro H' ⟨g1,g2,g3⟩;exact k H' D g1 g3 mL
end
section
variable{P:Program}{w:World}{K:Frag}{az:Str->Option Value}{base:Heap}{a:bU}
theorem jM.same{H H':aA}{av:Addr}{xs cg:List Addr}{B:List Z.fV}{S:Nat->List Nat}(h:jM a H av xs cg B S)(k:be H H'):jM a H' av xs cg B S:=
 ⟨k _ _ h.ak,h.lj,h.lt,fun i x t b ai aj bN=>by
  obtain⟨⟨dx,aW⟩,bf⟩:=h.at_ i x t b ai aj bN;exact⟨⟨dx,k _ _ aW⟩,k _ _ bf⟩,h.aH,h.fB⟩
theorem uw.same{H H':aA}{x:Addr}{aH:Z.jO}(h:uw a H x aH)(k:be H H'):uw a H' x aH:=by
 obtain⟨dx,nm,e⟩:=h;exact⟨dx,nm,k _ _ e⟩
theorem cj{H H':aA}{l:Addr}{o:cI}(h:be H H')(aD:H l=none):be H (bF.V H' l o):=fun b x e=>by
 rw[aK (fun I=>by rw[I,aD]at e;cases e)];exact h b x e
theorem ZK{l:List Nat}{j:Nat}{v:aa}(h:(c8 l)[j]?=some v):∃n,l[j]?=some n/\v=.int n:=by
 unfold c8 at h;rw[h8]at h;cases e:l[j]? with
 |none=>rw[e]at h;cases h
 |some n=>rw[e]at h;cases h;exact⟨n,z,z⟩
theorem MR{ar own:Nat->Nat}{S:Nat->List Nat}{dY eZ h:Nat}:(Z.rN ar own S dY eZ h).length=2:=by
 unfold Z.rN;split
 .rfl
 .split
  .rfl
  .split<;>rfl
theorem PB{cL:Type}{f:cL->List Nat}{k:Nat}(h:∀x,(f x).length=k):∀(l:List cL),(l.flatMap f).length=k*l.length
 |[]=>by simp
 |x::l=>by rw[Dd,g8,PB h l,h,c9,Nat.mul_succ];omega
def ame(ar own:Nat->Nat)(S:Nat->List Nat)(val eZ h:Nat):List Nat:=11::(val -1)::(S val).length::(S val).flatMap fun l=>Z.rN ar own S l eZ h
def ada(a:bU):dj:=fun vs H Q _=>∃(val ar aM:Nat)(x dx av:Addr)(b5 eX mh:aa)(xs cg:List Addr)(B:List Z.fV)(S:Nat->List Nat),vs=[.ref x,.ref av]/\H x=some (.au a.ip dx (iP b5 (.int val) eX (.int ar) (.int aM) mh))/\jM a H av xs cg B S/\aM<B.length/\val<B.length/\0<val/\(S val).length<=1000/\
 (∀dY∈S val,dY<ar/\(dY<arB B aM->dY∈S aM))/\∀H' l,be H H'->H l=none->H' l=some (.ak (c8 (ame (arB B) (ownB B) S val ar aM)))->Q (.ref l) H'
theorem ND:dP ["node","bodies","taken","code","level"] ["node","bodies"] (cT acm):=by trivial
theorem aoz(T:Txt K az a):cZ P w K az base (cW P w) 2 a.IV a.G2 ["node","bodies"] (ada a):=by
 refine T.WM.dZ ND (fun vs H Q E h=>?_) (fun cJ A outer s H vs Q E aO h=>?_)
 .obtain⟨val,ar,aM,x,dx,av,b5,eX,mh,xs,cg,B,S,rfl,_⟩:=h;rfl
 .obtain⟨val,ar,aM,x,dx,av,b5,eX,mh,xs,cg,B,S,rfl,Y,ae,ee,a6,auN,bR,uI,k⟩:=h;obtain⟨oO,t,dK,aW,bf,df,e7⟩:=OR ae a6;have b7:sizeLine=16777216:=gU;refine⟨_,bh (dU (i:=2) ND.aH z (Or.inl z) (bG (mD nJ (af 1) (bG (af 0) z) (fun _ _=>rfl)) z))
   (bh (dU (i:=3) ND.aH z (Or.inl z) (gx (aE (cH T.Jz) (aE (f9 uc (bG (af 0) z) dc) (aE (j3 mu (by rfl) T.mC m3 (aE (af 2) aY)) aY)))))
   (bh (vL gT.own z (wI (af 2)) (mF (i:=4) ND.aH z (Or.inl z))
    (bl (fD (jk gZ Fb Lf Eo (af 3)
     (aE (fU (aai T) aO z T.Zp T.PE.cN T.Vg .nil bZ (aE (af 4) (aE (af 0) (aE (af 1) aY)))) aY)))))
   (bl (di (af 3))))),?_⟩
  refine⟨_,z,_,z,x,_,dx,_,_,z,Y,T.gI,T.uP,u9,av,_,_,_,z,z,bj.bM ae.ak,lD aW,oO,_,dK,_,_,z,df,T.qB,T.Cs,Dj,?_⟩;refine⟨_,z,x,_,dx,_,_,z,Y,T.gI,T.uP,u9,_,_,z,z,_,z,t,_,z,.inl (bj.bM e7),(by show 3<=sizeLine;omega),fun c aB=>?_⟩;refine⟨_,z,t,z,⟨_,bj.bM (by rw[aK (fun I=>by rw[I,aB]at e7;cases e7)];exact e7)⟩,?_⟩;refine DN (K:=K) (a:=t) (xs:=c8 (S val)) (fun j O H'=>∃v:Option aa,O=[some (.ref x),some (.ref av),some (.ref t),some (.ref c),v]/\be H H'/\
   H' c=some (.ak (c8 (11::(val -1)::(S val).length::((S val).take j).flatMap fun l=>Z.rN (arB B) (ownB B) S l ar aM)))) ?_ ?_ ?_ ?_
  .refine⟨none,z,cj (be.refl H) aB,?_⟩;rw[aP];exact oA (fun I=>some (cI.ak I)) (by show[aa.int 11,aa.int ((val:Int) -1),aa.int ((c8 (S val)).length:Nat)]=_;rw[jT,show(val:Int) -1=((val -1:Nat):Int) by omega];rfl)
  .rintro j O H' _ ⟨v,_,q,_⟩;exact bj.bM (q _ _ e7)
  .rintro j y O H' bQ ⟨v,rfl,g1,g2⟩;obtain⟨dY,ay,rfl⟩:=ZK bQ;obtain⟨fL,iJ⟩:=uI dY (jc ay);refine⟨_,z,.inl ⟨z,_,bj.bM g2⟩,_,z,_,z,_,z,dY,ar,aM,x,dx,av,_,_,_,_,xs,cg,B,S,z,g1 _ _ Y,ae.same g1,ee,fL,iJ,fun r jq=>?_⟩;have aj1:c≠r:=fun I=>by rw[<-I,g2]at jq;cases jq
   refine⟨c,r,_,_,z,z,(by rw[aK aj1];exact g2),aP,?_,?_⟩
   .rw[jT,jT,MR];have:((S val).take j).length<=1000:=by rw[u0];omega
    simp only[c9];rw[PB (fun x=>MR)];omega
   .refine⟨_,z,cj (cj g1 (g1.free jq)) aB,?_⟩;rw[aP,xY ay,List.flatMap_append,<-AP];simp only[List.cons_append,Dd,List.flatMap_nil,zI]
  .rintro O H' ⟨v,rfl,g1,g2⟩;refine⟨_,z,k H' c g1 aB ?_⟩;rw[jT,Bm]at g2;exact g2
end
section
variable{P:Program}{w:World}{K:Frag}{az:Str->Option Value}{base:Heap}{a:bU}
def arV(a:bU):dj:=fun vs H Q _=>∃(aH:Z.jO)(x av:Addr)(xs cg:List Addr)(B:List Z.fV)(S:Nat->List Nat),vs=[.ref x,.ref av]/\uw a H x aH/\jM a H av xs cg B S/\Z.Dr (arB B) S B.length aH/\
 ∀H' l,be H H'->H l=none->H' l=some (.ak (c8 (Z.qL (arB B) (ownB B) S aH)))->Q (.ref l) H'
theorem aqO:dP ["node","bodies"] ["node","bodies"] (cT acp):=by trivial
theorem aoI(T:Txt K az a):cZ P w K az base (cW P w) 3 a.IY a.G5 ["node","bodies"] (arV a):=by
 refine T.WO.dZ aqO (fun vs H Q E h=>?_) (fun cJ A outer s H vs Q E aO h=>?_)
 .obtain⟨aH,x,av,xs,cg,B,S,rfl,_⟩:=h;rfl
 .obtain⟨aH,x,av,xs,cg,B,S,rfl,⟨dx,nm,Y⟩,ae,bq,k⟩:=h;have b7:sizeLine=16777216:=gU;refine⟨_,bh (d7 (dN e9 (bG (af 0) z) (cH T.DO) (dH _)) (bl (di (f9 CG (gx (aE (cH T.DO) aY)) (fU (aoL T) aO.dw z T.am3 T.WU.cN T.af1 .nil bZ (aE (bG (af 0) z) aY))))) fH)
   (bh (d7 (dN e9 (bG (af 0) z) (cH T.L2) (dH _)) (bl (di (fU (aai T) aO.dw z T.Zp T.PE.cN T.Vg .nil bZ
     (aE (fU (R6 T) aO.dw z T.Ru T.LV.cN T.OM .nil bZ (aE (af 0) aY)) (aE (af 0) (aE (af 1) aY)))))) fH)
   (bh (d7 (KN (dN e9 (bG (af 0) z) (cH T.LZ) (dH _)) (KO (dN e9 (bG (af 0) z) (cH T.PZ) (dH _)))).s9
    (bl (di (fU (aoz T) aO z T.amW T.WM.cN T.afU .nil bZ (aE (af 0) (aE (af 1) aY))))) fH)
   (bl (di (gx (aE (bG (af 0) z) aY)))))),?_⟩
  refine⟨_,z,x,_,dx,_,_,z,Y,T.gI,T.qK,q5,z,_,z,fi (fun ai=>?_) (fun ai=>?_)⟩
  .have aJ:aH.kind=0:=by have:=gK ai;omega
   refine⟨(by show 1<=sizeLine;omega),fun fL Au=>?_⟩;have aU:be H (V H fL (.ak [aa.int 0])):=cj (be.refl H) Au;refine⟨_,z,x,_,dx,_,_,z,aU _ _ Y,T.gI,T.uP,u9,aH.value,z,fun a7 iJ bD aj DY=>?_⟩;refine⟨fL,iJ,_,_,z,z,bD _ _ aP,aj,?_,fun tY Qu=>?_⟩
   .rw[jT];show 1+4<=_;omega
   .refine k _ tY (cj (aU.trans bD) (aU.free (bD.free Qu))) (aU.free (bD.free Qu)) ?_;rw[aP];unfold Z.qL;rw[bT aJ];rfl
  have k0:aH.kind≠0:=fun I=>ai (by rw[I];rfl);refine⟨_,z,x,_,dx,_,_,z,Y,T.gI,T.qK,q5,z,_,z,fi (fun ai=>?_) (fun ai=>?_)⟩
  .have aJ:aH.kind=1:=by have:=gK ai;omega
   obtain⟨b5,bL⟩:=bq.var aJ;refine⟨_,z,x,dx,_,_,_,_,_,_,z,Y,_,z,_,z,aH.eZ -1 -aH.value,aH.eZ,aH.bJ,x,dx,av,_,_,_,_,xs,cg,B,S,?_,Y,ae,bq.bJ,by omega,bL,fun l aD=>?_⟩
   .have:((aH.eZ:Int) -1 -(aH.value:Int))=((aH.eZ -1 -aH.value:Nat):Int):=by omega
    rw[this];rfl
   .refine k _ l (cj (be.refl H) aD) aD ?_;rw[aP];unfold Z.qL;rw[bz k0,bT aJ]
  have k1:aH.kind≠1:=fun I=>ai (by rw[I];rfl);have made:aH.kind=2\/aH.kind=3->ada a [.ref x,.ref av] H Q E:=fun aJ=>by
   obtain⟨f1,f2,jG,pJ⟩:=bq.fn aJ;refine⟨aH.value,aH.eZ,aH.bJ,x,dx,av,_,_,_,xs,cg,B,S,z,Y,ae,bq.bJ,f2,f1,by omega,pJ,fun H' l aU aD e=>k H' l aU aD ?_⟩;rw[e];unfold Z.qL;rw[bz k0,bz k1,bT aJ];rfl
  refine⟨_,z,x,_,dx,_,_,z,Y,T.gI,T.qK,q5,z,_,z,fi (fun aj=>lY ?_) (fun aj=>⟨_,z,x,_,dx,_,_,z,Y,T.gI,T.qK,q5,z,_,z,fi (fun bN=>?_) (fun bN=>?_)⟩)⟩
  .exact⟨_,z,_,z,made (.inl (by have:=gK aj;omega))⟩
  .exact⟨_,z,_,z,made (.inr (by have:=gK bN;omega))⟩
  .refine⟨_,z,x,_,dx,_,_,z,Y,T.gI,T.qK,q5,(by show 1<=sizeLine;omega),fun l aD=>k _ l (cj (be.refl H) aD) aD ?_⟩;rw[aP];unfold Z.qL;rw[bz k0,bz k1,bz (fun I=>I.elim (fun I=>aj (by rw[I];rfl)) (fun I=>bN (by rw[I];rfl)))];rfl
end
section
variable{P:Program}{w:World}{K:Frag}{az:Str->Option Value}{base:Heap}{a:bU}
theorem VR(xs:List aa):xj xs (some ((0:Int)+1)) none=xs.drop 1:=by
 unfold xj;rw[show((0:Int)+1)=((1:Nat):Int)from rfl,nB.Nx,nB.abn];cases xs with
 |nil=>rfl
 |cons x l=>
  have:min 1 (x::l).length=1:=by simp
  rw[this];simp
theorem Ad.same{H H':aA}{fR aQ av:Addr}{t:Cz.Term}{cR xs cg:List Addr}(h:Ad a H fR t aQ av cR xs cg)(k:be H H'):Ad a H' fR t aQ av cR xs cg:=by
 obtain⟨⟨eE,ai⟩,aj,bN,ez,i7,sR,yM,gf⟩:=h;exact⟨⟨eE,k _ _ ai⟩,k _ _ aj,bF.Paired.nI (fun y s bu=>bu.same k) bN,ez.same k,i7,sR,yM,gf⟩
theorem FQ(t:Cz.Term):(Z.ic t).length=t.fns+1:=by
 show(Z.fP t 0 0 1).length+1=_;rw[Z.iA]
def apH(K:Frag):List aa->aA->gc->Prop:=fun xs H Q=>∃p ys,xs=[.ref p]/\(bj K H p ys\/je K H p ys)/\Q (.int ys.length) H
def nQ(t:Cz.Term):List Nat:=(Z.gF t 0).map List.length
theorem CY(t:Cz.Term):(nQ t).length=t.fns:=by unfold nQ;rw[cA,Z.jU]
theorem ady(t:Cz.Term){j:Nat}(h:j<t.fns):(nQ t)[j]?=some (Z.oN t (1+j)).length:=by
 unfold nQ;rw[Z.UT,h8,mZ,gA (by rw[Z.jU];exact h)];rfl
def asr(a:bU):dj:=fun vs H Q _=>∃(fR aQ av:Addr)(t:Cz.Term)(cR xs cg:List Addr),vs=[.ref fR]/\Ad a H fR t aQ av cR xs cg/\∀H' l,be H H'->H l=none->H' l=some (.ak (c8 (nQ t)))->Q (.ref l) H'
theorem Te:dP ["program","body"] ["program"] (cT S2):=by trivial
theorem aat(T:Txt K az a):cZ P w K az base (cW P w) 1 a.Jk a.HA ["program"] (asr a):=by
 refine T.PL.dZ Te (fun vs H Q E h=>?_) (fun cJ A outer s H vs Q E aO h=>?_)
 .obtain⟨fR,aQ,av,t,cR,xs,cg,rfl,_⟩:=h;rfl
 .obtain⟨fR,aQ,av,t,cR,xs,cg,rfl,ek,k⟩:=h;obtain⟨eE,aT⟩:=ek.obj;have b7:sizeLine=16777216:=gU;have eF:=FQ t;have qH:=ek.fn;refine⟨_,bl (di (M9 (own:=[("body",1)]) (te:=Tv (apH K) (ads (TF K (TG 1) "taken") NU)) z Te.aH (wI (Na NK (bG (af 0) z) (KI (f9 kH (cH T.yJ) dc)) Su)) (by exact yy (N:=["program","body"]) (sc:=cT S2) (by decide+kernel))
   (fun s H C cl cM=>mF (i:=1) Te.aH z (Or.inl z)) (fun s H C cl cM=>zx) (fun s H C cl cM=>by exact j3 mu (by rfl) T.mC m3 (aE (bG (af 1) z) aY)))),?_⟩
  refine⟨_,z,fR,_,eE,_,_,z,aT,T.xg,T.Ep,Fv,_,_,z,z,_,z,av,_,z,bj.bM ek.n5.ak,fun p aN=>⟨p,z,⟨_,bj.bM aP⟩,fun D lH=>?_⟩⟩;obtain⟨lE,mL⟩:=e8 lH;rw[VR];refine Ka (K:=K) (a:=p) (xs:=(xs.map aa.ref).drop 1) (fun j H'=>be H H'/\H' p=some (.ak ((xs.map aa.ref).drop 1))/\H' D=some (.ak (c8 ((nQ t).take j)))) ?_ (fun j H' _ q=>bj.bM q.2.1) ?_ ?_
  .refine⟨cj (cj (be.refl H) aN) mL,by rw[aK (bC lE),aP],aP⟩
  .rintro j x H' bQ ⟨g1,g2,g3⟩;rw[getElem?_drop]at bQ;have akh:1+j<(Z.ic t).length:=by
    have:=(gn.mp bQ).1;rw[cA,ek.n5.lj]at this;exact this
   obtain⟨oO,tk,dK,aW,bf,df,e7⟩:=OR ek.n5 akh;rw[aW]at bQ;cases bQ;refine⟨z,zB ?_⟩;refine⟨_,z,oO,_,dK,_,_,z,g1 _ _ df,T.qB,T.Cs,Dj,tk,_,z,.inl (bj.bM (g1 _ _ e7)),_,g3,?_,cj g1 mL,by rw[aK (bC lE)];exact g2,?_⟩
   .rw[jT,u0,CY];omega
   .rw[aP,xY (ady t (j:=j) (by omega)),AP,jT];rfl
  .rintro H' ⟨g1,g2,g3⟩;refine k H' D g1 mL ?_;rw[oE,cA,ek.n5.lj,eF,List.take_of_length_le (by rw[CY];omega)]at g3;exact g3
end
end Cl
namespace bF
open PySem PySem.Spec PyProof.Rows
theorem W6{K:Frag}{a b:Addr}{xs ys:List aa}{g:nD}{gk:g5}{D:dR}{O:bF.St}{H:aA}(QY:xs.length=ys.length)(e6:Nat->bF.St->aA->Prop)(cP:e6 0 O H)(aD:∀i O H,i<=xs.length->e6 i O H->bj K H a xs/\bj K H b ys)
  (aL:∀i x y O H T,xs[i]?=some x->ys[i]?=some y->e6 i O H->H T=none->g (.ref T) O (V H T (.dD [x,y])) fun gu a7=>gk {D with dF:=e6 (i+1),k9:=e6 (i+1),bV:=D.dF} gu a7)(aG:∀O H,e6 xs.length O H->D.dF O H):
  ∃W:Nat->Nat->bF.St->aA->Prop,(∃m,W 0 m O H)/\∀i m O H,W i m O H->
   ((z5 K a b).tu i H/\D.dF O H)\/((z5 K a b).go i H/\∃N:bF.St->aA->Prop,(∀cB H',N cB H'->∃dB,dB<m/\W (i+1) dB cB H')/\∀x H',(z5 K a b).wR i H x H'->g x O H' fun gu a7=>gk {D with dF:=N,k9:=N,bV:=D.dF} gu a7):=by
 refine⟨fun i m O H=>m=xs.length -i/\i<=xs.length/\e6 i O H,⟨xs.length,by simp,jV _,cP⟩,?_⟩;rintro i m O H ⟨rfl,aF,p⟩;obtain⟨aW,bf⟩:=aD i O H aF p;by_cases eY:i<xs.length
 .have Qz:i<ys.length:=by omega
  refine .inr ⟨⟨xs,ys,xs[i],ys[i],aW,bf,by simp[eY],by simp[Qz]⟩,e6 (i+1),fun cB H' lN=>⟨xs.length -(i+1),by omega,z,eY,lN⟩,fun x H' y=>?_⟩;obtain⟨T,bg,yc,rfl,dh,rfl,ay,aq⟩:=y;exact aL i bg yc O H T (ay xs aW) (aq ys bf) p dh
 .have e:i=xs.length:=by omega
  subst e;exact .inl ⟨⟨xs,ys,aW,bf,.inl (dW _)⟩,aG O H p⟩
end bF
namespace Cl
open PySem PySem.Spec PyProof.Rows bF
open Z (arB ownB)
section
variable{P:Program}{w:World}{K:Frag}{az:Str->Option Value}{base:Heap}{a:bU}
theorem MY{ar own:Nat->Nat}{S:Nat->List Nat}{L:Nat}{x:Z.jO}(f:Z.Dr ar S L x):(Z.qL ar own S x).length<=131:=by
 unfold Z.qL;split
 .show 5<=131;omega
 .split
  .rw[MR];omega
  .split
   .rename_i h;have:=(f.fn h).2.2.1;simp only[c9];rw[PB (fun x=>MR)];omega
   .show 1<=131;omega
theorem Nt{ar own:Nat->Nat}{S:Nat->List Nat}:∀(l:List Z.jO)(R:Nat->List Nat)(m:Nat),(∀x∈l,(Z.qL ar own S x).length<=131)->(∀i,(R i).length<=m)->∀i,(Z.mX ar own S R l i).length<=m+131*l.length
 |[],R,m,_,h,i=>h i
 |x::l,R,m,aD,h,i=>by
  rw[Z.SN];have:=Nt l (Z.qS ar own S R x) (m+131) (fun y bu=>aD y (gz _ bu)) (fun i=>by
   unfold Z.qS;have ai:=h i;have aj:=aD x iO;split
   .rw[g8];omega
   .omega) i
  rw[c9];omega
structure vg(G H:aA)(ff:Addr)(cV:List Addr)(R:Nat->List Nat):Prop where
 ak:H ff=some (.ak (cV.map aa.ref))
 at_:∀(i:Nat)(r:Addr),cV[i]?=some r->H r=some (.ak (c8 (R i)))
 aH:cV.Nodup
 d9:∀r∈cV,G r=none
 Jr:G ff=none
 fB:ff∉cV
theorem vg.same{G H H':aA}{ff:Addr}{cV:List Addr}{R:Nat->List Nat}(h:vg G H ff cV R)(k:be H H'):vg G H' ff cV R:=⟨k _ _ h.ak,fun i r e=>k _ _ (h.at_ i r e),h.aH,h.d9,h.Jr,h.fB⟩
theorem vg.ext{G H:aA}{ff r:Addr}{cV:List Addr}{R:Nat->List Nat}{j:Nat}{l:List Nat}(h:vg G H ff cV R)(bQ:cV[j]?=some r):vg G (V H r (.ak (c8 (R j++l)))) ff cV (fun i=>if i=j then R i++l else R i):=by
 refine⟨?_,fun i x e=>?_,h.aH,h.d9,h.Jr,h.fB⟩
 .rw[aK (by intro I;exact h.fB (by rw[I];exact jc bQ))];exact h.ak
 .by_cases q:i=j
  .subst q;rw[bQ]at e;cases e;rw[aP,bT z]
  .rw[aK (fun I=>q (Ku h.aH e (by rw[I];exact bQ))),bz q];exact h.at_ i x e
theorem vg.snoc{G H:aA}{ff r:Addr}{cV:List Addr}(h:vg G H ff cV fun _=>[])(aO:H r=none)(dz:G r=none):vg G (V (V H r (.ak [])) ff (.ak (cV.map aa.ref++[.ref r]))) ff (cV++[r]) fun _=>[]:=by
 have ed:∀x∈cV,x≠r:=fun x Y I=>by
  obtain⟨j,bQ⟩:=vZ Y;have:=h.at_ j x bQ;rw[I,aO]at this;cases this
 have fc:ff≠r:=fun I=>by have:=h.ak;rw[I,aO]at this;cases this
 refine⟨by rw[aP];simp,fun i x e=>?_,?_,fun x Y=>?_,h.Jr,fun I=>?_⟩
 .rcases Ff i cV.length with q|q
  .rw[sd q]at e;have aM:=jc e;rw[aK (by intro I;exact h.fB (by rw[<-I];exact aM)),aK (ed x aM)];exact h.at_ i x e
  .rw[q3 q]at e;have:x=r:=by
    cases ee:i -cV.length with
    |zero=>rw[ee]at e;simpa using e.symm
    |succ n=>rw[ee]at e;simp at e
   subst this;rw[aK (bC fc),aP];rfl
 .rw[nodup_append];exact⟨h.aH,by simp,fun x Y y bu=>by simp at bu;subst bu;exact ed x Y⟩
 .rcases fN.mp Y with q|q
  .exact h.d9 x q
  .simp at q;subst q;exact dz
 .rcases fN.mp I with q|q
  .exact h.fB q
  .simp at q;exact fc q
def xh(t:Cz.Term):List Nat:=Z.nums (Cz.compiled t).bytes
def yC(t:Cz.Term)(j:Nat):List Nat:=t.fns::(Z.oM t 0++(range j).flatMap fun i=>(Z.oN t (1+i)).length::Z.oM t (1+i))
theorem VL{t:Cz.Term}(w:Z.iw t 0)(aG:Z.cf t<=32)(bq:t.fns<=64):yC t t.fns=xh t:=(Z.ag1 t w aG bq).symm
theorem VM(t:Cz.Term)(j:Nat):yC t (j+1)=yC t j++[(Z.oN t (1+j)).length]++Z.oM t (1+j):=by
 unfold yC;rw[List.range_succ,List.flatMap_append];simp
theorem O1{t:Cz.Term}{M:Nat}(h:∀i,(Z.oM t i).length<=M):∀j,(yC t j).length<=(j+1)*(M+1)
 |0=>by
  have:=h 0;show(Z.oM t 0++[]).length+1<=_;rw[zI];omega
 |j+1=>by
  have ai:=O1 h j;have aj:=h (1+j);rw[VM,g8,g8,Oa,Nat.add_mul (j+1) 1];omega
def arx(a:bU):dj:=fun vs H Q _=>∃(fR aQ av:Addr)(t:Cz.Term)(cR xs cg:List Addr),vs=[.ref fR]/\Ad a H fR t aQ av cR xs cg/\∀H' l,be H H'->H l=none->H' l=some (.ak (c8 (xh t)))->Q (.ref l) H'
theorem A6:dP ["program","rows","node","takes","code","count","row","body"] ["program"] (cT SY):=by trivial
theorem aoq(T:Txt K az a):cZ P w K az base (cW P w) 4 a.IG a.GP ["program"] (arx a):=by
 refine T.WC.dZ A6 (fun vs H Q E h=>?_) (fun cJ A outer s H vs Q E aO h=>?_)
 .obtain⟨fR,aQ,av,t,cR,xs,cg,rfl,_⟩:=h;rfl
 .obtain⟨fR,aQ,av,t,cR,xs,cg,rfl,ek,k⟩:=h;obtain⟨eE,aT⟩:=ek.obj;have b7:sizeLine=16777216:=gU;have eF:=FQ t;have qH:=ek.fn;have Ce:=ek.cF;have fine:=Z.OI t ek.ah ek.eE;have gv:cR.length=(Z.cU t 0 0 1).length:=kX ek.ef;have KQ:∀i,(Z.oM t i).length<=134144:=fun i=>by
   have:=Nt (Z.cU t 0 0 1) (fun _=>[]) 0 (fun x Y=>MY (own:=ownB (Z.ic t)) (fine x Y)) (fun _=>dW _) i;unfold Z.oM;omega
  refine⟨_,bh (KJ (i:=1) (own:=[("body",7)]) z A6.aH z z (K0 z z z z) (wI (bG (af 0) z)) (by exact yy (N:=["program","rows","node","takes","code","count","row","body"]) (sc:=cT SY) (by decide+kernel))
   (fun s H C cl cM=>mF (i:=7) A6.aH z (Or.inl z)) (fun s H C cl cM=>zx) (fun s H C cl cM=>gx aY))
   (bh (vL gT.own z (wI (bG (af 0) z)) (mF (i:=2) A6.aH z (Or.inl z))
    (bl (fD (jk gZ Fb Lf Eo (mD nJ (af 1) (bG (af 2) z) (fun _ _=>rfl))
     (aE (fU (aoI T) aO z T.amY T.WO.cN T.afW .nil bZ (aE (af 2) (aE (bG (af 0) z) aY))) aY)))))
   (bh (dU (i:=3) A6.aH z (Or.inl z) (fU (aat T) aO.dw z T.Zv T.PL.cN T.Vm .nil bZ (aE (af 0) aY)))
   (bh (dU (i:=4) A6.aH z (Or.inl z) (f9 CG (gx (aE (j3 mu (by rfl) T.mC m3 (aE (af 3) aY)) aY)) (mD nJ (af 1) (cH T.yJ) (fun _ _=>rfl))))
   (bh (vL gT.own z (Nd (by rfl) T.MW (aE (af 3) (aE (Na NK (af 1) (KI (f9 kH (cH T.yJ) dc)) Su) aY)))
     (So z (AY (mF (i:=5) A6.aH z (Or.inl z)) (AY (mF (i:=6) A6.aH z (Or.inl z)) Nb)))
    (bh (fD (jk gZ k7 lA kU (af 4) (aE (af 5) aY)))
    (bl (fD (jk gZ Fb Lf Eo (af 4) (aE (af 6) aY))))))
   (bl (di (af 4))))))),?_⟩
  refine⟨_,z,fR,_,eE,_,_,z,aT,T.xg,T.Ep,Fv,av,z,⟨_,bj.bM ek.n5.ak⟩,fun D lH=>?_⟩;refine Ka (K:=K) (a:=av) (xs:=xs.map aa.ref) (fun j H'=>be H H'/\∃cV,cV.length=j/\vg H H' D cV fun _=>[]) ?_ (fun j H' _ q=>bj.bM (q.1 _ _ ek.n5.ak)) ?_ ?_
  .exact⟨cj (be.refl H) lH,[],z,aP,fun i r e=>by simp at e,by simp,fun r jq=>by simp at jq,lH,by simp⟩
  .rintro j x H' bQ ⟨g1,cV,g2,g3⟩;have lJ:j<65:=by
    have:=(gn.mp bQ).1;rw[cA,ek.n5.lj,eF]at this;omega
   refine⟨z,zB ⟨jV _,fun r jq=>⟨_,by rw[aK (fun I=>by have:=g3.ak;rw[I,jq]at this;cases this)];exact g3.ak,?_,?_,cV++[r],by simp[g2],g3.snoc jq (g1.free jq)⟩⟩⟩
   .rw[cA,g2];omega
   .exact cj (cj g1 (g1.free jq)) lH
  rintro aI ⟨aU,cV,qg,fE⟩;rw[cA,ek.n5.lj]at qg;refine⟨_,z,fR,_,eE,_,_,z,aU _ _ aT,T.xg,T.MN,Oh,aQ,z,⟨_,bj.bM (aU _ _ ek.oi)⟩,?_⟩;refine DN (K:=K) (a:=aQ) (xs:=cR.map aa.ref) (fun j O H'=>∃v:Option aa,O=[some (.ref fR),some (.ref D),v,none,none,none,none,none]/\be H H'/\vg H H' D cV (Z.mX (arB (Z.ic t)) (ownB (Z.ic t)) (Z.oN t) (fun _=>[]) ((Z.cU t 0 0 1).take j))) ?_ ?_ ?_ ?_
  .exact⟨none,z,aU,fE⟩
  .rintro j O H' _ ⟨v,_,q,_⟩;exact bj.bM (q _ _ ek.oi)
  .rintro j y O H' bQ ⟨v,rfl,g1,g2⟩;rw[h8]at bQ;cases e:cR[j]? with
   |none=>rw[e]at bQ;cases bQ
   |some x=>
    rw[e]at bQ;cases bQ;obtain⟨aH,aq,yX⟩:=wH ek.ef e;have lJ:j<(Z.cU t 0 0 1).length:=(gn.mp aq).1;have aM:=jc aq;have bq:=fine aH aM;obtain⟨dx,nm,Y⟩:=yX.same g1;obtain⟨r,mQ⟩:∃r,cV[aH.bJ]?=some r:=⟨_,gA (by rw[qg];exact bq.bJ)⟩;have rF:=g2.at_ _ r mQ;have uJ:nE (cV.map aa.ref) (aH.bJ:Int)=some (aa.ref r):=lD (by rw[h8,mQ];rfl);refine⟨_,z,_,z,x,_,dx,_,_,z,Y,T.gI,T.AK,Bs,D,_,_,_,z,z,bj.bM g2.ak,uJ,.inl ⟨z,_,bj.bM rF⟩,?_⟩;refine⟨_,z,_,z,fR,_,eE,_,_,z,g1 _ _ aT,T.xg,T.Ep,Fv,aH,x,av,xs,cg,_,_,z,⟨dx,nm,Y⟩,ek.n5.same g1,bq,fun a7 l bD aD aj=>?_⟩;refine⟨r,l,_,_,z,z,bD _ _ rF,aj,?_,?_⟩
    .rw[jT,jT];have aW:=MY (own:=ownB (Z.ic t)) bq;have bf:=Nt ((Z.cU t 0 0 1).take j) (fun _=>[]) 0 (fun x Y=>MY (own:=ownB (Z.ic t)) (fine x (List.mem_of_mem_take Y))) (fun _=>dW _) aH.bJ;rw[u0]at bf;omega
    .refine⟨_,z,cj (g1.trans bD) (g2.d9 r (jc mQ)),?_⟩;rw[xY aq,Z.SM,<-AP];exact(g2.same bD).ext mQ
  rintro O a7 ⟨v,rfl,bD,gQ⟩;rw[cA,gv,Bm]at gQ;have gQ:vg H a7 D cV (Z.oM t):=gQ;refine⟨_,z,fR,aQ,av,t,cR,xs,cg,z,ek.same bD,fun bI bw b4 qh bN=>?_⟩;have wL:=bD.trans b4;have uS:=gQ.same b4;obtain⟨Nl,kR⟩:∃r,cV[0]?=some r:=⟨_,gA (by rw[qg,eF];omega)⟩;refine⟨_,z,bw,_,z,.inl (bj.bM bN),(by show 1<=sizeLine;omega),fun fL Au=>?_⟩;have eo:be bI (V bI fL (.ak [aa.int ((c8 (nQ t)).length:Nat)])):=cj (be.refl bI) Au;have JF:nE (cV.map aa.ref) 0=some (aa.ref Nl):=lD (j:=0) (by rw[h8,kR];rfl);refine⟨_,z,D,_,_,_,z,z,bj.bM (eo _ _ uS.ak),JF,fL,Nl,_,_,z,z,aP,eo _ _ (uS.at_ 0 Nl kR),?_,fun c aB=>?_⟩
  .have:=KQ 0;have jg:=jT (Z.oM t 0);show 1+(c8 (Z.oM t 0)).length<=_;omega
  have lO:be bI (V (V bI fL (.ak [aa.int ((c8 (nQ t)).length:Nat)])) c (.ak ([aa.int ((c8 (nQ t)).length:Nat)]++c8 (Z.oM t 0)))):=cj eo (eo.free aB);have i7:V (V bI fL (.ak [aa.int ((c8 (nQ t)).length:Nat)])) c (.ak ([aa.int ((c8 (nQ t)).length:Nat)]++c8 (Z.oM t 0))) c=some (.ak (c8 (yC t 0))):=by
   rw[aP,jT,CY];unfold yC;simp[c8]
  have yH:H c=none:=wL.free (eo.free aB);generalize V (V bI fL (.ak [aa.int ((c8 (nQ t)).length:Nat)])) c (.ak ([aa.int ((c8 (nQ t)).length:Nat)]++c8 (Z.oM t 0)))=H5 at lO i7⊢;have Nn:=uS.same lO;refine⟨_,z,_,z,_,_,z,z,_,z,D,_,z,bj.bM Nn.ak,fun q a9=>?_⟩;rw[VR];have ol:be H5 (V H5 q (.ak ((cV.map aa.ref).drop 1))):=cj (be.refl H5) a9;have Tt:=ol _ _ (lO _ _ bN);have sR:V H5 q (.ak ((cV.map aa.ref).drop 1)) q=_:=aP;have Vt:=ol _ _ i7;have aa3:=Nn.same ol;have abk:=wL.trans (lO.trans ol);have KP:q≠c:=fun I=>by rw[I,i7]at a9;cases a9
  have zC:bw≠c:=fun I=>by rw[<-I,eo _ _ bN]at aB;cases aB
  have aa6:∀r∈cV,r≠c:=fun r mQ I=>by
   obtain⟨j,bQ⟩:=vZ mQ;have:=eo _ _ (uS.at_ j r bQ);rw[I,aB]at this;cases this
  have at1:D≠c:=fun I=>by rw[<-I,eo _ _ uS.ak]at aB;cases aB
  generalize V H5 q (.ak ((cV.map aa.ref).drop 1))=pZ at ol Tt sR Vt aa3 abk⊢;refine⟨bw,q,_,_,z,bj.bM Tt,bj.bM sR,?_⟩;have bE:(c8 (nQ t)).length=((cV.map aa.ref).drop 1).length:=by rw[jT,CY,oE,cA,qg,eF];rfl
  refine W6 (K:=K) (a:=bw) (b:=q) (xs:=c8 (nQ t)) (ys:=(cV.map aa.ref).drop 1) bE (fun j O H'=>∃v ou r7:Option aa,O=[some (.ref fR),some (.ref D),v,some (.ref bw),some (.ref c),ou,r7,none]/\aV [c] pZ H'/\H' c=some (.ak (c8 (yC t j)))) ?_ ?_ ?_ ?_
  .exact⟨_,_,_,z,aV.refl,Vt⟩
  .rintro j O H' _ ⟨v,ou,r7,_,g1,g2⟩;exact⟨bj.bM (g1 _ _ Tt (by simpa using zC)),bj.bM (g1 _ _ sR (by simpa using KP))⟩
  .rintro j x y O H' jK Y bu ⟨v,ou,r7,rfl,g1,g2⟩ vA;have bQ:j<t.fns:=by
    have:=(gn.mp Y).1;rw[jT,CY]at this;exact this
   obtain⟨n,ay,rfl⟩:=ZK Y;rw[ady t bQ]at ay;cases ay;obtain⟨r,mQ⟩:∃r,cV[1+j]?=some r:=⟨_,gA (by rw[qg,eF];omega)⟩;rw[getElem?_drop,h8,mQ]at bu;cases bu;have oV:=O1 KQ j;have L7:(j+1)*(134144+1)<=65*134145:=Nat.mul_le_mul (by omega) (dW _);have Mn:=KQ (1+j);have VQ:c≠jK:=fun I=>by rw[<-I,g2]at vA;cases vA
   have Ye:=g1 _ _ (aa3.at_ _ r mQ) (by simpa using aa6 r (jc mQ));have ap6:r≠jK:=fun I=>by rw[<-I,Ye]at vA;cases vA
   have apQ:=aa6 r (jc mQ);have Xd:V H' jK (.dD [aa.int ((Z.oN t (1+j)).length:Nat),aa.ref r]) c=some (.ak (c8 (yC t j))):=by rw[aK VQ];exact g2
   refine⟨jK,_,z,je.bM aP,z,_,_,z,_,_,z,z,?_⟩;refine⟨_,z,.inl ⟨z,_,bj.bM Xd⟩,_,z,c,_,_,z,z,Xd,(by rw[jT];omega),?_⟩;refine⟨_,z,.inl ⟨z,_,bj.bM aP⟩,_,z,c,r,_,_,z,z,aP,(by rw[aK apQ,aK ap6];exact Ye),?_,?_⟩
   .rw[g8,jT,jT,Oa];omega
   .refine⟨_,_,_,z,?_,?_⟩
    .refine((g1.V (.inr ?_)).V (.inl (by simp))).V (.inl (by simp));cases I:pZ jK with
     |none=>rfl
     |some o=>rw[g1 _ _ I (by simpa using bC VQ)]at vA;cases vA
    .rw[aP,VM,AP,AP];rfl
  .rintro O H' ⟨v,ou,r7,rfl,g1,g2⟩;refine⟨_,z,k H' c (fun b o e=>g1 _ _ (abk b o e) (by simp;intro I;rw[I,yH]at e;cases e)) yH ?_⟩;rw[jT,CY,VL ek.ah ek.eE qH]at g2;exact g2
end
section
variable{P:Program}{w:World}{K:Frag}{az:Str->Option Value}{base:Heap}{a:bU}
abbrev gj(a:bU)(dx aC:Addr)(bL dI dO:aa)(i:Nat):cI:=.au a.gW dx (gG (.ref aC) bL (.int i) dI dO)
def aso(K:Frag)(a:bU):dj:=fun vs H Q E=>∃(p dx aC:Addr)(bL dI dO:aa)(aR:List UInt8)(i m:Nat),vs=[.ref p,.int m]/\H p=some (gj a dx aC bL dI dO i)/\bj K H aC (gM aR)/\i<=aR.length/\
 (i=aR.length->E (.ref a.jD) none H)/\
 ∀b,aR[i]?=some b->(m<b.toNat->E (.ref a.jD) none (V H p (gj a dx aC bL dI dO (i+1))))/\(b.toNat<=m->Q (.int b.toNat) (V H p (gj a dx aC bL dI dO (i+1))))
theorem acY:dP ["reader","most","count"] ["reader","most"] (cT acH):=by trivial
theorem aas(T:Txt K az a):cZ P w K az base (cW P w) 2 a.Jh a.Hx ["reader","most"] (aso K a):=by
 refine T.PK.dZ acY (fun vs H Q E h=>?_) (fun cJ A outer s H vs Q E aO h=>?_)
 .obtain⟨p,dx,aC,bL,dI,dO,aR,i,m,rfl,_⟩:=h;rfl
 .obtain⟨p,dx,aC,bL,dI,dO,aR,i,m,rfl,aN,aG,aF,dM,k⟩:=h;refine⟨_,bh (dU (i:=2) acY.aH z (Or.inl z) (iC (af 0) T.gS T.zf (zp T) aO T.yx .nil bZ))
   (bh (d7 (dN AW (af 2) (af 1) (dH _)) (bl (qQ gT z T.t6 T.rB)) fH) (bl (di (af 2)))),?_⟩
  refine⟨_,z,p,dx,_,z,aN,yq,p,dx,aC,bL,dI,dO,aR,i,z,aN,aG,aF,dM,fun b ae=>?_⟩;refine⟨_,z,_,z,_,_,z,z,_,z,?_⟩;exact fi (fun h=>(k b ae).1 (by omega)) (fun h=>⟨_,z,(k b ae).2 (by omega)⟩)
def CK(tk:List Nat)(n h c:Nat):Nat:=Z.qP (decide (0<h)) (tk.getD h 0) n c
def ar4(K:Frag)(a:bU):dj:=fun vs H Q E=>∃(sp bH bw:Addr)(mi:aa)(c n h:Nat)(tk:List Nat),vs=[.int c,.ref sp,.ref bw]/\H sp=some (.au a.iH bH (mr (.int n) mi (.int h)))/\H bw=some (.ak (c8 tk))/\h<tk.length/\Q (.int (CK tk n h c:Nat)) H
theorem aqQ:dP ["kind","spot","takes"] ["kind","spot","takes"] (cT acw):=by trivial
theorem aoP(T:Txt K az a):cZ P w K az base (cW P w) 1 a.I6 a.Hi ["kind","spot","takes"] (ar4 K a):=by
 refine T.WW.dZ aqQ (fun vs H Q E h=>?_) (fun cJ A outer s H vs Q E aO h=>?_)
 .obtain⟨sp,bH,bw,mi,c,n,h,tk,rfl,_⟩:=h;rfl
 .obtain⟨sp,bH,bw,mi,c,n,h,tk,rfl,aL,bO,ee,k⟩:=h;refine⟨_,bh (d7 (dN e9 (af 0) (cH T.P0) (dH _)) (bl (di (mD nJ (af 2) (bG (af 1) z) (fun _ _=>rfl)))) fH)
   (bh (d7 (dN e9 (af 0) (cH T.Xm) (dH _)) (bl (di (bG (af 1) z))) fH)
   (bh (d7 (Sz (KN (dN e9 (af 0) (cH T.PU) (dH _)) (KO (dN e9 (af 0) (cH T.PY) (dH _)))).s9 (SA (dN AW (bG (af 1) z) (cH T.yJ) (dH _)))).s9
    (bl (di dc)) fH)
   (bl (di dc)))),?_⟩
  have uJ:nE (c8 tk) (h:Int)=some (aa.int (tk.getD h 0:Nat)):=lD (by unfold c8;rw[h8,mZ,gA ee];rfl);unfold CK Z.qP at k;refine⟨_,z,z,_,z,fi (fun ai=>?_) (fun ai=>?_)⟩
  .rw[bT (by have:=gK ai;omega)]at k;exact⟨_,z,_,z,sp,_,bH,_,_,z,aL,T.n7,T.AL,Bt,bw,_,_,_,z,z,bj.bM bO,uJ,k⟩
  rw[bz (fun I=>ai (by rw[I];rfl))]at k;refine⟨_,z,z,_,z,fi (fun aj=>?_) (fun aj=>?_)⟩
  .rw[bT (by have:=gK aj;omega)]at k;exact⟨_,z,sp,_,bH,_,_,z,aL,T.n7,T.zj,zT,k⟩
  rw[bz (fun I=>aj (by rw[I];rfl))]at k;have aW:c=1\/c=3->(0:Int)<(h:Int)->Q (.int 1) H:=fun aB cP=>by
   rw[bT ⟨aB,by simpa using cP⟩]at k;exact k
  have iL:c=1\/c=3->¬(0:Int)<(h:Int)->Q (.int 0) H:=fun aB cP=>by
   rw[bz (fun I=>cP (by simpa using I.2))]at k;exact k
  have SH:¬(c=1\/c=3)->Q (.int 0) H:=fun aB=>by
   rw[bz (fun I=>aB I.1)]at k;exact k
  refine⟨_,z,z,_,z,fi (fun bN=>lY ?_) (fun bN=>⟨_,z,z,_,z,fi (fun ez=>?_) (fun ez=>?_)⟩)⟩
  .have aB:c=1\/c=3:=.inl (by have:=gK bN;omega);exact⟨_,z,sp,_,bH,_,_,z,aL,T.n7,T.AL,Bt,_,_,z,z,_,z,fi (fun cP=>aW aB cP) (fun cP=>iL aB cP)⟩
  .have aB:c=1\/c=3:=.inr (by have:=gK ez;omega);exact⟨_,z,sp,_,bH,_,_,z,aL,T.n7,T.AL,Bt,_,_,z,z,_,z,fi (fun cP=>aW aB cP) (fun cP=>iL aB cP)⟩
  .exact SH (fun I=>I.elim (fun I=>bN (by rw[I];rfl)) (fun I=>ez (by rw[I];rfl)))
def ar9(K:Frag)(a:bU):dj:=fun vs H Q E=>∃(p dx aC sp bH bw:Addr)(bL dI dO mi:aa)(aR:List UInt8)(i c n h:Nat)(tk:List Nat),vs=[.ref p,.int c,.ref sp,.ref bw]/\H p=some (gj a dx aC bL dI dO i)/\bj K H aC (gM aR)/\i<=aR.length/\
 sp≠p/\H sp=some (.au a.iH bH (mr (.int n) mi (.int h)))/\H bw=some (.ak (c8 tk))/\h<tk.length/\
 (i=aR.length->E (.ref a.jD) none H)/\
 ∀b,aR[i]?=some b->(CK tk n h c<=b.toNat->E (.ref a.jD) none (V H p (gj a dx aC bL dI dO (i+1))))/\(b.toNat<CK tk n h c->Q (.int b.toNat) (V H p (gj a dx aC bL dI dO (i+1))))
theorem acU:dP ["reader","kind","spot","takes","place"] ["reader","kind","spot","takes"] (cT acB):=by trivial
theorem aan(T:Txt K az a):cZ P w K az base (cW P w) 2 a.Jb a.Hq ["reader","kind","spot","takes"] (ar9 K a):=by
 refine T.PI.dZ acU (fun vs H Q E h=>?_) (fun cJ A outer s H vs Q E aO h=>?_)
 .obtain⟨p,dx,aC,sp,bH,bw,bL,dI,dO,mi,aR,i,c,n,h,tk,rfl,_⟩:=h;rfl
 .obtain⟨p,dx,aC,sp,bH,bw,bL,dI,dO,mi,aR,i,c,n,h,tk,rfl,aN,aG,aF,br,aL,bO,ee,dM,k⟩:=h;refine⟨_,bh (dU (i:=4) acU.aH z (Or.inl z) (iC (af 0) T.gS T.zf (zp T) aO T.yx .nil bZ))
   (bh (d7 (dN CH (af 4) (fU (aoP T) aO z T.am5 T.WW.cN T.af3 .nil bZ (aE (af 1) (aE (af 2) (aE (af 3) aY)))) (dH _)) (bl (qQ gT z T.t6 T.rB)) fH) (bl (di (af 4)))),?_⟩
  refine⟨_,z,p,dx,_,z,aN,yq,p,dx,aC,bL,dI,dO,aR,i,z,aN,aG,aF,dM,fun b ae=>?_⟩;have jK:bw≠p:=fun I=>by rw[I,aN]at bO;cases bO
  refine⟨_,z,_,z,_,z,_,z,sp,bH,bw,_,c,n,h,tk,z,(by rw[aK br];exact aL),(by rw[aK jK];exact bO),ee,_,_,z,z,_,z,?_⟩;exact fi (fun h=>(k b ae).1 (by omega)) (fun h=>⟨_,z,(k b ae).2 (by omega)⟩)
end
section
variable{P:Program}{w:World}{K:Frag}{az:Str->Option Value}{base:Heap}{a:bU}
def jN(H:aA)(b8:List Addr)(l:List (Nat×Nat)):Prop:=Paired (fun t(y:Nat×Nat)=>H t=some (.dD [.int y.1,.int y.2])) b8 l
theorem jN.keep{H H':aA}{M:List Addr}{b8:List Addr}{l:List (Nat×Nat)}(h:jN H b8 l)(k:aV M H H')(oU:∀b∈M,∀xs,H b≠some (.dD xs)):jN H' b8 l:=bF.Paired.nI (fun t y e=>k _ _ e fun I=>oU t I _ e) h
def xP(tk:List Nat)(n h:Nat):Nat->List UInt8->Option (List (Nat×Nat)×List UInt8):=Z.wB (decide (0<h)) (tk.getD h 0) n
theorem anB{tk:List Nat}{n h m:Nat}{op k:UInt8}{r:List UInt8}(aJ:k.toNat<CK tk n h op.toNat):xP tk n h (m+1) (op::k::r)=(xP tk n h m r).map fun y=>((op.toNat,k.toNat)::y.1,y.2):=by
 unfold xP;simp only[Z.wB];exact bT aJ
theorem anA{tk:List Nat}{n h m:Nat}{op k:UInt8}{r:List UInt8}(aJ:CK tk n h op.toNat<=k.toNat):xP tk n h (m+1) (op::k::r)=none:=by
 unfold xP;simp only[Z.wB];rw[bz (by unfold CK at aJ;omega)]
theorem _root_.bF.aV.fresh{M:List Addr}{H H':aA}(k:aV M H H'){b:Addr}(e:H' b=none)(oU:∀c∈M,∃o,H' c=some o):H b=none:=by
 cases q:H b with
 |none=>rfl
 |some o=>
  by_cases ae:b∈M
  .obtain⟨fm,c5⟩:=oU b ae;rw[c5]at e;cases e
  .rw[k b o q ae]at e;cases e
def ar8(K:Frag)(a:bU):dj:=fun vs H Q E=>∃(p dx aC sp bH bw:Addr)(bL dI dO mi:aa)(aR:List UInt8)(i n h:Nat)(tk:List Nat),vs=[.ref p,.ref sp,.ref bw]/\H p=some (gj a dx aC bL dI dO i)/\bj K H aC (gM aR)/\i<=aR.length/\aC≠p/\
 sp≠p/\H sp=some (.au a.iH bH (mr (.int n) mi (.int h)))/\H bw=some (.ak (c8 tk))/\h<tk.length/\
 (aR.length<i+2->∀H',aV [p] H H'->E (.ref a.jD) none H')/\
 (∀m,aR[i+1]?=some m->xP tk n h m.toNat (aR.drop (i+2))=none->∀H',aV [p] H H'->E (.ref a.jD) none H')/\
 (∀(lu m:UInt8)(l:List (Nat×Nat))(q:List UInt8),aR[i]?=some lu->aR[i+1]?=some m->xP tk n h m.toNat (aR.drop (i+2))=some (l,q)->
  ∀(H':aA)(x fk nm:Addr)(b8:List Addr)(dX:Nat),aV [p] H H'->H x=none->H nm=none->H' p=some (gj a dx aC bL dI dO dX)->i+2<=dX->dX<=aR.length->aR.drop dX=q->
   H' x=some (.au a.ip fk (iP (.int 11) (.int (lu.toNat+1:Nat)) (.int 0) (.int n) (.int h) (.ref nm)))->H' nm=some (.ak (b8.map aa.ref))->jN H' b8 l->Q (.ref x) H')
theorem NH:dP ["reader","spot","takes","node","name","kind"] ["reader","spot","takes"] (cT acA):=by trivial
theorem aoS(T:Txt K az a):cZ P w K az base (cW P w) 3 a.Ja a.Hp ["reader","spot","takes"] (ar8 K a):=by
 refine T.WZ.dZ NH (fun vs H Q E h=>?_) (fun cJ A outer s H vs Q E aO h=>?_)
 .obtain⟨p,dx,aC,sp,bH,bw,bL,dI,dO,mi,aR,i,n,h,tk,rfl,_⟩:=h;rfl
 .obtain⟨p,dx,aC,sp,bH,bw,bL,dI,dO,mi,aR,i,n,h,tk,rfl,aN,aG,aF,wg,Tp,aL,bO,ee,YJ,alK,k⟩:=h;have b7:sizeLine=16777216:=gU;have jK:bw≠p:=fun I=>by rw[I,aN]at bO;cases bO
  refine⟨_,bh (dU (i:=3) NH.aH z (Or.inl z) (mE T.Kh (KB T) aO.dw z T.Kf T.FS .nil bZ
    (aE (cH T.Jz) (aE (f9 kH (iC (af 0) T.gS T.zf (zp T) aO.dw T.yx .nil bZ) dc) (aE dc (aE (af 1) aY))))))
   (bh (vL gT.own z (Nc z T.MV (aE (iC (af 0) T.gS T.zf (zp T) aO.dw T.yx .nil bZ) aY)) (mF (i:=4) NH.aH z (Or.inl z))
    (bh (dU (i:=5) NH.aH z (Or.inl z) (iC (af 0) T.gS T.zf (zp T) aO.dw T.yx .nil bZ))
    (bl (fD (jk gZ k7 lA kU (bG (af 3) z)
     (aE (qO (aE (af 5) (aE (fU (aan T) aO z T.Zs T.PI.cN T.Vj .nil bZ (aE (af 0) (aE (af 5) (aE (af 1) (aE (af 2) aY))))) aY))) aY))))))
   (bl (di (af 3)))),?_⟩
  refine⟨_,z,p,dx,_,z,aN,yq,p,dx,aC,bL,dI,dO,aR,i,z,aN,aG,aF,fun e=>YJ (by omega) _ aV.refl,fun lu Mk=>?_⟩;have XQ:i<aR.length:=(gn.mp Mk).1;have nK:aV [p] H (V H p (gj a dx aC bL dI dO (i+1))):=aV.refl.V (.inl (by simp));have nG:V H p (gj a dx aC bL dI dO (i+1)) p=some (gj a dx aC bL dI dO (i+1)):=aP;show ∃dX auR,_;generalize V H p (gj a dx aC bL dI dO (i+1))=aI at nK nG⊢;have JV:=nK _ _ aL (by simpa using Tp);refine⟨_,_,z,z,_,z,fun x fk aq ay bB=>?_⟩;have zA:sp≠x:=fun I=>by rw[<-I,JV]at aq;cases aq
  have EN:sp≠fk:=fun I=>by rw[<-I,JV]at ay;cases ay
  refine⟨x,fk,sp,bH,_,_,_,_,_,_,z,aP,zA,(by rw[aK zA,aK EN];exact JV),fun nm wo JQ=>⟨z,?_⟩⟩;obtain⟨fL,iJ⟩:=e8 wo;obtain⟨tY,qk⟩:=e8 iJ;have yI:∀b,aI b=none->H b=none:=fun b e=>nK.fresh e (by simp[nG]);have JT:p≠x:=fun I=>by rw[<-I,nG]at aq;cases aq
  have akP:p≠fk:=fun I=>by rw[<-I,nG]at ay;cases ay
  have D5:p≠nm:=fun I=>by rw[<-I,nG]at qk;cases qk
  have ahs:(lu.toNat:Int)+1=((lu.toNat+1:Nat):Int):=by omega
  show BU 3 _ _ (V (V (V (V aI fk (cI.own x)) x (cI.au a.ip fk [])) nm (cI.ak [])) x (cI.au a.ip fk (iP (aa.int 11) (aa.int ((lu.toNat:Int)+1)) (aa.int 0) (aa.int n) (aa.int h) (aa.ref nm)))) _;rw[ahs];have ir:aV [p] H (V (V (V (V aI fk (cI.own x)) x (cI.au a.ip fk [])) nm (cI.ak [])) x (cI.au a.ip fk (iP (aa.int 11) (aa.int ((lu.toNat+1:Nat):Int)) (aa.int 0) (aa.int n) (aa.int h) (aa.ref nm)))):=
   (((nK.V (.inr (yI _ ay))).V (.inr (yI _ aq))).V (.inr (yI _ qk))).V (.inr (yI _ aq))
  have j2:V (V (V (V aI fk (cI.own x)) x (cI.au a.ip fk [])) nm (cI.ak [])) x (cI.au a.ip fk (iP (aa.int 11) (aa.int ((lu.toNat+1:Nat):Int)) (aa.int 0) (aa.int n) (aa.int h) (aa.ref nm))) p=some (gj a dx aC bL dI dO (i+1)):=by
   rw[aK JT,aK D5,aK JT,aK akP];exact nG
  have Ms:V (V (V (V aI fk (cI.own x)) x (cI.au a.ip fk [])) nm (cI.ak [])) x (cI.au a.ip fk (iP (aa.int 11) (aa.int ((lu.toNat+1:Nat):Int)) (aa.int 0) (aa.int n) (aa.int h) (aa.ref nm))) x=some (cI.au a.ip fk (iP (aa.int 11) (aa.int ((lu.toNat+1:Nat):Int)) (aa.int 0) (aa.int n) (aa.int h) (aa.ref nm))):=aP;have kh:V (V (V (V aI fk (cI.own x)) x (cI.au a.ip fk [])) nm (cI.ak [])) x (cI.au a.ip fk (iP (aa.int 11) (aa.int ((lu.toNat+1:Nat):Int)) (aa.int 0) (aa.int n) (aa.int h) (aa.ref nm))) nm=some (.ak []):=by rw[aK fL,aP]
  generalize V (V (V (V aI fk (cI.own x)) x (cI.au a.ip fk [])) nm (cI.ak [])) x (cI.au a.ip fk (iP (aa.int 11) (aa.int ((lu.toNat+1:Nat):Int)) (aa.int 0) (aa.int n) (aa.int h) (aa.ref nm)))=a7 at ir j2 Ms kh⊢;have sN:=yI _ aq;have fn:=yI _ qk;have O5:∀H',aV [p] H H'->bj K H' aC (gM aR):=fun H' k=>k.seq (by simpa using wg) aG;refine⟨_,z,p,dx,_,z,j2,yq,p,dx,aC,bL,dI,dO,aR,i+1,z,j2,O5 _ ir,XQ,fun e=>YJ (by omega) _ ir,fun m aM=>⟨(m.toNat:Int),z,by omega,(by have:=m.toNat_lt;omega),?_⟩⟩;have Mf:i+1<aR.length:=(gn.mp aM).1;have gi:aV [p] H (V a7 p (gj a dx aC bL dI dO (i+1+1))):=ir.V (.inl (by simp));have jS:V a7 p (gj a dx aC bL dI dO (i+1+1)) p=some (gj a dx aC bL dI dO (i+1+1)):=aP;have Cg:V a7 p (gj a dx aC bL dI dO (i+1+1)) x=_:=(aK (bC JT)).trans Ms;have kE:V a7 p (gj a dx aC bL dI dO (i+1+1)) nm=_:=(aK (bC D5)).trans kh;show ∃W,_;generalize V a7 p (gj a dx aC bL dI dO (i+1+1))=bI at gi jS Cg kE⊢;refine PM (n:=m.toNat) (fun j O H'=>∃(att atu:Option aa)(pre:List (Nat×Nat))(b8:List Addr),O=[some (.ref p),some (.ref sp),some (.ref bw),some (.ref x),att,atu]/\aV [p] H H'/\H' p=some (gj a dx aC bL dI dO (i+2+2*j))/\i+2+2*j<=aR.length/\
   H' x=some (.au a.ip fk (iP (.int 11) (.int (lu.toNat+1:Nat)) (.int 0) (.int n) (.int h) (.ref nm)))/\H' nm=some (.ak (b8.map aa.ref))/\jN H' b8 pre/\b8.length=j/\
   xP tk n h m.toNat (aR.drop (i+2))=(xP tk n h (m.toNat -j) (aR.drop (i+2+2*j))).map fun y=>(pre++y.1,y.2)) ?_ ?_ ?_
  .refine⟨none,none,[],[],z,gi,jS,by omega,Cg,kE,.nil,z,?_⟩;simp
  .rintro j O H' bQ ⟨Bf,E5,pre,b8,rfl,g1,g2,g3,hU,lg,Jv,PR,Jw⟩;obtain⟨r,Pp⟩:∃r,m.toNat -j=r+1:=⟨m.toNat -j -1,by omega⟩;rw[Pp]at Jw;have sG:xP tk n h (r+1) (aR.drop (i+2+2*j))=none->∀j9,aV [p] H j9->E (.ref a.jD) none j9:=fun e=>alK m aM (by rw[Jw,e];rfl);refine⟨_,z,p,dx,_,z,g2,yq,p,dx,aC,bL,dI,dO,aR,i+2+2*j,z,g2,O5 _ g1,g3,fun e=>sG (by rw[yF e];rfl) _ g1,fun op Mj=>?_⟩;have ake:i+2+2*j<aR.length:=(gn.mp Mj).1;have fG:aV [p] H (V H' p (gj a dx aC bL dI dO (i+2+2*j+1))):=g1.V (.inl (by simp));have D4:V H' p (gj a dx aC bL dI dO (i+2+2*j+1)) p=some (gj a dx aC bL dI dO (i+2+2*j+1)):=aP;have AC:V H' p (gj a dx aC bL dI dO (i+2+2*j+1)) x=_:=(aK (bC JT)).trans hU;have Cd:V H' p (gj a dx aC bL dI dO (i+2+2*j+1)) nm=_:=(aK (bC D5)).trans lg;have Cf:jN (V H' p (gj a dx aC bL dI dO (i+2+2*j+1))) b8 pre:=Jv.keep (M:=[p]) (aV.refl.V (.inl (by simp))) (fun b ae xs e=>by simp at ae;rw[ae,g2]at e;cases e);show BU 5 _ _ (V H' p (gj a dx aC bL dI dO (i+2+2*j+1))) _;generalize V H' p (gj a dx aC bL dI dO (i+2+2*j+1))=b6 at fG D4 AC Cd Cf⊢;refine⟨_,z,x,_,fk,_,_,z,AC,T.gI,T.MM,Og,.inl ⟨z,_,bj.bM Cd⟩,_,z,_,z,_,z,_,z,_,z,?_⟩;refine⟨p,dx,aC,sp,bH,bw,bL,dI,dO,_,aR,i+2+2*j+1,op.toNat,n,h,tk,z,D4,O5 _ fG,ake,Tp,fG _ _ aL (by simpa using Tp),fG _ _ bO (by simpa using jK),ee,fun e=>sG (by rw[jf Mj,yF e];rfl) _ fG,fun gh Qs=>⟨fun kQ=>sG (by rw[jf Mj,jf Qs];exact anA kQ) _ (fG.V (.inl (by simp))),fun eY=>?_⟩⟩;have auF:i+2+2*j+1<aR.length:=(gn.mp Qs).1;refine⟨(by show 2<=sizeLine;omega),fun K2 ak4=>?_⟩;obtain⟨as8,EU⟩:=e8 ak4;have Z3:nm≠K2:=fun I=>by rw[<-I,Cd]at EU;cases EU
   have atQ:x≠K2:=fun I=>by rw[<-I,AC]at EU;cases EU
   have atN:x≠nm:=fun I=>fL I.symm;refine⟨nm,_,_,z,z,(by rw[aK Z3,aK (bC D5)];exact Cd),(by rw[cA,PR];have:=m.toNat_lt;omega),?_⟩;refine⟨_,_,pre++[(op.toNat,gh.toNat)],b8++[K2],z,?_,?_,by omega,?_,?_,?_,by simp[PR],?_⟩
   .exact((fG.V (.inl (by simp))).V (.inr (fG.fresh EU (by simp[D4])))).V (.inr fn)
   .rw[aK D5,aK (bC as8),aP];rfl
   .rw[aK atN,aK atQ,aK (bC JT)];exact AC
   .rw[aP,gB];rfl
   .refine rV ?_ ?_
    .refine Cf.keep (M:=[p,nm]) (((aV.refl.V (.inl (by simp))).V (.inr EU)).V (.inl (by simp))) (fun b ae xs e=>?_);simp at ae;rcases ae with rfl|rfl
     .rw[D4]at e;cases e
     .rw[Cd]at e;cases e
    .rw[aK (bC Z3),aP]
   .have ahF:m.toNat -(j+1)=r:=by omega
    have ahy:i+2+2*j+1+1=i+2+2*(j+1):=by omega
    rw[Jw,ahF,jf Mj,jf Qs,anB eY,ahy,Option.map_map]
    congr 1
    funext y
    simp
  .rintro O H' ⟨Bf,E5,pre,b8,rfl,g1,g2,g3,hU,lg,Jv,PR,Jw⟩;refine⟨_,z,k lu m pre (aR.drop (i+2+2*m.toNat)) Mk aM ?_ H' x fk nm b8 (i+2+2*m.toNat) g1 sN fn g2 (by omega) g3 z hU lg Jv⟩;rw[Jw,Dc];show some (pre++[],_)=_;rw[zI]
end
section
variable{P:Program}{w:World}{K:Frag}{az:Str->Option Value}{base:Heap}{a:bU}
def tF(a:bU)(M:List Addr)(H:aA)(x:Addr)(aH:Z.jl):Prop:=∃(dx:Addr)(nm:aa),H x=some (.au a.ip dx (iP (.int aH.kind) (.int aH.value) (.int aH.jj) (.int aH.eZ) (.int aH.bJ) nm))/\
 (aH.kind=11->∃(l:Addr)(b8:List Addr),nm=.ref l/\l∉M/\H l=some (.ak (b8.map aa.ref))/\jN H b8 aH.names)
theorem p5.AU{H:aA}{M:List Addr}(m:p5 a H M):∀b∈M,∀xs,H b≠some (.dD xs):=fun b ae xs e=>by
 obtain⟨o,c5,q⟩:=m b ae;rw[e]at c5;cases c5;rcases q with⟨ys,q⟩|⟨d,f,q⟩<;>cases q
theorem tF.keep{M M':List Addr}{H H':aA}{x:Addr}{aH:Z.jl}(h:tF a M H x aH)(T:Txt K az a)(k:aV M' H H')(m:p5 a H M')(s:∀b∈M',b∈M):tF a M H' x aH:=by
 obtain⟨dx,nm,e,q⟩:=h;refine⟨dx,nm,k.au m (jZ T.aH 2 3 (by decide) z z) e,fun aJ=>?_⟩;obtain⟨l,b8,ay,aq,bB,dQ⟩:=q aJ;exact⟨l,b8,ay,aq,k _ _ bB (fun I=>aq (s _ I)),dQ.keep k m.AU⟩
structure kA(K:Frag)(a:bU)(G H:aA)(p aC aQ aX bw:Addr)(aR:List UInt8)(i:Nat)(N:List Z.jl)(ah:List Z.jd)(tk:List Nat)(h:Nat):Prop where
 tn:∃dx,H p=some (gj a dx aC (.int 64) (.ref aQ) (.ref aX) i)
 uD:bj K H aC (gM aR)
 le:i<=aR.length
 oi:∃xs,H aQ=some (.ak (xs.map aa.ref))/\Paired (tF a [p,aQ,aX,bw] H) xs N
 ya:∃xs,H aX=some (.ak (xs.map aa.ref))/\Paired (p7 a.iH H) xs ah.reverse
 qX:H bw=some (.ak (c8 tk))
 rE:∀s∈ah,s.bJ=h
 eY:h<tk.length
 kF:aQ≠aX
 Eu:aQ≠bw
 Bg:aX≠bw
 tM:aC∉[p,aQ,aX,bw]
 N6:ah.length<=2*i+1
 wC:N.length<=i
 A7:aR.length<=100000
 qE:∀b,H b=none->G b=none
theorem kA.mut{G H:aA}{p aC aQ aX bw:Addr}{aR:List UInt8}{i h:Nat}{N:List Z.jl}{ah:List Z.jd}{tk:List Nat}(R:kA K a G H p aC aQ aX bw aR i N ah tk h):p5 a H [p,aQ,aX,bw]:=fun b ae=>by
 obtain⟨dx,aN⟩:=R.tn;obtain⟨cR,br,_⟩:=R.oi;obtain⟨ul,hw,_⟩:=R.ya;simp at ae;rcases ae with rfl|rfl|rfl|rfl
 .exact⟨_,aN,.inr ⟨_,_,z⟩⟩
 .exact⟨_,br,.inl ⟨_,z⟩⟩
 .exact⟨_,hw,.inl ⟨_,z⟩⟩
 .exact⟨_,R.qX,.inl ⟨_,z⟩⟩
theorem kA.new{G H H':aA}{p aC aQ aX bw x dx:Addr}{i dX h:Nat}{aR:List UInt8}{N:List Z.jl}{ah gm:List Z.jd}{tk:List Nat}{aH:Z.jl}{cR i0:List Addr}(T:Txt K az a)(R:kA K a G H p aC aQ aX bw aR i N ah tk h)
  (k:aV [p,aQ,aX] H H')(aN:H' p=some (gj a dx aC (.int 64) (.ref aQ) (.ref aX) dX))(ef:Paired (tF a [p,aQ,aX,bw] H) cR N)(br:H' aQ=some (.ak (cR.map aa.ref++[.ref x])))(Y:tF a [p,aQ,aX,bw] H' x aH)
  (hw:H' aX=some (.ak (i0.map aa.ref)))(qR:Paired (p7 a.iH H') i0 gm.reverse)(ee:∀s∈gm,s.bJ=h)(aF:i<dX)(kQ:dX<=aR.length)(aD:gm.length<=2*dX+1):
  kA K a G H' p aC aQ aX bw aR dX (N++[aH]) gm tk h:=by
 obtain⟨eV,qf⟩:=R.tn;have s9:p≠bw:=fun I=>by have:=R.qX;rw[<-I,qf]at this;cases this
 have bO:H' bw=some (.ak (c8 tk)):=k _ _ R.qX (by simp[bC s9,bC R.Eu,bC R.Bg]);have jh:aV [p,aQ,aX,bw] H H':=k.c7 (by simp);exact⟨⟨dx,aN⟩,jh.seq R.tM R.uD,kQ,⟨cR++[x],by rw[br,gB];rfl,rV (bF.Paired.nI (fun y n h=>h.keep T jh R.mut (fun b ae=>ae)) ef) Y⟩,⟨i0,hw,qR⟩,bO,ee,R.eY,R.kF,R.Eu,R.Bg,R.tM,aD,by have:=R.wC;simp;omega,R.A7,fun b ni=>R.qE b (k.fresh ni (by simp[aN,br,hw]))⟩
theorem RO{H':aA}{aQ iM bH:Addr}{gr mi oq bW iE fC:aa}{ns:List aa}(br:H' aQ=some (.ak ns))(bR:ns.length<sizeLine)(aL:H' iM=some (.au a.iH bH (mr gr mi oq))){Ae:gc}{E:jQ}
  (fin:∀(j9:aA)(x fk:Addr)(l:aa),aV [aQ] H' j9->j9 aQ=some (.ak (ns++[.ref x]))->j9 x=some (.au a.ip fk (iP bW iE fC gr oq l))->Ae .b9 j9):
  ∀x fk,H' x=none->H' fk=none->fk≠x->ac7 a.ip a.iH [.ref x,bW,iE,fC,.ref iM] (V (V H' fk (.own x)) x (.au a.ip fk [])) (fun v a7=>v=.b9/\aa4 (.ref aQ) [.ref x] a7 Ae) E:=by
 intro x fk aq ay bB;have zA:iM≠x:=fun I=>by rw[<-I,aL]at aq;cases aq
 have EN:iM≠fk:=fun I=>by rw[<-I,aL]at ay;cases ay
 have dF:x≠aQ:=fun I=>by rw[I,br]at aq;cases aq
 have aH:fk≠aQ:=fun I=>by rw[I,br]at ay;cases ay
 refine⟨x,fk,iM,bH,_,_,_,gr,mi,oq,z,aP,zA,(by rw[aK zA,aK EN];exact aL),fun l aD akt=>⟨z,?_⟩⟩;obtain⟨fL,iJ⟩:=e8 aD;obtain⟨tY,qk⟩:=e8 iJ;have RN:l≠aQ:=fun I=>by rw[I,br]at qk;cases qk
 refine⟨aQ,ns,_,z,z,(by rw[aK (bC dF),aK (bC RN),aK (bC dF),aK (bC aH)];exact br),bR,?_⟩;exact fin _ x fk (.ref l) (((((aV.refl.V (.inr ay)).V (.inr aq)).V (.inr qk)).V (.inr aq)).V (.inl (by simp))) aP (by rw[aK dF,aP])
def qz(tk:List Nat)(h:Nat):List Z.jl->List Z.jd->List UInt8->Option (List Z.jl×List UInt8):=Z.gH (decide (0<h)) (tk.getD h 0)
def asb(K:Frag)(a:bU):dj:=fun vs H Q E=>∃(G:aA)(p aC aQ aX bw:Addr)(aR:List UInt8)(i h:Nat)(N:List Z.jl)(sp:Z.jd)(ah:List Z.jd)(tk:List Nat),vs=[.ref p,.ref bw]/\kA K a G H p aC aQ aX bw aR i N (sp::ah) tk h/\
 (qz tk h N (sp::ah) (aR.drop i)=none->∀H',aV [p,aQ,aX] H H'->E (.ref a.jD) none H')/\
 (∀(H':aA)(dX:Nat)(iQ:List Z.jl)(gm:List Z.jd),aV [p,aQ,aX] H H'->kA K a G H' p aC aQ aX bw aR dX iQ gm tk h->i<dX->qz tk h iQ gm (aR.drop dX)=qz tk h N (sp::ah) (aR.drop i)->Q .b9 H')
theorem S7:dP ["reader","takes","spot","kind"] ["reader","takes"] (cT acC):=by trivial
theorem aoU(T:Txt K az a):cZ P w K az base (cW P w) 4 a.Jc a.Hr ["reader","takes"] (asb K a):=by
 refine T.W0.dZ S7 (fun vs H Q E h=>?_) (fun cJ A outer s H vs Q E aO h=>?_)
 .obtain⟨G,p,aC,aQ,aX,bw,aR,i,h,N,sp,ah,tk,rfl,_⟩:=h;rfl
 .obtain⟨G,p,aC,aQ,aX,bw,aR,i,h,N,sp,ah,tk,rfl,R,dM,k⟩:=h;obtain⟨eV,aN⟩:=R.tn;obtain⟨cR,br,ef⟩:=R.oi;obtain⟨ul,QT,CL⟩:=R.ya;rw[zL]at CL;obtain⟨i0,iM,rfl,qR,uE,aL⟩:=M6 CL;have hw:H aX=some (.ak (i0.map aa.ref++[.ref iM])):=by rw[QT,gB];rfl
  have l0:=R.mut;have akH:cR.length=N.length:=kX ef;have ald:i0.length=ah.length:=by rw[kX qR,tE]
  have atY:=R.wC;have T5:=R.le;have pg:=R.A7;have T6:=R.N6;rw[c9]at T6;have b7:sizeLine=16777216:=gU;have bO:=R.qX;have ed:p≠aX:=fQ aN hw (by intro q;cases q);have fc:p≠aQ:=fQ aN br (by intro q;cases q);have ql:p≠bw:=fQ aN bO (by intro q;cases q);have aU:iM≠aX:=fQ aL hw (by intro q;cases q);have bD:iM≠aQ:=fQ aL br (by intro q;cases q);have eo:iM≠p:=fun I=>by
   rw[I,aN]at aL;have:=j7 aL;injection this with q _ _
   exact jZ T.aH 3 1 (by decide) z z q
  have wg:aC≠p:=fun I=>R.tM (by simp[I]);have FP:aC≠aX:=fun I=>R.tM (by simp[I]);refine⟨_,bh (dU (i:=2) S7.aH z (Or.inl z) (iC (af 0) T.gS T.Y5 (aaj T) aO.dw T.U5 .nil bZ))
   (bh (dU (i:=3) S7.aH z (Or.inl z) (iC (af 0) T.gS T.zf (zp T) aO.dw T.yx .nil bZ))
   (bl (d7 (Sx (Sl (af 3) (CJ (v:=.ref a.rU) z T.En z)))
    (bh (fD (qN (af 0) T.gS T.Y7 (aau T) aO.dw T.U7 .nil bZ (aE (af 3) (aE (af 2) aY))))
    (bl (fD (jk gZ k7 lA kU (bG (af 0) z)
     (aE (mE T.Kh (KB T) aO.dw z T.Kf T.FS .nil bZ (aE (af 3) (aE dc (aE (Sn (CJ (v:=.ref a.rU) z T.En z) (af 3) (fun _ _=>rfl)) (aE (af 2) aY))))) aY)))))
    (bl (d7 (dN e9 (af 3) (cH T.DO) (dH _))
     (bl (fD (jk gZ k7 lA kU (bG (af 0) z)
      (aE (mE T.Kh (KB T) aO.dw z T.Kf T.FS .nil bZ (aE (af 3) (aE (iC (af 0) T.gS T.Y6 (aak T) aO.dw T.U6 .nil bZ) (aE dc (aE (af 2) aY))))) aY))))
     (bl (d7 (dN e9 (af 3) (cH T.Jz) (dH _))
      (bl (fD (jk gZ k7 lA kU (bG (af 0) z)
       (aE (fU (aoS T) aO.dw z T.am8 T.WZ.cN T.af6 .nil bZ (aE (af 0) (aE (af 2) (aE (af 1) aY)))) aY))))
      (bl (fD (jk gZ k7 lA kU (bG (af 0) z)
       (aE (mE T.Kh (KB T) aO.dw z T.Kf T.FS .nil bZ (aE (af 3) (aE (fU (aan T) aO.dw z T.Zs T.PI.cN T.Vj .nil bZ (aE (af 0) (aE (af 3) (aE (af 2) (aE (af 1) aY))))) (aE dc (aE (af 2) aY))))) aY))))))))))),?_⟩
  refine⟨_,z,p,eV,_,z,aN,Uv,p,eV,aX,iM,uE,_,_,_,_,_,64,sp.depth,i0.map aa.ref,z,aN,hw,aL,fun aG=>?_,fun aG=>?_⟩
  .exact dM (Z.agy (by omega)) _ (aV.refl.V (.inl (by simp)))
  obtain⟨n,d,h'⟩:=sp;have gP:d<=64:=by have:((d:Nat):Int)<=64:=aG;omega
  have ahx:h'=h:=R.rE _ iO;subst ahx;have rI:∀s∈ah,s.bJ=h':=fun s aL=>R.rE s (gz _ aL);have nK:aV [aX] H (V H aX (.ak (i0.map aa.ref))):=aV.refl.V (.inl (by simp));have wq:V H aX (.ak (i0.map aa.ref)) aX=some (.ak (i0.map aa.ref)):=aP;generalize V H aX (.ak (i0.map aa.ref))=aI at nK wq⊢;have nG:=nK _ _ aN (by simpa using ed);have oW:bj K aI aC (gM aR):=nK.seq (by simpa using FP) R.uD;have JV:=nK _ _ aL (by simpa using aU);refine⟨_,z,p,eV,_,z,nG,yq,p,eV,aC,_,_,_,aR,i,z,nG,oW,T5,fun e=>?_,fun b nj=>?_⟩
  .exact dM (by rw[yF e];exact Z.agz) _ (nK.c7 (by simp))
  have yT:i<aR.length:=(gn.mp nj).1;have ir:aV [p,aX] H (V aI p (gj a eV aC (.int 64) (.ref aQ) (.ref aX) (i+1))):=(nK.c7 (by simp)).V (.inl (by simp));have j2:V aI p (gj a eV aC (.int 64) (.ref aQ) (.ref aX) (i+1)) p=some (gj a eV aC (.int 64) (.ref aQ) (.ref aX) (i+1)):=aP;have kj:V aI p (gj a eV aC (.int 64) (.ref aQ) (.ref aX) (i+1)) aX=some (.ak (i0.map aa.ref)):=by rw[aK (bC ed)];exact wq
  show BU 3 _ _ (V aI p (gj a eV aC (.int 64) (.ref aQ) (.ref aX) (i+1))) _;generalize V aI p (gj a eV aC (.int 64) (.ref aQ) (.ref aX) (i+1))=a7 at ir j2 kj⊢;have DS:bj K a7 aC (gM aR):=ir.seq (by simp[wg,FP]) R.uD;have oY:=ir _ _ aL (by simp[aU,eo]);have kh:=ir _ _ br (by simp[bC fc,R.kF]);have rH:=ir _ _ bO (by simp[bC ql,bC R.Bg]);have pO:aV [p,aQ,aX] H a7:=ir.c7 (by simp);have vD:p5 a H [p,aQ,aX]:=fun b ae=>l0 b (by simp at ae⊢;rcases ae with h|h|h<;>simp[h]);have zH:∀(b6:aA),aV [p,aQ,aX] H b6->Paired (p7 a.iH b6) i0 ah.reverse:=fun b6 q=>bF.Paired.nI (fun y s h=>h.J8 T q vD) qR;have fin:∀(b6:aA)(x:Addr)(dX:Nat)(aH:Z.jl)(gm:List Z.jd)(C9:List Addr),aV [p,aQ,aX] H b6->b6 p=some (gj a eV aC (.int 64) (.ref aQ) (.ref aX) dX)->
    b6 aQ=some (.ak (cR.map aa.ref++[.ref x]))->tF a [p,aQ,aX,bw] b6 x aH->b6 aX=some (.ak (C9.map aa.ref))->Paired (p7 a.iH b6) C9 gm.reverse->
    (∀s∈gm,s.bJ=h')->i<dX->dX<=aR.length->gm.length<=ah.length+3->qz tk h' (N++[aH]) gm (aR.drop dX)=qz tk h' N (⟨n,d,h'⟩::ah) (aR.drop i)->Q .b9 b6:=
   fun b6 x dX aH gm C9 aW bf df e7 k6 oj mW CN A2 apr SE=>k b6 dX _ gm aW (R.new T aW bf ef df e7 k6 oj mW CN A2 (by omega)) CN SE
  have plain:∀{b6:aA}{x fk:Addr}{l:aa}{bW iE fC:Nat},b6 x=some (.au a.ip fk (iP (.int bW) (.int iE) (.int fC) (.int n) (.int h') l))->bW≠11->tF a [p,aQ,aX,bw] b6 x ⟨bW,iE,fC,n,h',[]⟩:=fun e aJ=>⟨_,_,e,fun I=>absurd I aJ⟩;refine⟨_,z,a.rU,_,.inl (b.toNat:Int),z,T.DI,z,_,z,?_⟩;by_cases aB:4<=b.toNat/\b.toNat<=9
  .rw[E0 aB];refine lY ?_;refine⟨_,z,p,eV,_,z,j2,Ux,_,z,_,z,p,eV,aX,iM,uE,_,_,_,_,b.toNat,n,d,h',i0.map aa.ref,z,j2,kj,oY,aB,(by rw[cA];omega),fun bI xs gi nH SD=>?_⟩;have o4:aV [p,aQ,aX] H bI:=pO.trans (gi.c7 (by simp));have jS:=gi _ _ j2 (by simpa using ed);have kE:=gi _ _ kh (by simpa using R.kF);have rG:=gi _ _ oY (by simpa using aU);refine⟨_,z,p,_,eV,_,_,z,jS,T.gS,T.xN,yk,.inl ⟨z,_,bj.bM kE⟩,_,z,_,z,a.rU,_,.inl (b.toNat:Int),_,z,T.DI,z,E0 aB,_,z,RO kE (by rw[cA];omega) rG (fun b6 x fk l fG ay aq=>?_)⟩;have za:=o4.trans (fG.c7 (M':=[p,aQ,aX]) (by simp));have bR:(A1 b.toNat n d h').length<=3:=by
    unfold A1 vI;rw[c9,List.length_replicate];split<;>omega
   refine fin b6 x (i+1) ⟨b.toNat,0,vI b.toNat,n,h',[]⟩ ((A1 b.toNat n d h').reverse++ah) (i0++xs) za (fG _ _ jS (by simpa using fc)) ay (plain aq (by omega)) (by rw[fG _ _ nH (by simpa using bC R.kF),gB]) ?_ ?_ (by omega) yT (by rw[g8,tE];omega) ?_
   .rw[reverse_append,reverse_reverse];refine Si (zH _ za) (bF.Paired.nI (fun y s bu=>?_) SD);exact bu.J8 T fG (fun b ae=>⟨_,by simp at ae;subst ae;exact kE,.inl ⟨_,z⟩⟩)
   .intro s xB;rcases fN.mp xB with q|q
    .rw[List.mem_reverse]at q;unfold A1 at q;rcases dG.mp q with rfl|q
     .rfl
     .rw[List.mem_replicate]at q;rw[q.2]
    .exact rI s q
   .rw[jf nj];have:b.toNat=4\/b.toNat=5\/b.toNat=6\/b.toNat=7\/b.toNat=8\/b.toNat=9:=by omega
    unfold qz;rcases this with aB|aB|aB|aB|aB|aB
    .rw[Z.agw gP aB,aB];rfl
    .rw[Z.agv gP aB,aB];rfl
    .rw[Z.agL gP aB,aB];rfl
    .rw[Z.agB gP aB,aB];rfl
    .rw[Z.agx gP aB,aB];rfl
    .rw[Z.agA gP aB,aB];rfl
  .rw[TR aB];refine nt ?_;refine⟨_,z,z,_,z,fi (fun cP=>?_) (fun cP=>?_)⟩
   ·
    have aT:b.toNat=0:=by have:=gK cP;omega
    refine⟨_,z,p,_,eV,_,_,z,j2,T.gS,T.xN,yk,.inl ⟨z,_,bj.bM kh⟩,_,z,_,z,p,eV,_,z,j2,Uw,p,eV,aC,_,_,_,aR,i+1,z,j2,wg,DS,yT,fun aD bI gi=>?_,fun aD bI gi jS=>?_⟩
    .refine dM ?_ _ (pO.trans (gi.c7 (by simp)));rw[jf nj];exact Z.agK gP aT (by rw[oE];omega)
    .have o4:aV [p,aQ,aX] H bI:=pO.trans (gi.c7 (by simp));have kE:=gi _ _ kh (by simpa using bC fc);have rG:=gi _ _ oY (by simpa using eo);refine⟨_,z,RO kE (by rw[cA];omega) rG (fun b6 x fk l fG ay aq=>?_)⟩;refine fin b6 x (i+1+4) ⟨b.toNat,_,0,n,h',[]⟩ ah i0 (o4.trans (fG.c7 (by simp))) (fG _ _ jS (by simpa using fc)) ay (plain aq (by omega)) (fG _ _ (gi _ _ kj (by simpa using bC ed)) (by simpa using bC R.kF)) (zH _ (o4.trans (fG.c7 (by simp)))) rI (by omega) aD (by omega) ?_;unfold qz;rw[jf nj,Z.agJ gP aT (by rw[oE];omega),drop_drop,aT]
   have qW:b.toNat≠0:=fun I=>cP (by rw[I];rfl);refine⟨_,z,z,_,z,fi (fun ai=>?_) (fun ai=>?_)⟩
   ·
    have aT:b.toNat=11:=by have:=gK ai;omega
    refine⟨_,z,p,_,eV,_,_,z,j2,T.gS,T.xN,yk,.inl ⟨z,_,bj.bM kh⟩,_,z,_,z,_,z,p,eV,aC,iM,uE,bw,_,_,_,_,aR,i+1,n,h',tk,z,j2,DS,yT,wg,eo,oY,rH,R.eY,fun aD bI gi=>?_,fun m aM Ce bI gi=>?_,fun lu m l q Mk aM Ce bI x fk nm b8 dX gi sN Ao jS XQ Mf a9 Cg akF sW=>?_⟩
    .refine dM ?_ _ (pO.trans (gi.c7 (by simp)));rw[jf nj];exact Z.agE gP aT (by rw[oE];omega)
    .refine dM ?_ _ (pO.trans (gi.c7 (by simp)));have aky:i+1+1<aR.length:=(gn.mp aM).1;rw[jf nj,jf (gA (show i+1<aR.length by omega)),jf aM];exact Z.agD gP aT Ce
    .have o4:aV [p,aQ,aX] H bI:=pO.trans (gi.c7 (by simp));have kE:=gi _ _ kh (by simpa using bC fc);refine⟨aQ,_,_,z,z,kE,(by rw[cA];omega),?_⟩;have fG:aV [aQ] bI (V bI aQ (.ak (cR.map aa.ref++[.ref x]))):=aV.refl.V (.inl (by simp));have atM:x≠aQ:=fun I=>by rw[I,kh]at sN;cases sN
     have ZV:nm≠aQ:=fun I=>by rw[I,kh]at Ao;cases Ao
     have anq:p5 a bI [aQ]:=fun b ae=>⟨_,by simp at ae;subst ae;exact kE,.inl ⟨_,z⟩⟩;refine fin _ x dX ⟨11,lu.toNat+1,0,n,h',l⟩ ah i0 (o4.trans (fG.c7 (by simp))) (fG _ _ jS (by simpa using fc)) aP ⟨fk,.ref nm,fG _ _ Cg (by simpa using atM),fun _=>⟨nm,b8,z,?_,fG _ _ akF (by simpa using ZV),sW.keep fG anq.AU⟩⟩ (fG _ _ (gi _ _ kj (by simpa using bC ed)) (by simpa using bC R.kF)) (zH _ (o4.trans (fG.c7 (by simp)))) rI (by omega) Mf (by omega) ?_
     .intro I;simp at I;rcases I with rfl|rfl|rfl|rfl
      .rw[j2]at Ao;cases Ao
      .exact ZV z
      .rw[kj]at Ao;cases Ao
      .rw[rH]at Ao;cases Ao
     .unfold qz;rw[jf nj,jf Mk,jf aM,Z.agC gP aT Ce,a9]
   ·
    have pe:b.toNat≠11:=fun I=>ai (by rw[I];rfl);have aT:b.toNat≠0/\(b.toNat<4\/b.toNat=10\/11<b.toNat):=by omega
    refine⟨_,z,p,_,eV,_,_,z,j2,T.gS,T.xN,yk,.inl ⟨z,_,bj.bM kh⟩,_,z,_,z,_,z,_,z,_,z,p,eV,aC,iM,uE,bw,_,_,_,_,aR,i+1,b.toNat,n,h',tk,z,j2,DS,yT,eo,oY,rH,R.eY,fun e=>?_,fun v a6=>⟨fun kQ=>?_,fun eY=>?_⟩⟩
    .refine dM ?_ _ pO;rw[jf nj,yF e];exact Z.agH gP aT
    .refine dM ?_ _ (pO.V (.inl (by simp)));rw[jf nj,jf a6];exact Z.agG gP aT kQ
    .have QS:i+1<aR.length:=(gn.mp a6).1;have gi:aV [p] a7 (V a7 p (gj a eV aC (.int 64) (.ref aQ) (.ref aX) (i+1+1))):=aV.refl.V (.inl (by simp));have jS:V a7 p (gj a eV aC (.int 64) (.ref aQ) (.ref aX) (i+1+1)) p=some (gj a eV aC (.int 64) (.ref aQ) (.ref aX) (i+1+1)):=aP;generalize V a7 p (gj a eV aC (.int 64) (.ref aQ) (.ref aX) (i+1+1))=bI at gi jS⊢;have o4:aV [p,aQ,aX] H bI:=pO.trans (gi.c7 (by simp));have kE:=gi _ _ kh (by simpa using bC fc);have rG:=gi _ _ oY (by simpa using eo);refine⟨_,z,RO kE (by rw[cA];omega) rG (fun b6 x fk l fG ay aq=>?_)⟩;refine fin b6 x (i+1+1) ⟨b.toNat,v.toNat,0,n,h',[]⟩ ah i0 (o4.trans (fG.c7 (by simp))) (fG _ _ jS (by simpa using fc)) ay (plain aq pe) (fG _ _ (gi _ _ kj (by simpa using bC ed)) (by simpa using bC R.kF)) (zH _ (o4.trans (fG.c7 (by simp)))) rI (by omega) (by omega) (by omega) ?_;unfold qz;rw[jf nj,jf a6,Z.agF gP aT eY]
end
section
variable{P:Program}{w:World}{K:Frag}{az:Str->Option Value}{base:Heap}{a:bU}
def ar7(K:Frag)(a:bU):dj:=fun vs H Q E=>∃(G:aA)(p aC aQ aX bw:Addr)(aR:List UInt8)(i h:Nat)(N:List Z.jl)(tk:List Nat),vs=[.ref p,.int h,.ref bw]/\kA K a G H p aC aQ aX bw aR i N [] tk h/\
 (qz tk h N [⟨0,1,h⟩] (aR.drop i)=none->∀H',aV [p,aQ,aX] H H'->E (.ref a.jD) none H')/\
 (∀(H':aA)(dX:Nat)(iQ:List Z.jl),qz tk h N [⟨0,1,h⟩] (aR.drop i)=some (iQ,aR.drop dX)->aV [p,aQ,aX] H H'->kA K a G H' p aC aQ aX bw aR dX iQ [] tk h->Q .b9 H')
theorem aqS:dP ["reader","home","takes"] ["reader","home","takes"] (cT acz):=by trivial
theorem aam(T:Txt K az a):cZ P w K az base (cW P w) 5 a.I9 a.Ho ["reader","home","takes"] (ar7 K a):=by
 refine T.PG.dZ aqS (fun vs H Q E h=>?_) (fun cJ A outer s H vs Q E aO h=>?_)
 .obtain⟨G,p,aC,aQ,aX,bw,aR,i,h,N,tk,rfl,_⟩:=h;rfl
 .obtain⟨G,p,aC,aQ,aX,bw,aR,i,h,N,tk,rfl,R,dM,k⟩:=h;have b7:sizeLine=16777216:=gU;obtain⟨eE,jS⟩:=R.tn;obtain⟨atG,nH,CL⟩:=R.ya;obtain⟨cR,kE,ef⟩:=R.oi;have ie:atG=[]:=by
   have:=kX CL;simpa using this
  subst ie;refine⟨_,bh (fD (jk gZ k7 lA kU (bG (af 0) z)
    (aE (mE T.Kl (KC T) aO.dw z T.Kg T.FT .nil bZ (aE dc (aE dc (aE (af 1) aY)))) aY)))
   (bl (A0 gT.own (Ni (bG (af 0) z) (fun _=>rfl)) (bl (fD (fU (aoU T) aO.dw z T.am9 T.W0.cN T.af7 .nil bZ (aE (af 0) (aE (af 2) aY))))))),?_⟩
  refine⟨_,z,p,_,eE,_,_,z,jS,T.gS,T.zh,zS,.inl ⟨z,_,bj.bM nH⟩,_,z,?_⟩;refine fun sp bH jy q1 NZ=>⟨sp,bH,_,_,_,z,aP,z,aX,[],_,z,z,?_,(by show 0<sizeLine;omega),?_⟩
  .have fT:aX≠sp:=fun I=>by rw[<-I,nH]at jy;cases jy
   have gb:aX≠bH:=fun I=>by rw[<-I,nH]at q1;cases q1
   rw[aK fT,aK fT,aK gb];exact nH
  have fT:sp≠aX:=fun I=>by rw[I,nH]at jy;cases jy
  generalize B3:V (V (V (V H bH (cI.own sp)) sp (cI.au a.iH bH [])) sp (cI.au a.iH bH (mr (.int 0) (.int 1) (.int h)))) aX (cI.ak ([]++[.ref sp]))=b6;have eo:aV [aX] H b6:=by rw[<-B3];exact(((aV.refl.V (.inr q1)).V (.inr jy)).V (.inr jy)).V (.inl (by simp))
  have Ea:b6 aX=some (.ak [.ref sp]):=by rw[<-B3,aP];rfl
  have uL:b6 sp=some (.au a.iH bH (mr (.int 0) (.int 1) (.int h))):=by rw[<-B3,aK fT,aP]
  have SB:p≠aX:=fQ jS nH (by intro q;cases q);have k3:aV [p,aQ,aX] H b6:=eo.c7 (by simp);have ant:p5 a H [aX]:=fun b ae=>⟨_,by simp at ae;subst ae;exact nH,.inl ⟨_,z⟩⟩;have FJ:kA K a G b6 p aC aQ aX bw aR i N [⟨0,1,h⟩] tk h:=
   ⟨⟨eE,eo _ _ jS (by simpa using SB)⟩,eo.seq (fun I=>R.tM (by simp at I;simp[I])) R.uD,R.le,⟨cR,eo _ _ kE (by simpa using R.kF),bF.Paired.nI (fun y aH bu=>bu.keep T eo ant (by simp)) ef⟩,⟨[sp],Ea,.cons ⟨bH,uL⟩ .nil⟩,eo _ _ R.qX (by simpa using bC R.Bg),by simp,R.eY,R.kF,R.Eu,R.Bg,R.tM,by simp,R.wC,R.A7,fun b ae=>R.qE b (eo.fresh ae (by simp[Ea]))⟩
  refine⟨fun m O H'=>∃(dX:Nat)(iQ:List Z.jl)(ah:List Z.jd),O=[some (.ref p),some (.int h),some (.ref bw)]/\m=aR.length -dX/\aV [p,aQ,aX] H H'/\kA K a G H' p aC aQ aX bw aR dX iQ ah tk h/\qz tk h iQ ah (aR.drop dX)=qz tk h N [⟨0,1,h⟩] (aR.drop i),
   ⟨_,i,N,_,z,z,k3,FJ,z⟩,?_⟩
  rintro m O H' ⟨j,Ut,ah,rfl,rfl,aJ,R,bq⟩;obtain⟨eV,aN⟩:=R.tn;obtain⟨ul,hw,qR⟩:=R.ya;refine⟨_,z,p,_,eV,_,_,z,aN,T.gS,T.zh,zS,_,.inl ⟨_,bj.bM hw,z⟩,?_⟩;cases ah with
  |cons KS ah=>
   have ki:(ul.map aa.ref).isEmpty=false:=by
    have:=kX qR;cases ul with
    |nil=>simp at this
    |cons _ _=>rfl
   rw[ki];refine lY ⟨fun cB j9=>∃(dX:Nat)(iQ:List Z.jl)(gm:List Z.jd),cB=[some (.ref p),some (.int h),some (.ref bw)]/\j<dX/\dX<=aR.length/\aV [p,aQ,aX] H j9/\kA K a G j9 p aC aQ aX bw aR dX iQ gm tk h/\qz tk h iQ gm (aR.drop dX)=qz tk h N [⟨0,1,h⟩] (aR.drop i),?_,?_⟩
   .rintro cB j9 ⟨dX,iQ,gm,rfl,aW,bf,df,e7,k6⟩;exact⟨aR.length -dX,by omega,dX,iQ,gm,z,z,df,e7,k6⟩
   .refine⟨_,z,_,z,G,p,aC,aQ,aX,bw,aR,j,h,Ut,KS,ah,tk,z,R,fun Aw j9 q=>?_,fun j9 dX iQ gm aW bf df e7=>?_⟩
    .exact dM (by rw[<-bq,Aw]) j9 (aJ.trans q)
    .exact⟨dX,iQ,gm,z,df,bf.le,aJ.trans aW,bf,e7.trans bq⟩
  |nil=>
   have ki:(ul.map aa.ref).isEmpty=true:=by
    have:=kX qR;cases ul with
    |nil=>rfl
    |cons _ _=>simp at this
   rw[ki];refine nt ?_;exact k H' j Ut (by rw[<-bq];exact Z.agI) aJ R
def arF(a:bU):dj:=fun vs H Q E=>∃(x dx l bw:Addr)(b5 eX dI dO:aa)(val:Nat)(ns:List aa)(tk:List Nat),vs=[.ref x,.ref bw]/\H x=some (.au a.ip dx (iP b5 (.int val) eX dI dO (.ref l)))/\H l=some (.ak ns)/\H bw=some (.ak (c8 tk))/\
 (tk[val]?≠some ns.length->E (.ref a.jD) none H)/\(tk[val]?=some ns.length->Q .b9 H)
theorem aqC:dP ["node","takes"] ["node","takes"] (cT aci):=by trivial
theorem aox(T:Txt K az a):cZ P w K az base (cW P w) 1 a.IR a.GY ["node","takes"] (arF a):=by
 refine T.WK.dZ aqC (fun vs H Q E h=>?_) (fun cJ A outer s H vs Q E aO h=>?_)
 .obtain⟨x,dx,l,bw,b5,eX,dI,dO,val,ns,tk,rfl,_⟩:=h;rfl
 .obtain⟨x,dx,l,bw,b5,eX,dI,dO,val,ns,tk,rfl,Y,aD,bO,dM,k⟩:=h;refine⟨_,bh (d7 (dN CH (bG (af 0) z) (j3 mu (by rfl) T.mC m3 (aE (af 1) aY)) (dH _)) (bl (qQ gT z T.t6 T.rB)) fH)
   (bl (d7 (dN ao3 (j3 mu (by rfl) T.mC m3 (aE (bG (af 0) z) aY)) (mD nJ (af 1) (bG (af 0) z) (fun _ _=>rfl)) (dH _)) (bl (qQ gT z T.t6 T.rB)) fH)),?_⟩
  refine⟨_,z,x,_,dx,_,_,z,Y,T.gI,T.uP,u9,_,z,bw,_,z,.inl (bj.bM bO),_,_,z,z,_,z,fi (fun h=>?_) (fun h=>?_)⟩
  .rw[jT]at h;exact dM (by rw[Fd (by omega)];intro I;cases I)
  .rw[jT]at h;have a6:val<tk.length:=by omega
   have uJ:nE (c8 tk) (val:Int)=some (aa.int (tk[val]:Nat)):=lD (by unfold c8;rw[h8,gA a6];rfl);refine⟨_,z,x,_,dx,_,_,z,Y,T.gI,T.MM,Og,l,_,z,.inl (bj.bM aD),_,z,_,z,x,_,dx,_,_,z,Y,T.gI,T.uP,u9,bw,_,_,_,z,z,bj.bM bO,uJ,?_⟩;refine⟨z,_,z,?_⟩;by_cases aj:aa.int ((ns.length:Nat):Int)=aa.int ((tk[val]:Nat):Int)
   .rw[Bl aj];refine nt (k ?_);have:=gK aj;rw[gA a6,show tk[val]=ns.length by omega]
   .rw[ye aj];refine lY (dM ?_);rw[gA a6];intro I;exact aj (by rw[j7 I])
def arE(a:bU):dj:=fun vs H Q E=>∃(aQ bw:Addr)(M cR:List Addr)(N:List Z.jl)(tk:List Nat),vs=[.ref aQ,.ref bw]/\H aQ=some (.ak (cR.map aa.ref))/\Paired (tF a M H) cR N/\H bw=some (.ak (c8 tk))/\
 ((¬∀x∈N,Z.pL tk x)->E (.ref a.jD) none H)/\((∀x∈N,Z.pL tk x)->Q .b9 H)
theorem acN:dP ["nodes","takes","node"] ["nodes","takes"] (cT ach):=by trivial
theorem aow(T:Txt K az a):cZ P w K az base (cW P w) 2 a.IQ a.GX ["nodes","takes"] (arE a):=by
 refine T.WJ.dZ acN (fun vs H Q E h=>?_) (fun cJ A outer s H vs Q E aO h=>?_)
 .obtain⟨aQ,bw,M,cR,N,tk,rfl,_⟩:=h;rfl
 .obtain⟨aQ,bw,M,cR,N,tk,rfl,br,ef,bO,dM,k⟩:=h;refine⟨_,bl (vL gT.own z (wI (af 0)) (mF (i:=2) acN.aH z (Or.inl z))
   (bl (d7 (dN e9 (bG (af 2) z) (cH T.Jz) (dH _))
    (bl (fD (fU (aox T) aO z T.amU T.WK.cN T.afS .nil bZ (aE (af 2) (aE (af 1) aY))))) fH))),?_⟩
  refine⟨_,z,aQ,z,⟨_,bj.bM br⟩,?_⟩;refine DN (K:=K) (a:=aQ) (xs:=cR.map aa.ref) (fun j O H'=>∃v:Option aa,O=[some (.ref aQ),some (.ref bw),v]/\H'=H/\∀x∈N.take j,Z.pL tk x) ?_ ?_ ?_ ?_
  .exact⟨none,z,z,fun x Y=>by simp at Y⟩
  .rintro j O H' _ ⟨v,_,rfl,_⟩;exact bj.bM br
  .rintro j y O H' bQ ⟨v,rfl,rfl,g⟩;rw[h8]at bQ;cases e:cR[j]? with
   |none=>rw[e]at bQ;cases bQ
   |some x=>
    rw[e]at bQ;cases bQ;obtain⟨aH,aq,dx,nm,Y,wo⟩:=wH ef e;have LM:N.take (j+1)=N.take j++[aH]:=xY aq;have aM:=jc aq;have go:Z.pL tk aH->∀x∈N.take (j+1),Z.pL tk x:=fun h x Y=>by
     rw[LM]at Y;rcases fN.mp Y with q|q
     .exact g x q
     .rw[mem_singleton.mp q];exact h
    refine⟨_,z,x,_,dx,_,_,z,Y,T.gI,T.qK,q5,z,_,z,fi (fun ai=>?_) (fun ai=>?_)⟩
    .have aJ:aH.kind=11:=by have:=gK ai;omega
     obtain⟨l,b8,rfl,_,aD,sW⟩:=wo aJ;have gv:(b8.map aa.ref).length=aH.names.length:=by rw[cA];exact kX sW
     refine⟨_,z,_,z,x,dx,l,bw,_,_,_,_,aH.value,_,tk,z,Y,aD,bO,fun ae=>?_,fun ae=>?_⟩
     .refine dM (fun I=>?_);obtain⟨t,ay,aq⟩:=I aH aM aJ;rw[gv,aq]at ae;exact ae ay
     .exact⟨_,z,z,go fun _=>⟨_,ae,gv.symm⟩⟩
    .exact⟨_,z,z,go fun I=>absurd (by rw[I];rfl) ai⟩
  .rintro O H' ⟨v,rfl,rfl,g⟩;rw[cA,kX ef,Bm]at g;exact k g
end
section
variable{P:Program}{w:World}{K:Frag}{az:Str->Option Value}{base:Heap}{a:bU}
def arb(C:Addr):dj:=fun vs H Q _=>∃(p dx:Addr)(b5 bL:aa),vs=[.ref p,b5,bL]/\H p=some (.au C dx [])/\Q .b9 (V H p (.au C dx (w4 b5 bL)))
theorem aqk:dP ["self","nodes","takes"] ["self","nodes","takes"] (cT abq):=by trivial
theorem aob(T:Txt K az a):cZ P w K az base (cW P w) 1 a.HM a.F5 ["self","nodes","takes"] (arb a.tO):=by
 refine T.aid.dZ aqk (fun vs H Q E h=>?_) (fun cJ A outer s H vs Q E aO h=>?_)
 .obtain⟨p,dx,b5,bL,rfl,_⟩:=h;rfl
 .obtain⟨p,dx,b5,bL,rfl,aN,k⟩:=h;refine⟨_,bh (f5 (af 0) (af 1) z) (bl (f5 (af 0) (af 2) z)),?_⟩;refine⟨_,z,_,z,p,_,dx,_,z,aN,T.xf,T.RA,(by show 0<1000;decide),?_⟩;refine⟨_,z,_,z,p,_,dx,_,z,aP,T.xf,T.Ct,kZ kY,?_⟩;rw[jz,aei];exact k
theorem kA.aba{G H:aA}{p aC aQ aX bw:Addr}{aR:List UInt8}{i h h':Nat}{N:List Z.jl}{tk:List Nat}(R:kA K a G H p aC aQ aX bw aR i N [] tk h)(ee:h'<tk.length):kA K a G H p aC aQ aX bw aR i N [] tk h':=
 ⟨R.tn,R.uD,R.le,R.oi,R.ya,R.qX,by simp,ee,R.kF,R.Eu,R.Bg,R.tM,R.N6,R.wC,R.A7,R.qE⟩
theorem kA.took{G H H':aA}{p aC aQ aX bw dx:Addr}{aR:List UInt8}{i h t:Nat}{N:List Z.jl}{tk:List Nat}(T:Txt K az a)(R:kA K a G H p aC aQ aX bw aR i N [] tk h)(k:aV [p,bw] H H')
  (aN:H' p=some (gj a dx aC (.int 64) (.ref aQ) (.ref aX) (i+1)))(bO:H' bw=some (.ak (c8 (tk++[t]))))(aF:i<aR.length):kA K a G H' p aC aQ aX bw aR (i+1) N [] (tk++[t]) h:=by
 obtain⟨eV,qf⟩:=R.tn;obtain⟨cR,br,ef⟩:=R.oi;obtain⟨ul,hw,qR⟩:=R.ya;have ed:p≠aX:=fQ qf hw (by intro q;cases q);have fc:p≠aQ:=fQ qf br (by intro q;cases q);have m:p5 a H [p,bw]:=fun b ae=>R.mut b (by simp at ae⊢;rcases ae with h|h<;>simp[h]);have ie:ul=[]:=by
  have:=kX qR;simpa using this
 subst ie;refine⟨⟨dx,aN⟩,k.seq (fun I=>R.tM (by simp at I⊢;rcases I with h|h<;>simp[h])) R.uD,aF,⟨cR,k _ _ br (by simp[bC fc,R.Eu]),bF.Paired.nI (fun y aH bu=>bu.keep T k m (by simp)) ef⟩,⟨[],k _ _ hw (by simp[bC ed,R.Bg]),.nil⟩,bO,by simp,by have:=R.eY;simp;omega,R.kF,R.Eu,R.Bg,R.tM,by simp,by have:=R.wC;omega,R.A7,fun b ae=>R.qE b (k.fresh ae (by simp[aN,bO]))⟩
theorem VA{l:List Cz.Proc}{t j:Nat}(bQ:l.length=j):qz ((0::l.map (·.takes))++[t]) (j+1)=Z.gH true t:=by
 unfold qz;have ay:decide (0<j+1)=true:=by simp
 have aq:((0::l.map (·.takes))++[t]).getD (j+1) 0=t:=by
  rw[mZ,q3 (by simp;omega)];simp[bQ]
 rw[ay,aq]
structure Od(a:bU)(H:aA)(dm:Addr)(c:Cz.Code)(aQ bw:Addr)(cR:List Addr):Prop where
 obj:∃j0,H dm=some (.au a.tO j0 (w4 (.ref aQ) (.ref bw)))
 oi:H aQ=some (.ak (cR.map aa.ref))
 ef:Paired (tF a [] H) cR (Z.fg c.main 0 0++Z.ly c.procs 1)
 qX:H bw=some (.ak (c8 (0::c.procs.map (·.takes))))
 YA:∃aR,Cz.code aR=some c
 cF:cR.length<=8192
def ar6(K:Frag)(a:bU):dj:=fun vs H Q E=>∃(aC:Addr)(aR:List UInt8),vs=[.ref aC]/\Ds H aC (.ak (gM aR))/\aR.length<=100000/\
 (Cz.code aR=none->∀H',be H H'->E (.ref a.jD) none H')/\
 (∀c,Cz.code aR=some c->∀(H':aA)(dm aQ bw:Addr)(cR:List Addr),be H H'->H bw=none->Od a H' dm c aQ bw cR->Q (.ref dm) H')
theorem KY:dP ["data","reader","procedures","takes","procedure"] ["data"] (cT acy):=by trivial
theorem aoR(T:Txt K az a):cZ P w K az base (cW P w) 6 a.I8 a.Hl ["data"] (ar6 K a):=by
 refine T.WY.dZ KY (fun vs H Q E h=>?_) (fun cJ A outer s H vs Q E aO h=>?_)
 .obtain⟨aC,aR,rfl,_⟩:=h;rfl
 .obtain⟨aC,aR,rfl,yR,bR,dM,k⟩:=h;have aG:bj K H aC (gM aR):=.inl yR;have B6:H aC≠none:=by
   rcases yR with q|⟨o,q⟩<;>rw[q]<;>exact fun I=>by cases I
  have b7:sizeLine=16777216:=gU;have nh:(gM aR).length=aR.length:=by unfold gM;rw[cA]
  refine⟨_,bh (d7 (dN AW (j3 mu (by rfl) T.mC m3 (aE (af 0) aY)) (cH T.ajd) (dH _)) (bl (qQ gT z T.t6 T.rB)) fH)
   (bh (dU (i:=1) KY.aH z (Or.inl z) (mE T.Zy (aab T) aO.dw z T.Zk T.U3 .nil bZ (aE (af 0) (aE (cH T.ajg) aY))))
   (bh (dU (i:=2) KY.aH z (Or.inl z) (fU (aas T) aO.dw z T.Zu T.PK.cN T.Vl .nil bZ (aE (af 1) (aE (cH T.ajk) aY))))
   (bh (dU (i:=3) KY.aH z (Or.inl z) (gx (aE dc aY)))
   (bh (fD (fU (aam T) aO.dw z T.Zr T.PG.cN T.Vi .nil bZ (aE (af 1) (aE (cH T.yJ) (aE (af 3) aY)))))
   (bh (vL gT.own z (Nc z T.MV (aE (af 2) aY)) (mF (i:=4) KY.aH z (Or.inl z))
    (bh (fD (jk gZ k7 lA kU (af 3) (aE (fU (aas T) aO.dw z T.Zu T.PK.cN T.Vl .nil bZ (aE (af 1) (aE (cH T.ajl) aY))) aY)))
    (bl (fD (fU (aam T) aO.dw z T.Zr T.PG.cN T.Vi .nil bZ (aE (af 1) (aE (f9 kH (af 4) dc) (aE (af 3) aY))))))))
   (bh (fD (iC (af 1) T.gS T.Y4 (aae T) aO.dw T.U4 .nil bZ))
   (bh (fD (fU (aow T) aO.dw z T.amT T.WJ.cN T.afR .nil bZ (aE (bG (af 1) z) (aE (af 3) aY))))
   (bl (di (mE T.anj (aob T) aO.dw z T.amz T.afn .nil bZ (aE (bG (af 1) z) (aE (af 3) aY)))))))))))),?_⟩
  refine⟨_,z,aC,_,z,.inl aG,_,_,z,z,_,z,fi (fun h=>?_) (fun aL=>?_)⟩
  .exact dM (Z.agZ (by rw[nh]at h;omega)) H (be.refl H)
  rw[nh]at aL;have xC:aR.length<=8192:=by omega
  refine⟨_,z,fun p eE f2 f1 jG=>⟨p,eE,_,_,z,aP,fun aQ aX g1 g2 g3 hU lg=>⟨z,?_⟩⟩⟩;obtain⟨_,g1⟩:=e8 g1;obtain⟨_,g1⟩:=e8 g1;obtain⟨_,g3⟩:=e8 g3;obtain⟨_,g3⟩:=e8 g3;generalize yN:V (V (V (V (V H eE (cI.own p)) p (cI.au a.gW eE [])) aQ (cI.ak [])) aX (cI.ak [])) p (cI.au a.gW eE (gG (.ref aC) (.int 64) (.int 0) (.ref aQ) (.ref aX)))=aI;have aU:be H aI:=by rw[<-yN];exact cj (cj (cj (cj (cj (be.refl H) f1) f2) g1) g3) f2
  have nG:aI p=some (gj a eE aC (.int 64) (.ref aQ) (.ref aX) 0):=by rw[<-yN,aP];rfl
  have JO:aI aQ=some (.ak []):=by rw[<-yN,aK g2,aK (bC lg),aP]
  have wq:aI aX=some (.ak []):=by rw[<-yN,aK hU,aP]
  have wg:aC≠p:=fun I=>B6 (I▸f2);refine⟨_,z,p,eE,aC,_,_,_,aR,0,64,z,nG,aU.seq aG,jV _,fun e=>?_,fun b ae=>⟨fun L7=>?_,fun kQ=>?_⟩⟩
  .have:aR=[]:=List.length_eq_zero_iff.mp e.symm;exact dM (by rw[this];rfl) aI aU
  .obtain⟨r,rfl⟩:∃r,aR=b::r:=⟨aR.drop 1,by have:=jf ae;simpa using this⟩;exact dM (Z.ag0 xC L7) _ (cj aU f2)
  obtain⟨r,rfl⟩:∃r,aR=b::r:=⟨aR.drop 1,by have:=jf ae;simpa using this⟩;have bD:be H (V aI p (gj a eE aC (.int 64) (.ref aQ) (.ref aX) (0+1))):=cj aU f2;have j2:V aI p (gj a eE aC (.int 64) (.ref aQ) (.ref aX) (0+1)) p=some (gj a eE aC (.int 64) (.ref aQ) (.ref aX) (0+1)):=aP;have kh:V aI p (gj a eE aC (.int 64) (.ref aQ) (.ref aX) (0+1)) aQ=some (.ak []):=(aK g2).trans JO;have kj:V aI p (gj a eE aC (.int 64) (.ref aQ) (.ref aX) (0+1)) aX=some (.ak []):=(aK hU).trans wq;generalize V aI p (gj a eE aC (.int 64) (.ref aQ) (.ref aX) (0+1))=a7 at bD j2 kh kj⊢;refine⟨(by show 1<=sizeLine;omega),fun bw qh=>?_⟩;have b4:be a7 (V a7 bw (.ak [aa.int 0])):=cj (be.refl a7) qh;have Mp:V a7 bw (.ak [aa.int 0]) bw=some (.ak (c8 [0])):=aP;have BS:H bw=none:=bD.free qh;generalize V a7 bw (.ak [aa.int 0])=bI at b4 Mp⊢;have wL:=bD.trans b4;have d9:∀b∈[p,aQ,aX,bw],H b=none:=fun b ni=>by
   simp at ni;rcases ni with rfl|rfl|rfl|rfl
   .exact f2
   .exact g1
   .exact g3
   .exact BS
  have FJ:kA K a H bI p aC aQ aX bw (b::r) 1 [] [] [0] 0:=
   ⟨⟨eE,b4 _ _ j2⟩,wL.seq aG,by simp,⟨[],b4 _ _ kh,.nil⟩,⟨[],b4 _ _ kj,.nil⟩,Mp,by simp,by simp,bC lg,(fun I=>by rw[<-I,kh]at qh;cases qh),(fun I=>by rw[<-I,kj]at qh;cases qh),(fun I=>B6 (d9 aC I)),by simp,by simp,by simpa using bR,fun b ni=>wL.free ni⟩
  have keep:∀{H'},aV [p,aQ,aX,bw] bI H'->be H H':=fun{H'}k=>(wL.gh.trans k).same d9;have VC:=Z.agX (n:=b) (r:=r) xC;refine⟨_,z,_,z,H,p,aC,aQ,aX,bw,b::r,1,0,[],[0],z,FJ,fun Aw H' q=>?_,fun b6 Yv at5 L8 jh aeQ=>?_⟩
  .exact dM (VC.1 Aw) H' (keep (q.c7 (by simp)))
  obtain⟨x,vp,akd,rfl⟩:=VC.2 _ _ L8;refine⟨_,z,(b.toNat:Int),z,by omega,(by have:=b.toNat_lt;omega),?_⟩;refine PM (n:=b.toNat) (fun j O H'=>∃(v:Option aa)(i:Nat)(l:List Cz.Proc),O=[some (.ref aC),some (.ref p),some (.int b.toNat),some (.ref bw),v]/\aV [p,aQ,aX,bw] bI H'/\kA K a H H' p aC aQ aX bw (b::r) i (Z.fg x 0 0++Z.ly l 1) [] (0::l.map (·.takes)) 0/\l.length=j/\Z.vt l=true/\
   Cz.code (b::r)=Z.mK x (b.toNat -j) l ((b::r).drop i)) ?_ ?_ ?_
  .exact⟨none,Yv,[],z,jh.c7 (by simp),(by have aeR:kA K a H b6 p aC aQ aX bw (b::r) Yv (Z.fg x 0 0) [] [0] 0:=aeQ;simpa[Z.ly]using aeR),z,z,vp⟩
  .rintro j O H' bQ ⟨v,i,l,rfl,aW,R,aD,Qn,aB⟩;obtain⟨m,HG⟩:∃m,b.toNat -j=m+1:=⟨b.toNat -j -1,by omega⟩;rw[HG]at aB;obtain⟨eV,aN⟩:=R.tn;refine⟨_,z,.inl ⟨z,_,bj.bM R.qX⟩,_,z,p,eV,aC,_,_,_,b::r,i,64,z,aN,R.uD,R.le,fun e=>?_,fun t bO=>⟨fun L7=>?_,fun kQ=>?_⟩⟩
   .exact dM (by rw[aB,yF e];rfl) H' (keep aW)
   .exact dM (by rw[aB,jf bO];exact Z.agQ L7) _ (keep (aW.V (.inl (by simp))))
   have aF:i<(b::r).length:=(gn.mp bO).1;have aa0:p≠bw:=fQ aN R.qX (by intro q;cases q);refine⟨bw,_,_,z,z,(by rw[aK (bC aa0)];exact R.qX),(by rw[jT];simp;omega),?_⟩;have k5:aV [p,bw] H' (V (V H' p (gj a eV aC (.int 64) (.ref aQ) (.ref aX) (i+1))) bw (.ak (c8 (0::l.map (·.takes))++[aa.int t.toNat]))):=(aV.refl.V (.inl (by simp))).V (.inl (by simp));have Ax:V (V H' p (gj a eV aC (.int 64) (.ref aQ) (.ref aX) (i+1))) bw (.ak (c8 (0::l.map (·.takes))++[aa.int t.toNat])) p=some (gj a eV aC (.int 64) (.ref aQ) (.ref aX) (i+1)):=by rw[aK aa0,aP]
   have Yi:V (V H' p (gj a eV aC (.int 64) (.ref aQ) (.ref aX) (i+1))) bw (.ak (c8 (0::l.map (·.takes))++[aa.int t.toNat])) bw=some (.ak (c8 ((0::l.map (·.takes))++[t.toNat]))):=by rw[aP,AP];rfl
   generalize V (V H' p (gj a eV aC (.int 64) (.ref aQ) (.ref aX) (i+1))) bw (.ak (c8 (0::l.map (·.takes))++[aa.int t.toNat]))=H5 at k5 Ax Yi⊢;have aeS:=(R.took T k5 Ax Yi aF).aba (h':=j+1) (by simp;omega);have k6:aV [p,aQ,aX,bw] bI H5:=aW.trans (k5.c7 (by simp));have gR:=Z.agS (x:=x) (m:=m) (l:=l) (t:=t) (r:=(b::r).drop (i+1)) (Z.fg x 0 0++Z.ly l 1) (j+1) Qn kQ;refine⟨_,z,_,z,_,_,z,z,_,z,H,p,aC,aQ,aX,bw,b::r,i+1,j+1,_,_,?_,aeS,fun Aw pZ q=>?_,fun pZ alq at6 L8 Cn aeT=>?_⟩
   .have jg:((0:Int)+(j:Int)+1)=((j+1:Nat):Int):=by omega
    show[aa.ref p,aa.int ((0:Int)+(j:Int)+1),aa.ref bw]=_;rw[jg]
   .rw[VA aD]at Aw;exact dM (by rw[aB,jf bO];exact gR.1 Aw) pZ (keep (k6.trans (q.c7 (by simp))))
   .rw[VA aD]at L8;obtain⟨y,ay,aq,rfl⟩:=gR.2 _ _ L8;refine⟨_,alq,l++[⟨t.toNat,y⟩],z,k6.trans (Cn.c7 (by simp)),?_,by simp[aD],aq,?_⟩
    .have bB:Z.ly (l++[(⟨t.toNat,y⟩:Cz.Proc)]) 1=Z.ly l 1++Z.fg y 0 (j+1):=by
      rw[Z.aaX,aD,add_comm 1 j];simp[Z.ly]
     have dQ:(0::(l++[(⟨t.toNat,y⟩:Cz.Proc)]).map (·.takes):List Nat)=(0::l.map (·.takes))++[t.toNat]:=by simp
     rw[bB,<-Fe,dQ];exact aeT.aba (by simp)
    .rw[aB,jf bO,ay,show b.toNat -(j+1)=m by omega]
  .rintro O H' ⟨v,i,l,rfl,aW,R,aD,Qn,aB⟩;rw[Dc]at aB;obtain⟨eV,aN⟩:=R.tn;obtain⟨cR,br,ef⟩:=R.oi;refine⟨_,z,p,eV,_,z,aN,Uu,p,eV,aC,_,_,_,b::r,i,z,aN,R.uD,fun eY=>?_,fun JK=>?_⟩
   .have ki:(b::r).drop i≠[]:=fun I=>by
     have:=oA List.length I;rw[oE]at this;simp at this eY;omega
    exact dM (by rw[aB];exact Z.agW ki) H' (keep aW)
   have aF:i=(b::r).length:=by have:=R.le;omega
   rw[yF aF]at aB;have uW:=Z.agT (x:=x) (l:=l) (by omega) akd Qn;refine⟨_,z,p,_,eV,_,_,z,aN,T.gS,T.xN,yk,_,z,aQ,bw,_,cR,_,_,z,br,ef,R.qX,fun QC=>?_,fun cG=>?_⟩
   .exact dM (by rw[aB];exact uW.2 QC) H' (keep aW)
   .refine⟨_,z,p,_,eV,_,_,z,aN,T.gS,T.xN,yk,_,z,?_⟩;refine fun dm j0 bL b5 eX=>⟨dm,j0,_,_,z,aP,z,?_⟩;have wM:be H' (V (V (V H' j0 (cI.own dm)) dm (cI.au a.tO j0 [])) dm (cI.au a.tO j0 (w4 (.ref aQ) (.ref bw)))):=cj (cj (cj (be.refl H') b5) bL) bL;refine k ⟨x,l⟩ (by rw[aB];exact uW.1 cG) _ dm aQ bw cR ((keep aW).trans wM) BS ⟨⟨j0,aP⟩,wM _ _ br,bF.Paired.nI (fun y aH bu=>?_) ef,wM _ _ R.qX,⟨b::r,by rw[aB];exact uW.1 cG⟩,?_⟩
    .obtain⟨dx,nm,e,q⟩:=bu;refine⟨dx,nm,wM _ _ e,fun aJ=>?_⟩;obtain⟨l,b8,ay,aq,bB,dQ⟩:=q aJ;exact⟨l,b8,ay,by simp,wM _ _ bB,bF.Paired.nI (fun t y e=>wM _ _ e) dQ⟩
    .rw[kX ef];have:=R.wC;have:=R.le;omega
end
section
variable{P:Program}{w:World}{K:Frag}{az:Str->Option Value}{base:Heap}{a:bU}
def au(l:List Int):List aa:=l.map aa.int
theorem J3(l:List Int):(au l).length=l.length:=by unfold au;rw[cA]
theorem Eb{l:List Int}{i:Nat}{n:Int}(h:l[i]?=some n):(au l)[i]?=some (.int n):=by unfold au;rw[h8,h];rfl
abbrev eA(a:bU)(b3 aC:Addr)(i:Nat):cI:=.au a.m8 b3 (sj (.ref aC) (.int i))
def arc(C:Addr):dj:=fun vs H Q _=>∃(p dx:Addr)(b5:aa),vs=[.ref p,b5]/\H p=some (.au C dx [])/\Q .b9 (V H p (.au C dx (sj b5 (.int 0))))
theorem aqm:dP ["self","numbers"] ["self","numbers"] (cT abu):=by trivial
theorem aoc(T:Txt K az a):cZ P w K az base (cW P w) 1 a.HO a.F8 ["self","numbers"] (arc a.m8):=by
 refine T.aih.dZ aqm (fun vs H Q E h=>?_) (fun cJ A outer s H vs Q E aO h=>?_)
 .obtain⟨p,dx,b5,rfl,_⟩:=h;rfl
 .obtain⟨p,dx,b5,rfl,aN,k⟩:=h;refine⟨_,bh (f5 (af 0) (af 1) z) (bl (f5 (af 0) dc z)),?_⟩;refine⟨_,z,_,z,p,_,dx,_,z,aN,T.lU,T.ML,(by show 0<1000;decide),?_⟩;refine⟨_,z,p,_,dx,_,z,aP,T.lU,T.AJ,kZ kY,?_⟩;rw[jz,aej];exact k
def arA(K:Frag)(a:bU):dj:=fun vs H Q _=>∃(p dx aC:Addr)(l:List Int)(i:Nat),vs=[.ref p]/\H p=some (eA a dx aC i)/\bj K H aC (au l)/\Q (.av (decide (aa.int i=aa.int l.length))) H
theorem aqB:dP ["self"] ["self"] (cT abt):=by trivial
theorem aot(T:Txt K az a):cZ P w K az base (cW P w) 1 a.HN a.F7 ["self"] (arA K a):=by
 refine T.aif.dZ aqB (fun vs H Q E h=>?_) (fun cJ A outer s H vs Q E aO h=>?_)
 .obtain⟨p,dx,aC,l,i,rfl,_⟩:=h;rfl
 .obtain⟨p,dx,aC,l,i,rfl,aN,aG,k⟩:=h;refine⟨_,bl (di (aaK e9 (bG (af 0) z) (j3 mu (by rfl) T.mC m3 (aE (bG (af 0) z) aY)) (dH _))),?_⟩;refine⟨_,z,p,_,dx,_,_,z,aN,T.lU,T.AJ,Fq,_,z,p,_,dx,_,_,z,aN,T.lU,T.ML,Of,aC,_,z,.inl aG,z,?_⟩;rw[J3];exact k
def arJ(K:Frag)(a:bU):dj:=fun vs H Q _=>∃(p dx aC:Addr)(l:List Int)(i:Nat)(n:Int),vs=[.ref p]/\H p=some (eA a dx aC i)/\bj K H aC (au l)/\l[i]?=some n/\Q (.int n) (V H p (eA a dx aC (i+1)))
theorem acO:dP ["self","number"] ["self"] (cT abv):=by trivial
theorem CD(T:Txt K az a):cZ P w K az base (cW P w) 1 a.HP a.F9 ["self"] (arJ K a):=by
 refine T.aii.dZ acO (fun vs H Q E h=>?_) (fun cJ A outer s H vs Q E aO h=>?_)
 .obtain⟨p,dx,aC,l,i,n,rfl,_⟩:=h;rfl
 .obtain⟨p,dx,aC,l,i,n,rfl,aN,aG,br,k⟩:=h;refine⟨_,bh (dU (i:=1) acO.aH z (Or.inl z) (mD nJ (bG (af 0) z) (bG (af 0) z) (fun _ _=>rfl)))
   (bh (f5 (af 0) (f9 kH (bG (af 0) z) dc) z) (bl (di (af 1)))),?_⟩
  refine⟨_,z,p,_,dx,_,_,z,aN,T.lU,T.ML,Of,_,z,p,_,dx,_,_,z,aN,T.lU,T.AJ,Fq,aC,_,_,_,z,z,aG,lD (v:=aa.int n) (Eb br),?_⟩;refine⟨_,z,p,_,dx,_,_,z,aN,T.lU,T.AJ,Fq,_,_,z,z,_,z,p,_,dx,_,z,aN,T.lU,T.AJ,(by show 2<1000;decide),?_⟩;refine⟨_,z,?_⟩;rw[UF];exact k
theorem ag5(xs:List aa){b n:Nat}(h:b+n<=xs.length):xj xs (some (b:Int)) (some (((b+n:Nat)):Int))=(xs.drop b).take n:=by
 unfold xj;have ay:min b xs.length=b:=by omega
 have aq:min (b+n) xs.length=b+n:=by omega
 rw[nB.Nx,nB.Nx,ay,aq,Nat.add_sub_cancel_left]
theorem S9:dP ["self","count","begin"] ["self"] (cT abw):=by trivial
def arv(K:Frag)(a:bU):dj:=fun vs H Q _=>∃(aC:Addr)(aR:List UInt8),vs=[.ref aC]/\H aC=some (.ak (gM aR))/\aR.length<=100000/\∀H' q,be H H'->H q=none->H' q=some (.ak [.int (if (Cz.program aR).isSome=true then 1 else 0)])->Q (.ref q) H'
theorem aqz:dP ["data"] ["data"] (cT ab7):=by trivial
theorem aoo(T:Txt K az a):cZ P w K az base (cW P w) 7 a.IE a.GN ["data"] (arv K a):=by
 refine T.WA.dZ aqz (fun vs H Q E h=>?_) (fun cJ A outer s H vs Q E aO h=>?_)
 .obtain⟨aC,aR,rfl,_⟩:=h;rfl
 .obtain⟨aC,aR,rfl,aG,bR,k⟩:=h;have b7:sizeLine=16777216:=gU;refine⟨_,bh (Sw gT (fun eK pl Fo Y=>bl (fD (fU (M5 T) aO z T.MI T.Jm.cN T.LA .nil Y (aE (af 0) aY))))
    (api z T.t6 T.rB (fun x=>bl (di (gx (aE dc aY)))) Sp))
   (bl (di (gx (aE dc aY)))),?_⟩
  refine⟨fun c d H'=>c=.ref a.jD/\d=none/\be H H'/\Cz.program aR=none,?_,?_⟩
  .refine⟨_,z,aC,aR,z,.inl aG,bR,fun e H' aU=>⟨z,z,aU,e⟩,fun t nF H' fR aQ av cR xs cg aU ek=>?_⟩;refine⟨(by show 1<=sizeLine;omega),fun q a9=>k _ q (cj aU (aU.free a9)) (aU.free a9) ?_⟩;rw[aP,nF];rfl
  .rintro c d H' ⟨rfl,rfl,aU,e⟩;refine⟨a.jD,none,z,T.rB,fun cB aD=>?_⟩;unfold Tw;rw[bT z];refine⟨(by show 1<=sizeLine;omega),fun q a9=>k _ q (cj aU (aU.free a9)) (aU.free a9) ?_⟩;rw[aP,e];rfl
def ary(K:Frag)(a:bU):dj:=fun vs H Q E=>∃(aC:Addr)(aR:List UInt8),vs=[.ref aC]/\H aC=some (.ak (gM aR))/\aR.length<=100000/\(Cz.program aR=none->∀H',be H H'->E (.ref a.jD) none H')/\
 ∀t,Cz.program aR=some t->∀H' q,be H H'->H q=none->H' q=some (.ak (c8 ((xh t).length::xh t)))->Q (.ref q) H'
theorem acM:dP ["data","code"] ["data"] (cT ab8):=by trivial
theorem aor(T:Txt K az a):cZ P w K az base (cW P w) 7 a.II a.GQ ["data"] (ary K a):=by
 refine T.WD.dZ acM (fun vs H Q E h=>?_) (fun cJ A outer s H vs Q E aO h=>?_)
 .obtain⟨aC,aR,rfl,_⟩:=h;rfl
 .obtain⟨aC,aR,rfl,aG,bR,dM,k⟩:=h;have b7:sizeLine=16777216:=gU;refine⟨_,bh (dU (i:=1) acM.aH z (Or.inl z) (fU (aoq T) aO.dw z T.amN T.WC.cN T.afL .nil bZ (aE (fU (M5 T) aO z T.MI T.Jm.cN T.LA .nil bZ (aE (af 0) aY)) aY)))
   (bl (di (f9 CG (gx (aE (j3 mu (by rfl) T.mC m3 (aE (af 1) aY)) aY)) (af 1)))),?_⟩
  refine⟨_,z,aC,aR,z,.inl aG,bR,dM,fun t nF aI fR aQ av cR xs cg aU ek=>?_⟩;refine⟨fR,aQ,av,t,cR,xs,cg,z,ek,fun a7 c bD aB aj=>?_⟩;have vN:=aU.trans bD;refine⟨_,z,c,_,z,.inl (bj.bM aj),(by show 1<=sizeLine;omega),fun q a9=>?_⟩;have KP:c≠q:=fun I=>by rw[<-I,aj]at a9;cases a9
  have KQ:∀i,(Z.oM t i).length<=134144:=fun i=>by
   have fine:=Z.OI t ek.ah ek.eE;have:=Nt (Z.cU t 0 0 1) (fun _=>[]) 0 (fun x Y=>MY (own:=Z.ownB (Z.ic t)) (fine x Y)) (fun _=>dW _) i;have Ce:=ek.cF;unfold Z.oM;omega
  have gv:(xh t).length<=8719425:=by
   rw[<-VL ek.ah ek.eE ek.fn];have ai:=O1 KQ t.fns;have aj:(t.fns+1)*(134144+1)<=65*(134144+1):=Nat.mul_le_mul (by have:=ek.fn;omega) (dW _);exact i3 ai aj
  refine⟨_,z,q,c,_,_,z,z,aP,(by rw[aK KP];exact aj),?_,fun r jq=>?_⟩
  .have jg:=jT (xh t);show 1+(c8 (xh t)).length<=_;omega
  .obtain⟨_,gQ⟩:=e8 jq;refine k t nF _ r (cj (cj vN (vN.free a9)) (vN.free gQ)) (vN.free gQ) ?_;rw[aP,jT];rfl
def asp(K:Frag)(a:bU):dj:=fun vs H Q E=>∃(aC:Addr)(aR:List UInt8),vs=[.ref aC]/\H aC=some (.ak (gM aR))/\aR.length<=100000/\(Cz.program aR=none->∀H',be H H'->E (.ref a.jD) none H')/\
 ∀t,Cz.program aR=some t->∀H' q,be H H'->H q=none->H' q=some (.ak (c8 ((nQ t).length::nQ t)))->Q (.ref q) H'
theorem acZ:dP ["data","takes"] ["data"] (cT acI):=by trivial
theorem aoZ(T:Txt K az a):cZ P w K az base (cW P w) 7 a.Ji a.Hy ["data"] (asp K a):=by
 refine T.W4.dZ acZ (fun vs H Q E h=>?_) (fun cJ A outer s H vs Q E aO h=>?_)
 .obtain⟨aC,aR,rfl,_⟩:=h;rfl
 .obtain⟨aC,aR,rfl,aG,bR,dM,k⟩:=h;have b7:sizeLine=16777216:=gU;refine⟨_,bh (dU (i:=1) acZ.aH z (Or.inl z) (fU (aat T) aO.dw z T.Zv T.PL.cN T.Vm .nil bZ (aE (fU (M5 T) aO z T.MI T.Jm.cN T.LA .nil bZ (aE (af 0) aY)) aY)))
   (bl (di (f9 CG (gx (aE (j3 mu (by rfl) T.mC m3 (aE (af 1) aY)) aY)) (af 1)))),?_⟩
  refine⟨_,z,aC,aR,z,.inl aG,bR,dM,fun t nF aI fR aQ av cR xs cg aU ek=>?_⟩;refine⟨fR,aQ,av,t,cR,xs,cg,z,ek,fun a7 c bD aB aj=>?_⟩;have vN:=aU.trans bD;have bq:=ek.fn;refine⟨_,z,c,_,z,.inl (bj.bM aj),(by show 1<=sizeLine;omega),fun q a9=>?_⟩;have KP:c≠q:=fun I=>by rw[<-I,aj]at a9;cases a9
  refine⟨_,z,q,c,_,_,z,z,aP,(by rw[aK KP];exact aj),?_,fun r jq=>?_⟩
  .have jg:=jT (nQ t);have jF:=CY t;show 1+(c8 (nQ t)).length<=_;omega
  .obtain⟨_,gQ⟩:=e8 jq;refine k t nF _ r (cj (cj vN (vN.free a9)) (vN.free gQ)) (vN.free gQ) ?_;rw[aP,jT];rfl
end
end Cl
namespace Cl
open PySem PySem.Spec PyProof.Rows bF
section
variable{P:Program}{w:World}{K:Frag}{az:Str->Option Value}{base:Heap}{a:bU}
def aq9(C:Addr):dj:=fun vs H Q _=>∃(p dx:Addr)(b5 bL eX:aa),vs=[.ref p,b5,bL,eX]/\H p=some (.au C dx [])/\Q .b9 (V H p (.au C dx (pA b5 bL eX)))
theorem aqi:dP ["self","steps","own","cells"] ["self","steps","own","cells"] (cT abo):=by trivial
theorem Z9(T:Txt K az a):cZ P w K az base (cW P w) 1 a.HK a.F3 ["self","steps","own","cells"] (aq9 a.p9):=by
 refine T.aib.dZ aqi (fun vs H Q E h=>?_) (fun cJ A outer s H vs Q E aO h=>?_)
 .obtain⟨p,dx,b5,bL,eX,rfl,_⟩:=h;rfl
 .obtain⟨p,dx,b5,bL,eX,rfl,aN,k⟩:=h;refine⟨_,bh (f5 (af 0) (af 1) z) (bh (f5 (af 0) (af 2) z) (bl (f5 (af 0) (af 3) z))),?_⟩;refine⟨_,z,_,z,p,_,dx,_,z,aN,T.xe,T.Rx,(by show 0<1000;decide),?_⟩;refine⟨_,z,_,z,p,_,dx,_,z,aP,T.xe,T.ZG,(kZ kY),?_⟩;refine⟨_,z,_,z,p,_,dx,_,z,aP,T.xe,T.Kp,(kZ (pl kY)),?_⟩;rw[jz,jz,aeg];exact k
def arl(C:Addr):dj:=fun vs H Q _=>∃(p dx:Addr)(b5:aa),vs=[.ref p,b5]/\H p=some (.au C dx [])/\Q .b9 (V H p (.au C dx (q6 b5 (.int 0) (.int 0))))
theorem aqu:dP ["self","node"] ["self","node"] (cT abT):=by trivial
theorem aog(T:Txt K az a):cZ P w K az base (cW P w) 1 a.Il a.Gz ["self","node"] (arl a.oQ):=by
 refine T.aiG.dZ aqu (fun vs H Q E h=>?_) (fun cJ A outer s H vs Q E aO h=>?_)
 .obtain⟨p,dx,b5,rfl,_⟩:=h;rfl
 .obtain⟨p,dx,b5,rfl,aN,k⟩:=h;refine⟨_,bh (f5 (af 0) (af 1) z) (bh (f5 (af 0) dc z) (bl (f5 (af 0) dc z))),?_⟩;refine⟨_,z,_,z,p,_,dx,_,z,aN,T.qb,T.MQ,(by show 0<1000;decide),?_⟩;refine⟨_,z,p,_,dx,_,z,aP,T.qb,T.AM,(kZ kY),?_⟩;refine⟨_,z,p,_,dx,_,z,aP,T.qb,T.Es,(kZ (pl kY)),?_⟩;rw[jz,jz,aer];exact k
def arf(C:Addr):dj:=fun vs H Q _=>∃(p dx:Addr)(b5 bL:aa),vs=[.ref p,b5,bL]/\H p=some (.au C dx [])/\Q .b9 (V H p (.au C dx (u7 b5 bL)))
theorem aqo:dP ["self","block","known"] ["self","block","known"] (cT abI):=by trivial
theorem aoe(T:Txt K az a):cZ P w K az base (cW P w) 1 a.H8 a.Gm ["self","block","known"] (arf a.n6):=by
 refine T.aiv.dZ aqo (fun vs H Q E h=>?_) (fun cJ A outer s H vs Q E aO h=>?_)
 .obtain⟨p,dx,b5,bL,rfl,_⟩:=h;rfl
 .obtain⟨p,dx,b5,bL,rfl,aN,k⟩:=h;refine⟨_,bh (f5 (af 0) (af 1) z) (bl (f5 (af 0) (af 2) z)),?_⟩;refine⟨_,z,_,z,p,_,dx,_,z,aN,T.uC,T.RB,(by show 0<1000;decide),?_⟩;refine⟨_,z,_,z,p,_,dx,_,z,aP,T.uC,T.RC,(kZ kY),?_⟩;rw[jz,ael];exact k
def arj(C:Addr):dj:=fun vs H Q _=>∃(p dx:Addr)(b5 bL:aa),vs=[.ref p,b5,bL]/\H p=some (.au C dx [])/\Q .b9 (V H p (.au C dx (oG b5 bL (.int 0))))
theorem aqs:dP ["self","steps","known"] ["self","steps","known"] (cT abR):=by trivial
theorem aac(T:Txt K az a):cZ P w K az base (cW P w) 1 a.Ij a.Gx ["self","steps","known"] (arj a.kC):=by
 refine T.aiE.dZ aqs (fun vs H Q E h=>?_) (fun cJ A outer s H vs Q E aO h=>?_)
 .obtain⟨p,dx,b5,bL,rfl,_⟩:=h;rfl
 .obtain⟨p,dx,b5,bL,rfl,aN,k⟩:=h;refine⟨_,bh (f5 (af 0) (af 1) z) (bh (f5 (af 0) (af 2) z) (bl (f5 (af 0) dc z))),?_⟩;refine⟨_,z,_,z,p,_,dx,_,z,aN,T.BK,T.ZJ,(by show 0<1000;decide),?_⟩;refine⟨_,z,_,z,p,_,dx,_,z,aP,T.BK,T.ZI,(kZ kY),?_⟩;refine⟨_,z,p,_,dx,_,z,aP,T.BK,T.RE,(kZ (pl kY)),?_⟩;rw[jz,jz,aep];exact k
def arn(C:Addr):dj:=fun vs H Q _=>∃(p dx:Addr)(b5:aa),vs=[.ref p,b5]/\H p=some (.au C dx [])/\Q .b9 (V H p (.au C dx (fX b5 (.int 0) (.int 0) (.int 0) .b9)))
theorem aqv:dP ["self","blocks"] ["self","blocks"] (cT abX):=by trivial
theorem aad(T:Txt K az a):cZ P w K az base (cW P w) 1 a.Iq a.GD ["self","blocks"] (arn a.fK):=by
 refine T.aiK.dZ aqv (fun vs H Q E h=>?_) (fun cJ A outer s H vs Q E aO h=>?_)
 .obtain⟨p,dx,b5,rfl,_⟩:=h;rfl
 .obtain⟨p,dx,b5,rfl,aN,k⟩:=h;refine⟨_,bh (f5 (af 0) (af 1) z) (bh (f5 (af 0) dc z) (bh (f5 (af 0) dc z) (bh (f5 (af 0) dc z) (bl (f5 (af 0) EF z))))),?_⟩;refine⟨_,z,_,z,p,_,dx,_,z,aN,T.gX,T.Et,(by show 0<1000;decide),?_⟩;refine⟨_,z,p,_,dx,_,z,aP,T.gX,T.RG,(kZ kY),?_⟩;refine⟨_,z,p,_,dx,_,z,aP,T.gX,T.AN,(kZ (pl kY)),?_⟩;refine⟨_,z,p,_,dx,_,z,aP,T.gX,T.AO,(kZ (pl (pl kY))),?_⟩;refine⟨_,z,p,_,dx,_,z,aP,T.gX,T.wA,(kZ (pl (pl (pl kY)))),?_⟩;rw[jz,jz,jz,jz,aes];exact k
def ard(C:Addr):dj:=fun vs H Q _=>∃(p dx:Addr),vs=[.ref p]/\H p=some (.au C dx [])/\Q .b9 (V H p (.au C dx (i4 .b9 .b9)))
theorem aqn:dP ["self"] ["self"] (cT abA):=by trivial
theorem aod(T:Txt K az a):cZ P w K az base (cW P w) 1 a.HU a.Ge ["self"] (ard a.g9):=by
 refine T.ain.dZ aqn (fun vs H Q E h=>?_) (fun cJ A outer s H vs Q E aO h=>?_)
 .obtain⟨p,dx,rfl,_⟩:=h;rfl
 .obtain⟨p,dx,rfl,aN,k⟩:=h;refine⟨_,bh (f5 (af 0) EF z) (bl (f5 (af 0) EF z)),?_⟩;refine⟨_,z,p,_,dx,_,z,aN,T.jE,T.Cu,(by show 0<1000;decide),?_⟩;refine⟨_,z,p,_,dx,_,z,aP,T.jE,T.wz,(kZ kY),?_⟩;rw[jz,aek];exact k
theorem aql:dP ["self","fault"] ["self","fault"] (cT abr):=by trivial
theorem EA(T:Txt K az a):cZ P w K az base (cW P w) 1 a.BQ a.F6 ["self","fault"] (NN a.sH "fault"):=by
 refine T.aie.dZ aql (fun vs H Q E h=>?_) (fun cJ A outer s H vs Q E aO h=>?_)
 .obtain⟨e,v,rfl,_⟩:=h;rfl
 .obtain⟨e,v,rfl,cz,k⟩:=h;refine⟨_,bl (apn (C:=a.sH) (af 0) (af 1) z),?_⟩;exact⟨_,z,_,z,e,_,z,cz,T.Bh,k⟩
end
theorem BF:bootBuiltins "isinstance"=some (.builtin "isinstance"):=by rfl
theorem BE:bootBuiltins "int"=some (.type "int"):=by rfl
theorem agi:bootBuiltins "list"=some (.type "list"):=by rfl
def sX(C:Addr)(H:aA)(v:aa)(b:Bool):Prop:=(b=true/\∃i,v=.int i)\/(b=false/\∃p dx bA,v=.ref p/\H p=some (.au C dx bA))
theorem BJ{X:cQ}{C:Addr}(cX:Os X.K C)(cl:lP X.K C):Bo X (.builtin "isinstance") (fun xs H Q=>∃x b,xs=[x,.jx "int"]/\sX C H x b/\Q (.av b) H):=by
 intro ao s O H xs us Q J r h;obtain⟨x,b,rfl,ae,q⟩:=h;refine agp ao s O H _ us Q J r ⟨x,C,z,cX,?_⟩;rcases ae with⟨rfl,i,rfl⟩|⟨rfl,p,dx,bA,rfl,e⟩
 .exact .inl ⟨i,z,q⟩
 .exact .inr ⟨p,dx,bA,z,e,cl,q⟩
def zV(a:bU)(E:jQ)(H:aA)(c:Nat):Prop:=∀d,H d=none->E (.ref a.sH) (some d) (V H d (.pW [("fault",.int (c:Int))]))
section
variable{P:Program}{w:World}{K:Frag}{az:Str->Option Value}{base:Heap}{a:bU}
def asj:dj:=fun vs H Q _=>∃n:Nat,vs=[.int n]/\Q (.int (Cz.signed n)) H
theorem aqW:dP ["number"] ["number"] (cT acG):=by trivial
theorem aar(T:Txt K az a):cZ P w K az base (cW P w) 1 a.Jg a.Hw ["number"] asj:=by
 refine T.PJ.dZ aqW (fun vs H Q E h=>?_) (fun cJ A outer s H vs Q E aO h=>?_)
 .obtain⟨n,rfl,_⟩:=h;rfl
 .obtain⟨n,rfl,k⟩:=h;refine⟨_,bl (di (AX (dN CH (af 0) (cH T.ajr) (dH _)) (f9 uc (af 0) (cH T.PW)) (af 0))),?_⟩;refine⟨_,z,_,_,z,z,_,z,fi (fun h=>⟨_,z,_,_,z,z,?_⟩) (fun h=>⟨_,z,?_⟩)⟩
  .have e:Cz.signed n=(n:Int) -4294967296:=by unfold Cz.signed;rw[bz (by omega)];rfl
   rw[e]at k;exact k
  .have e:Cz.signed n=(n:Int):=by unfold Cz.signed;rw[bT (by omega)]
   rw[e]at k;exact k
def ar0(a:bU):dj:=fun vs H Q E=>∃v b,vs=[v]/\sX a.n6 H v b/\(b=true->Q v H)/\(b=false->zV a E H 2)
theorem aqP:dP ["value"] ["value"] (cT acu):=by trivial
theorem aoM(T:Txt K az a):cZ P w K az base (cW P w) 3 a.I4 a.Hg ["value"] (ar0 a):=by
 refine T.WV.dZ aqP (fun vs H Q E h=>?_) (fun cJ A outer s H vs Q E aO h=>?_)
 .obtain⟨v,b,rfl,_⟩:=h;rfl
 .obtain⟨v,b,rfl,ae,k,dM⟩:=h;refine⟨_,bh (d7 (Nh (vM (j3 (BJ T.Cj T.uC) (by rfl) T.Cx BF (aE (af 0) (aE (CI (v:=.jx "int") (by rfl) T.Cw BE z) aY)))))
    (bl (EH gT z T.Cp T.Bh T.Ed T.Ei (EA T) aO T.Dw (aE (cH T.P3) aY))) fH)
   (bl (di (af 0))),?_⟩
  refine⟨_,z,v,b,z,ae,b,z,?_⟩;cases b with
  |true=>exact nt ⟨_,z,k z⟩
  |false=>exact lY ⟨_,z,dM z⟩
def ase(a:bU):dj:=fun vs H Q E=>∃(bW:Nat)(x y:aa),vs=[.int bW,x,y]/\5<=bW/\bW<=7/\((∃m n:Nat,x=.int m/\y=.int n/\n<Cz.WORD/\Q (.int (Z.ua bW m n:Nat)) H)\/∃b c,sX a.n6 H x b/\sX a.n6 H y c/\(b&&c)=false/\zV a E H 2)
theorem aqT:dP ["kind","first","second"] ["kind","first","second"] (cT acF):=by trivial
theorem aoW(T:Txt K az a):cZ P w K az base (cW P w) 3 a.Jf a.Hv ["kind","first","second"] (ase a):=by
 refine T.W3.dZ aqT (fun vs H Q E h=>?_) (fun cJ A outer s H vs Q E aO h=>?_)
 .obtain⟨bW,x,y,rfl,_⟩:=h;rfl
 .obtain⟨bW,x,y,rfl,k5,YG,h⟩:=h;refine⟨_,bh (d7 (KN (Nh (vM (j3 (BJ T.Cj T.uC) (by rfl) T.Cx BF (aE (af 1) (aE (CI (v:=.jx "int") (by rfl) T.Cw BE z) aY)))))
     (KO (Nh (vM (j3 (BJ T.Cj T.uC) (by rfl) T.Cx BF (aE (af 2) (aE (CI (v:=.jx "int") (by rfl) T.Cw BE z) aY))))))).s9
    (bl (EH gT z T.Cp T.Bh T.Ed T.Ei (EA T) aO T.Dw (aE (cH T.P3) aY))) fH)
   (bh (d7 (dN e9 (af 0) (cH T.ajs) (dH _)) (bl (di (f9 aaz (f9 kH (af 1) (af 2)) (cH T.PW)))) fH)
   (bh (d7 (dN e9 (af 0) (cH T.aja) (dH _)) (bl (di (f9 aaz (f9 uc (af 1) (af 2)) (cH T.PW)))) fH)
   (bl (di (AX (dN KD (fU (aar T) aO.dw z T.Zt T.PJ.cN T.Vk .nil bZ (aE (af 1) aY))
    (fU (aar T) aO.dw z T.Zt T.PJ.cN T.Vk .nil bZ (aE (af 2) aY)) (dH _)) dc dc))))),?_⟩
  rcases h with⟨m,n,rfl,rfl,br,k⟩|⟨b,c,ae,aB,ajV,dM⟩
  .refine⟨_,z,_,true,z,.inl ⟨z,_,z⟩,true,z,nt ⟨_,z,_,true,z,.inl ⟨z,_,z⟩,true,z,nt ?_⟩⟩;have V4:Cz.WORD=4294967296:=rfl;refine⟨_,z,z,_,z,fi (fun i7=>?_) (fun i7=>?_)⟩
   .have:bW=5:=by have:=gK i7;omega
    subst this;refine⟨_,z,_,z,_,_,z,z,_,_,z,z,(by show(0:Int)<4294967296;decide),?_⟩;have e:(((m:Int)+(n:Int))%4294967296)=((Z.ua 5 m n:Nat):Int):=by
     show _=((Cz.plus m n:Nat):Int);unfold Cz.plus;rw[V4];omega
    show Q (.int (((m:Int)+(n:Int))%4294967296)) H;rw[e];exact k
   .refine⟨_,z,z,_,z,fi (fun sR=>?_) (fun sR=>?_)⟩
    .have:bW=6:=by have:=gK sR;omega
     subst this;refine⟨_,z,_,z,_,_,z,z,_,_,z,z,(by show(0:Int)<4294967296;decide),?_⟩;have e:(((m:Int) -(n:Int))%4294967296)=((Z.ua 6 m n:Nat):Int):=by
      show _=((Cz.minus m n:Nat):Int);unfold Cz.minus;have Mh:n<4294967296:=br;rw[V4];omega
     show Q (.int (((m:Int) -(n:Int))%4294967296)) H;rw[e];exact k
    .have Kn:bW≠5:=fun I=>i7 (by rw[I];rfl);have au2:bW≠6:=fun I=>sR (by rw[I];rfl);have:bW=7:=by omega
     subst this;refine⟨_,z,m,z,_,z,n,z,_,_,z,z,_,z,fi (fun h=>?_) (fun h=>?_)⟩
     .have e:Z.ua 7 m n=1:=by show Cz.less m n=1;unfold Cz.less;rw[bT h]
      rw[e]at k;exact k
     .have e:Z.ua 7 m n=0:=by show Cz.less m n=0;unfold Cz.less;rw[bz h]
      rw[e]at k;exact k
  .refine⟨_,z,x,b,z,ae,b,z,?_⟩;cases b with
   |false=>exact lY (lY ⟨_,z,dM⟩)
   |true=>
    cases c with
    |true=>cases ajV
    |false=>exact nt ⟨_,z,y,false,z,aB,false,z,lY ⟨_,z,dM⟩⟩
end
mutual
inductive pG(a:bU)(bx:List Addr)(G:aA):aa->Z.eH->Prop
 |num (x:Nat):pG a bx G (.int (x:Int)) (.num x)
 |fn {p dx l bV:Addr} {b:Nat} {vs:List aa} {kn:List Z.eH}:G p=some (.au a.n6 dx (u7 (.ref bV) (.ref l)))->bx[b]?=some bV->G l=some (.ak vs)->g6 a bx G vs kn->pG a bx G (.ref p) (.fn b kn)
inductive g6(a:bU)(bx:List Addr)(G:aA):List aa->List Z.eH->Prop
 |nil:g6 a bx G [] []
 |cons {v x vs xs}:pG a bx G v x->g6 a bx G vs xs->g6 a bx G (v::vs) (x::xs)
end
section
variable{a:bU}{bx:List Addr}{G eg H:aA}
mutual
theorem pG.keep(s:be G eg):∀{v x},pG a bx G v x->pG a bx eg v x
 |_,_,.num x=>.num x
 |_,_,.fn ai aj bN ez=>.fn (s _ _ ai) aj (s _ _ bN) (g6.keep s ez)
theorem g6.keep(s:be G eg):∀{vs xs},g6 a bx G vs xs->g6 a bx eg vs xs
 |_,_,.nil=>.nil
 |_,_,.cons h t=>.cons (pG.keep s h) (g6.keep s t)
end
theorem g6.len:∀{vs xs},g6 a bx G vs xs->vs.length=xs.length
 |_,_,.nil=>rfl
 |_,_,.cons _ t=>by rw[c9,c9,g6.len t]
theorem g6.get:∀{vs xs},g6 a bx G vs xs->∀{i:Nat}{x},xs[i]?=some x->∃v,vs[i]?=some v/\pG a bx G v x
 |_,_,.nil,i,x,e=>by simp at e
 |_,_,.cons h t,0,x,e=>by simp at e;subst e;exact⟨_,z,h⟩
 |_,_,.cons h t,i+1,x,e=>by
  obtain⟨v,aq,aj⟩:=g6.get t (i:=i) (by simpa using e);exact⟨v,by simpa using aq,aj⟩
theorem g6.append:∀{vs xs ah ys},g6 a bx G vs xs->g6 a bx G ah ys->g6 a bx G (vs++ah) (xs++ys)
 |_,_,_,_,.nil,h=>h
 |_,_,_,_,.cons h t,k=>.cons h (g6.append t k)
theorem g6.pQ{v x}(h:pG a bx G v x):g6 a bx G [v] [x]:=.cons h .nil
theorem g6.split:∀{xs vs ys},g6 a bx G vs (xs++ys)->∃l r,vs=l++r/\g6 a bx G l xs/\g6 a bx G r ys
 |[],vs,ys,h=>⟨[],vs,z,.nil,h⟩
 |x::xs,_,ys,.cons h t=>by
  obtain⟨l,r,e,ai,aj⟩:=g6.split (xs:=xs) t;exact⟨_::l,r,by rw[e];rfl,.cons h ai,aj⟩
theorem g6.push{vs xs v x}(h:g6 a bx G vs xs.reverse)(k:pG a bx G v x):g6 a bx G (vs++[v]) (x::xs).reverse:=by
 rw[zL];exact h.append (.pQ k)
theorem g6.dg{vs x xs}(h:g6 a bx G vs (x::xs).reverse):∃l v,vs=l++[v]/\g6 a bx G l xs.reverse/\pG a bx G v x:=by
 rw[zL]at h;obtain⟨l,r,rfl,ai,aj⟩:=g6.split h;cases aj with
 |cons aj t=>
  cases t;exact⟨l,_,z,ai,aj⟩
theorem pG.sX(s:be G H){v x}(h:pG a bx G v x):sX a.n6 H v (!x.isFn):=by
 cases h with
 |num x=>exact .inl ⟨z,_,z⟩
 |fn ai _ _ _=>exact .inr ⟨z,_,_,_,z,s _ _ ai⟩
end
def j5(a:bU)(a8 av:Addr)(al k c:Nat)(o:aa):cI:=.au a.fK a8 (fX (.ref av) (.int (al:Int)) (.int (k:Int)) (.int (c:Int)) o)
theorem nP{bg bk bP d8 e5:aa}:(fX bg bk bP d8 e5).length<1000:=by show 5<1000;decide
section
variable{P:Program}{w:World}{K:Frag}{az:Str->Option Value}{base:Heap}{a:bU}
def arK(a:bU):dj:=fun vs H Q E=>∃(ah a8 av bV dK l:Addr)(al k c n:Nat)(o s Sh:aa),vs=[.ref ah,.ref bV,.ref l]/\H ah=some (j5 a a8 av al k c o)/\H bV=some (.au a.p9 dK (pA s Sh (.int (n:Int))))/\
 (8192<c+n->zV a E H 5)/\(c+n<=8192->∀H' p dx,aV [ah] H H'->H p=none->H' p=some (.au a.n6 dx (u7 (.ref bV) (.ref l)))->H' ah=some (j5 a a8 av al k (c+n) o)->Q (.ref p) H')
theorem aqF:dP ["self","block","known"] ["self","block","known"] (cT abY):=by trivial
theorem aah(T:Txt K az a):cZ P w K az base (cW P w) 3 a.Ir a.GF ["self","block","known"] (arK a):=by
 refine T.aiL.dZ aqF (fun vs H Q E h=>?_) (fun cJ A outer s H vs Q E aO h=>?_)
 .obtain⟨ah,a8,av,bV,dK,l,al,k,c,n,o,s,Sh,rfl,_⟩:=h;rfl
 .obtain⟨ah,a8,av,bV,dK,l,al,k,c,n,o,s,Sh,rfl,hw,ae,dM,jr⟩:=h;refine⟨_,bh (d7 (dN AW (f9 kH (bG (af 0) z) (bG (af 1) z)) (cH T.ajf) (dH _))
    (bl (EH gT z T.Cp T.Bh T.Ed T.Ei (EA T) aO T.Dw (aE (cH T.ajn) aY))) fH)
   (bh (f5 (af 0) (f9 kH (bG (af 0) z) (bG (af 1) z)) z)
   (bl (di (mE T.anm (aoe T) aO z T.amC T.afz .nil bZ (aE (af 1) (aE (af 2) aY)))))),?_⟩
  refine⟨_,z,ah,_,a8,_,_,z,hw,T.gX,T.AO,Fy,_,z,bV,_,dK,_,_,z,ae,T.xe,T.Kp,Lh,_,_,z,z,_,_,z,z,_,z,fi (fun h=>?_) (fun h=>?_)⟩
  .exact⟨_,z,dM (by omega)⟩
  .refine⟨_,z,ah,_,a8,_,_,z,hw,T.gX,T.AO,Fy,_,z,bV,_,dK,_,_,z,ae,T.xe,T.Kp,Lh,_,_,z,z,_,z,ah,_,a8,_,z,hw,T.gX,T.AO,nP,?_⟩;have e:V H ah (.au a.fK a8 (cY "cells" ((fun i j=>aa.int (i+j)) (c:Int) (n:Int)) (fX (.ref av) (.int (al:Int)) (.int (k:Int)) (.int (c:Int)) o)))=V H ah (j5 a a8 av al k (c+n) o):=by
    rw[UH];unfold j5;rw[Fi]
   rw[e];refine⟨_,z,_,z,?_⟩;intro x dx aq ay bB;obtain⟨bk,bP⟩:=e8 aq;obtain⟨lE,mL⟩:=e8 ay;refine⟨x,dx,_,_,z,aP,z,jr (by omega) _ x dx ((((aV.refl.V (.inl (by simp))).V (.inr mL)).V (.inr bP)).V (.inr bP)) bP aP ?_⟩;rw[aK (bC bk),aK (bC bk),aK (bC lE),aP]
def arz(a:bU):dj:=fun vs H Q E=>∃(ah a8 av:Addr)(al k c d:Nat)(o v:aa)(b:Bool),vs=[.ref ah,v,.int (d:Int)]/\H ah=some (j5 a a8 av al k c o)/\sX a.n6 H v b/\
 (b=true->zV a E H 2)/\(b=false->k=al->zV a E H 3)/\(b=false->k≠al->d=128->zV a E H 4)/\(b=false->k≠al->d≠128->Q .b9 (V H ah (j5 a a8 av al (k+1) c o)))
theorem aqA:dP ["self","called","inside"] ["self","called","inside"] (cT abV):=by trivial
theorem aos(T:Txt K az a):cZ P w K az base (cW P w) 3 a.Io a.GB ["self","called","inside"] (arz a):=by
 refine T.aiI.dZ aqA (fun vs H Q E h=>?_) (fun cJ A outer s H vs Q E aO h=>?_)
 .obtain⟨ah,a8,av,al,k,c,d,o,v,b,rfl,_⟩:=h;rfl
 .obtain⟨ah,a8,av,al,k,c,d,o,v,b,rfl,hw,ae,k2,k3,jh,jr⟩:=h;refine⟨_,bh (d7 (vM (j3 (BJ T.Cj T.uC) (by rfl) T.Cx BF (aE (af 1) (aE (CI (v:=.jx "int") (by rfl) T.Cw BE z) aY))))
    (bl (EH gT z T.Cp T.Bh T.Ed T.Ei (EA T) aO T.Dw (aE (cH T.P3) aY))) fH)
   (bh (d7 (dN e9 (bG (af 0) z) (bG (af 0) z) (dH _))
    (bl (EH gT z T.Cp T.Bh T.Ed T.Ei (EA T) aO T.Dw (aE (cH T.ajm) aY))) fH)
   (bh (d7 (dN e9 (af 2) (cH T.ajj) (dH _))
    (bl (EH gT z T.Cp T.Bh T.Ed T.Ei (EA T) aO T.Dw (aE (cH T.ajv) aY))) fH)
   (bl (f5 (af 0) (f9 kH (bG (af 0) z) dc) z)))),?_⟩
  refine⟨_,z,v,b,z,ae,b,z,?_⟩;cases b with
  |true=>exact lY ⟨_,z,k2 z⟩
  |false=>
   refine nt ⟨_,z,ah,_,a8,_,_,z,hw,T.gX,T.AN,Fx,_,z,ah,_,a8,_,_,z,hw,T.gX,T.RG,aea,z,_,z,fi (fun h=>?_) (fun h=>?_)⟩
   .exact⟨_,z,k3 z (by have:=gK h;omega)⟩
   .have ki:k≠al:=fun I=>h (by rw[I]);refine⟨_,z,z,_,z,fi (fun h=>?_) (fun h=>?_)⟩
    .exact⟨_,z,jh z ki (by have:=gK h;omega)⟩
    .have yX:d≠128:=fun I=>h (by rw[I];rfl);refine⟨_,z,ah,_,a8,_,_,z,hw,T.gX,T.AN,Fx,_,_,z,z,_,z,ah,_,a8,_,z,hw,T.gX,T.AN,nP,?_⟩;have e:V H ah (.au a.fK a8 (cY "calls" ((fun i j=>aa.int (i+j)) (k:Int) 1) (fX (.ref av) (.int (al:Int)) (.int (k:Int)) (.int (c:Int)) o)))=V H ah (j5 a a8 av al (k+1) c o):=by
      rw[UG];unfold j5;rw[Fi];rfl
     rw[e];exact jr z ki yX
def arG(a:bU):dj:=fun vs H Q _=>∃(p eE bV dK l:Addr)(v s ce:aa)(n:Nat)(xs:List aa),vs=[.ref p,v]/\H p=some (.au a.n6 eE (u7 (.ref bV) (.ref l)))/\H bV=some (.au a.p9 dK (pA s (.int (n:Int)) ce))/\H l=some (.ak xs)/\xs.length+2<=sizeLine/\
 ∀H' q,be H H'->H q=none->H' q=some (.ak (xs++(if n=1 then[v]else[.ref p,v])))->Q (.ref q) H'
theorem aqD:dP ["called","argument"] ["called","argument"] (cT acj):=by trivial
theorem aoy(T:Txt K az a):cZ P w K az base (cW P w) 1 a.IS a.GZ ["called","argument"] (arG a):=by
 refine T.WL.dZ aqD (fun vs H Q E h=>?_) (fun cJ A outer s H vs Q E aO h=>?_)
 .obtain⟨p,eE,bV,dK,l,v,s,ce,n,xs,rfl,_⟩:=h;rfl
 .obtain⟨p,eE,bV,dK,l,v,s,ce,n,xs,rfl,aN,ae,aD,bR,k⟩:=h;refine⟨_,bh (d7 (dN e9 (bG (bG (af 0) z) z) dc (dH _)) (bl (di (f9 CG (bG (af 0) z) (gx (aE (af 1) aY))))) fH)
   (bl (di (f9 CG (bG (af 0) z) (gx (aE (af 0) (aE (af 1) aY)))))),?_⟩
  have b7:sizeLine=16777216:=gU;refine⟨_,z,p,_,eE,_,_,z,aN,T.uC,T.RB,Ul,bV,_,dK,_,_,z,ae,T.xe,T.ZG,ad5,z,_,z,fi (fun h=>?_) (fun h=>?_)⟩
  .have br:n=1:=by have:=gK h;omega
   refine⟨_,z,p,_,eE,_,_,z,aN,T.uC,T.RC,Um,_,z,(by show 1<=sizeLine;omega),fun aW Ay=>?_⟩;have ed:l≠aW:=eI aD Ay;refine⟨l,aW,xs,_,z,z,(by rw[aK ed];exact aD),aP,(by show _+1<=_;omega),fun q a9=>?_⟩;obtain⟨fT,gb⟩:=e8 a9;refine k _ q (cj (cj (be.refl _) Ay) gb) gb ?_;rw[aP,bT br]
  .have br:n≠1:=fun I=>h (by rw[I];rfl);refine⟨_,z,p,_,eE,_,_,z,aN,T.uC,T.RC,Um,_,z,_,z,(by show 2<=sizeLine;omega),fun aW Ay=>?_⟩;have ed:l≠aW:=eI aD Ay;refine⟨l,aW,xs,_,z,z,(by rw[aK ed];exact aD),aP,(by show _+2<=_;omega),fun q a9=>?_⟩;obtain⟨fT,gb⟩:=e8 a9;refine k _ q (cj (cj (be.refl _) Ay) gb) gb ?_;rw[aP,bz br]
theorem ag6(xs:List aa){b:Nat}(h:b<=xs.length):xj xs (some (b:Int)) none=xs.drop b:=by
 unfold xj;have ay:min b xs.length=b:=by omega
 rw[nB.Nx,nB.abn,ay];exact List.take_of_length_le (by rw[oE];exact dW _)
def asq(K:Frag):dj:=fun vs H Q _=>∃(st:Addr)(xs ys:List aa),vs=[.ref st,.int (ys.length:Nat)]/\H st=some (.ak (xs++ys))/\∀H' q,aV [st] H H'->H q=none->H' q=some (.ak ys)->H' st=some (.ak xs)->Q (.ref q) H'
theorem Td:dP ["stack","count","taken","value"] ["stack","count"] (cT acJ):=by trivial
theorem ao0(T:Txt K az a):cZ P w K az base (cW P w) 1 a.Jj a.Hz ["stack","count"] (asq K):=by
 refine T.W5.dZ Td (fun vs H Q E h=>?_) (fun cJ A outer s H vs Q E aO h=>?_)
 .obtain⟨st,xs,ys,rfl,_⟩:=h;rfl
 .obtain⟨st,xs,ys,rfl,aL,k⟩:=h;refine⟨_,bh (dU (i:=2) Td.aH z (Or.inl z) (Na NK (af 0) (KI (f9 uc (j3 mu (by rfl) T.mC m3 (aE (af 0) aY)) (af 1))) Su))
   (bh (vL gT.own z (wI (af 2)) (mF (i:=3) Td.aH z (Or.inl z)) (bl (fD (vJ gZ vX wV vE (af 0)))))
   (bl (di (af 2)))),?_⟩
  refine⟨_,z,_,z,st,_,z,.inl (bj.bM aL),_,z,_,_,z,z,_,z,st,xs++ys,z,bj.bM aL,fun q a9=>?_⟩;have e:(((xs++ys).length:Nat):Int) -((ys.length:Nat):Int)=(xs.length:Int):=by rw[g8];omega
  rw[e,ag6 (xs++ys) (by rw[g8];omega),List.drop_left];have ed:st≠q:=eI aL a9;refine⟨_,z,q,z,⟨_,bj.bM aP⟩,?_⟩;refine DN (K:=K) (a:=q) (xs:=ys) (fun j O H'=>∃v:Option aa,O=[some (.ref st),some (.int (ys.length:Nat)),some (.ref q),v]/\aV [st] H H'/\H' q=some (.ak ys)/\∃pg,pg.length=ys.length -j/\H' st=some (.ak (xs++pg))) ?_ ?_ ?_ ?_
  .exact⟨none,z,aV.refl.V (.inr a9),aP,ys,by omega,by rw[aK ed];exact aL⟩
  .rintro j O H' _ ⟨v,rfl,_,ai,_⟩;exact bj.bM ai
  .rintro j x O H' bQ ⟨v,rfl,k1,ai,pg,bR,aj⟩;have auG:j<ys.length:=(gn.mp bQ).1;rcases List.eq_nil_or_concat pg with ie|⟨atZ,I,ie⟩
   .rw[ie]at bR;simp at bR;omega
   .rw[ie,List.concat_eq_append]at aj bR;rw[<-Fe]at aj;refine⟨_,z,.inl ⟨z,_,bj.bM aj⟩,st,_,I,z,z,aj,(by simp),?_⟩;rw[uu];exact⟨_,z,k1.V (.inl (by simp)),by rw[aK (bC ed)];exact ai,atZ,by simp at bR;omega,aP⟩
  .rintro O H' ⟨v,rfl,k1,ai,pg,bR,aj⟩;have:pg=[]:=List.eq_nil_of_length_eq_zero (by omega);subst this;rw[zI]at aj;exact⟨_,z,k H' q k1 a9 ai aj⟩
end
theorem lZ{c A B:Prop}[Decidable c](aB:c)(h:A):if decide c=true then A else B:=by
 rw[bT (Bl aB)];exact h
theorem cu{c A B:Prop}[Decidable c](aB:¬c)(h:B):if decide c=true then A else B:=by
 rw[bz (fun I=>aB (of_decide_eq_true I))];exact h
theorem cK{i j:Int}(h:i≠j):aa.int i≠aa.int j:=fun I=>h (gK I)
structure q4(a:bU)(G:aA)(av:Addr)(bx:List Addr)(aS:List Z.gC):Prop where
 ak:G av=some (.ak (bx.map aa.ref))
 len:bx.length=aS.length
 at_:∀(i:Nat)(bV:Addr)(b:Z.gC),bx[i]?=some bV->aS[i]?=some b->∃dK b7 b8,G bV=some (.au a.p9 dK (pA (.ref b7) (.int (b.own:Int)) (.int (b.cells:Int))))/\G b7=some (.ak (b8.map aa.ref))/\jN G b8 b.cE
theorem jN.same{H H':aA}{b8:List Addr}{l:List (Nat×Nat)}(h:jN H b8 l)(k:be H H'):jN H' b8 l:=bF.Paired.nI (fun t y e=>k _ _ e) h
theorem q4.same{a:bU}{G eg:aA}{av:Addr}{bx:List Addr}{aS:List Z.gC}(h:q4 a G av bx aS)(s:be G eg):q4 a eg av bx aS:=
 ⟨s _ _ h.ak,h.len,fun i bV b ay aq=>by
  obtain⟨dK,b7,b8,aW,bf,df⟩:=h.at_ i bV b ay aq;exact⟨dK,b7,b8,s _ _ aW,s _ _ bf,df.same s⟩⟩
def rf(H G eg:aA):Prop:=∀b,H b≠none->G b=none->eg b=none
structure sA(a:bU)(aS:List Z.gC)(G H:aA)(ah a8 av:Addr)(bx:List Addr)(al k:Nat)(o:aa)(kn st:Addr)(kw iN:List Z.eH)(c:Nat):Prop where
 d9:be G H
 bV:q4 a G av bx aS
 lG:G ah=none
 yK:G kn=none
 sP:G st=none
 qj:kn≠st
 w:H ah=some (j5 a a8 av al k c o)
 k:∃xs,H kn=some (.ak xs)/\g6 a bx G xs kw
 s:∃xs,H st=some (.ak xs)/\g6 a bx G xs iN.reverse
section
variable{a:bU}{aS:List Z.gC}{G H:aA}{ah a8 av:Addr}{bx:List Addr}{al k:Nat}{o:aa}{kn st:Addr}{kw iN:List Z.eH}{c:Nat}
theorem qU{G H:aA}{p:Addr}{x:cI}(h:be G H)(aN:G p=none):be G (V H p x):=fun b y e=>by
 rw[aK (fun I=>by rw[I,aN]at e;cases e)];exact h b y e
theorem sA.xW(W:sA a aS G H ah a8 av bx al k o kn st kw iN c){xs:List aa}{sk':List Z.eH}(h:g6 a bx G xs sk'.reverse):sA a aS G (V H st (.ak xs)) ah a8 av bx al k o kn st kw sk' c:=by
 obtain⟨qj,k1,k2⟩:=W.k;obtain⟨ss,aU,bD⟩:=W.s;have ed:ah≠st:=fQ W.w aU (by intro q;cases q);exact⟨qU W.d9 W.sP,W.bV,W.lG,W.yK,W.sP,W.qj,by rw[aK ed];exact W.w,⟨qj,by rw[aK W.qj];exact k1,k2⟩,⟨xs,aP,h⟩⟩
theorem sA.ac2(W:sA a aS G H ah a8 av bx al k o kn st kw iN c){xs:List aa}{YO:List Z.eH}(h:g6 a bx G xs YO):sA a aS G (V H kn (.ak xs)) ah a8 av bx al k o kn st YO iN c:=by
 obtain⟨qj,k1,k2⟩:=W.k;obtain⟨ss,aU,bD⟩:=W.s;have ed:ah≠kn:=fQ W.w k1 (by intro q;cases q);exact⟨qU W.d9 W.yK,W.bV,W.lG,W.yK,W.sP,W.qj,by rw[aK ed];exact W.w,⟨xs,aP,h⟩,⟨ss,by rw[aK (bC W.qj)];exact aU,bD⟩⟩
theorem sA.made(W:sA a aS G H ah a8 av bx al k o kn st kw iN c){H':aA}{p eE l bV:Addr}{b:Nat}{xs ss:List aa}{LS sk':List Z.eH}{c':Nat}(ae:bx[b]?=some bV)(aN:H p=none)(aD:H l=none)(pM:l≠p)(aJ:∀b o,H b=some o->b≠ah->b≠st->H' b=some o)
  (ay:H' p=some (.au a.n6 eE (u7 (.ref bV) (.ref l))))(aq:H' l=some (.ak xs))(Y:g6 a bx G xs LS)(bB:H' ah=some (j5 a a8 av al k c' o))(dQ:H' st=some (.ak (ss++[.ref p])))(aL:g6 a bx G ss sk'.reverse):
  ∃eg,be G eg/\rf H G eg/\sA a aS eg H' ah a8 av bx al k o kn st kw (.fn b LS::sk') c':=by
 obtain⟨qj,k1,k2⟩:=W.k;obtain⟨KS,aU,bD⟩:=W.s;have ajx:G p=none:=W.d9.free aN;have ajw:G l=none:=W.d9.free aD;have j4:be G (V (V G l (.ak xs)) p (.au a.n6 eE (u7 (.ref bV) (.ref l)))):=qU (qU (be.refl G) ajw) ajx;refine⟨V (V G l (.ak xs)) p (.au a.n6 eE (u7 (.ref bV) (.ref l))),j4,fun b ai aj=>?_,?_⟩
 .rw[aK (fun I=>ai (by rw[I];exact aN)),aK (fun I=>ai (by rw[I];exact aD))];exact aj
 .have Ey:∀b o,H b=some o->b≠p/\b≠l:=fun b o e=>⟨fun I=>(by rw[I,aN]at e;cases e),fun I=>(by rw[I,aD]at e;cases e)⟩;have alU:kn≠ah:=fQ k1 W.w (by intro q;cases q);refine⟨fun b o e=>?_,W.bV.same j4,by rw[aK (Ey _ _ W.w).1,aK (Ey _ _ W.w).2];exact W.lG,by rw[aK (Ey _ _ k1).1,aK (Ey _ _ k1).2];exact W.yK,by rw[aK (Ey _ _ aU).1,aK (Ey _ _ aU).2];exact W.sP,W.qj,bB,
   ⟨qj,aJ _ _ k1 alU W.qj,k2.keep j4⟩,⟨_,dQ,?_⟩⟩
  .by_cases ai:b=p
   .rw[ai,aP]at e;cases e;rw[ai];exact ay
   .rw[aK ai]at e;by_cases aj:b=l
    .rw[aj,aP]at e;cases e;rw[aj];exact aq
    .rw[aK aj]at e;exact aJ b o (W.d9 _ _ e) (fun I=>(by rw[I,W.lG]at e;cases e)) (fun I=>(by rw[I,W.sP]at e;cases e))
  .refine(aL.keep j4).push (.fn (dx:=eE) (l:=l) (bV:=bV) (vs:=xs) aP ae ?_ (Y.keep j4));rw[aK pM,aP]
end
def wK(a:bU)(eU b7 kn:Addr)(cS:Nat):cI:=.au a.kC eU (oG (.ref b7) (.ref kn) (.int (cS:Int)))
def arD(a:bU):dj:=fun vs H Q E=>∃(G:aA)(ah a8 av cy eU b7 kn st:Addr)(bx b8:List Addr)(aS:List Z.gC)(al k n:Nat)(o:aa)(code:List Z.eO)(L:Z.m4)(cs:List Z.Fr)(out:Z.p6),
 vs=[.ref ah,.ref cy,.ref st]/\sA a aS G H ah a8 av bx al k o kn st L.uN L.stack L.cells/\G cy=none/\H cy=some (wK a eU b7 kn L.cS)/\G b7=some (.ak (b8.map aa.ref))/\jN G b8 code/\Z.iF aS al n code L cs k out/\
 (∀(H' eg:aA)(L':Z.m4)(kW v:Nat),aV [ah,cy,kn,st] H H'->be G eg->rf H G eg->sA a aS eg H' ah a8 av bx al k o kn st L'.uN L'.stack L'.cells->H' cy=some (wK a eU b7 kn (L'.cS+1))->code[L'.cS]?=some (4,v)->kW<=n->Z.iF aS al kW code L' cs k out->Q (.av true) H')/\
 (∀(H' eg:aA)(L':Z.m4)(kW:Nat),aV [ah,cy,kn,st] H H'->be G eg->rf H G eg->sA a aS eg H' ah a8 av bx al k o kn st L'.uN L'.stack L'.cells->code.length<=L'.cS->kW<=n->Z.iF aS al kW code L' cs k out->Q (.av false) H')/\
 (∀(H' eg:aA)(c c':Nat)(d:Addr),aV [ah,cy,kn,st] H H'->be G eg->be eg H'->H' ah=some (j5 a a8 av al k c' o)->H' d=some (.pW [("fault",.int (c:Int))])->out=.kP c->E (.ref a.sH) (some d) H')
theorem vO:dP ["self","running","stack","steps","known","place","step","kind","value","block","second"] ["self","running","stack"] (cT abW):=by trivial
section
variable{P:Program}{w:World}{K:Frag}{az:Str->Option Value}{base:Heap}{a:bU}
theorem aaE{cL ik:Type}{F:cL->ik->Prop}:∀{l:List cL}{m:List ik},Paired F l m->∀{i:Nat}{y:ik},m[i]?=some y->∃x,l[i]?=some x/\F x y
 |_,_,.nil,i,y,e=>by simp at e
 |_,_,.cons r t,0,y,e=>by simp at e;subst e;exact⟨_,z,r⟩
 |_,_,.cons r t,i+1,y,e=>by
  obtain⟨x,aq,aj⟩:=aaE t (i:=i) (by simpa using e);exact⟨x,by simpa using aq,aj⟩
end
end Cl
namespace Z
theorem iF.y9{aS:List gC}{al m:Nat}{code:List eO}{L:m4}{cs:List Fr}{k:Nat}{out:p6}{s:eO}(h:iF aS al m code L cs k out)(aL:code[L.cS]?=some s)(ez:s.1≠4):
  (∃L' dB,m=dB+1/\nV aS s L (.go L')/\iF aS al dB code L' cs k out)\/∃e,out=.kP e/\nV aS s L (.kP e):=by
 have no:∀v,code[L.cS]?≠some (4,v):=fun v e=>by rw[aL]at e;cases e;exact ez z
 have lt:L.cS<code.length:=(gn.mp aL).1;cases h with
 |lX ai aj bN ez=>rw[aL]at ai;cases ai;exact .inl ⟨_,_,z,bN,ez⟩
 |jn ai aj bN=>rw[aL]at ai;cases ai;exact .inr ⟨_,z,bN⟩
 |call ai=>exact absurd ai (no _)
 |DE ai=>exact absurd ai (no _)
 |Al ai=>exact absurd ai (no _)
 |DC ai=>exact absurd ai (no _)
 |ret ai=>omega
 |done ai=>exact absurd ai (by dsimp only at lt;omega)
end Z
namespace Cl
open PySem PySem.Spec PyProof.Rows bF
def Oo(a:bU)(aS:List Z.gC)(G H:aA)(ah a8 av cy eU b7 kn st:Addr)(bx:List Addr)(al k n apa:Nat)(o:aa)(code:List Z.eO)(cs:List Z.Fr)(out:Z.p6)(m:Nat)(O:bF.St)(H':aA):Prop:=
 ∃(eg:aA)(L':Z.m4)(mh EX EY EZ EW:Option aa),O=[some (.ref ah),some (.ref cy),some (.ref st),some (.ref b7),some (.ref kn),some (.int (L'.cS:Int)),mh,EX,EY,EZ,EW]/\aV [ah,cy,kn,st] H H'/\be G eg/\rf H G eg/\
  sA a aS eg H' ah a8 av bx al k o kn st L'.uN L'.stack L'.cells/\H' cy=some (wK a eU b7 kn apa)/\m<=n/\Z.iF aS al m code L' cs k out
section
variable{P:Program}{w:World}{K:Frag}{az:Str->Option Value}{base:Heap}{a:bU}
theorem aov(T:Txt K az a):cZ P w K az base (cW P w) 4 a.Ip a.GC ["self","running","stack"] (arD a):=by
 refine T.aiJ.dZ vO (fun vs H Q E h=>?_) (fun cJ A outer s H vs Q E aO h=>?_)
 .obtain⟨G,ah,a8,av,cy,eU,b7,kn,st,bx,b8,aS,al,k,n,o,code,L,cs,out,rfl,_⟩:=h;rfl
 .obtain⟨G,ah,a8,av,cy,eU,b7,kn,st,bx,b8,aS,al,k,n,o,code,L,cs,out,rfl,aeY,ajz,vz,BY,DP,xr,alL,Q7,dM⟩:=h;have l7:sizeLine=16777216:=gU;refine⟨_,bh (dU (i:=3) vO.aH z (Or.inl z) (bG (af 1) z))
   (bh (dU (i:=4) vO.aH z (Or.inl z) (bG (af 1) z))
   (bh (dU (i:=5) vO.aH z (Or.inl z) (bG (af 1) z))
   (bh (A0 gT.own (dN KD (af 5) (j3 mu (by rfl) T.mC m3 (aE (af 3) aY)) (dH _))
    (bh (dU (i:=6) vO.aH z (Or.inl z) (mD nJ (af 3) (af 5) (fun _ _=>rfl)))
    (bh (dU (i:=7) vO.aH z (Or.inl z) (mD Q4 (af 6) dc (fun _ _=>rfl)))
    (bh (dU (i:=8) vO.aH z (Or.inl z) (mD Q4 (af 6) dc (fun _ _=>rfl)))
    (bh (dU (i:=5) vO.aH z (Or.inl z) (f9 kH (af 5) dc))
    (bl (d7 (dN e9 (af 7) (cH T.L0) (dH _))
     (bl (fD (jk gZ k7 lA kU (af 2) (aE (mD nJ (af 4) (af 8) (fun _ _=>rfl)) aY))))
     (bl (d7 (dN e9 (af 7) (cH T.PX) (dH _))
     (bl (fD (jk gZ k7 lA kU (af 2) (aE (af 8) aY))))
     (bl (d7 (dN e9 (af 7) (cH T.Xi) (dH _))
     (bh (f5 (af 1) (af 5) z) (bl (di M7)))
     (bl (d7 (dN e9 (af 7) (cH T.Xn) (dH _))
     (bl (fD (jk gZ k7 lA kU (af 2) (aE (qN (af 0) T.gX T.Y9 (aah T) aO T.Vb .nil bZ (aE (mD nJ (bG (af 0) z) (af 8) (fun _ _=>rfl)) (aE (apb agr (by rfl) T.anQ agi (aE (af 4) aY)) aY))) aY))))
     (bl (d7 (dN e9 (af 7) (cH T.Xp) (dH _))
     (bh (dU (i:=9) vO.aH z (Or.inl z) (mD nJ (bG (af 0) z) (af 8) (fun _ _=>rfl))) (bl (fD (jk gZ k7 lA kU (af 2) (aE (qN (af 0) T.gX T.Y9 (aah T) aO T.Vb .nil bZ (aE (af 9) (aE (fU (ao0 T) aO.dw z T.anf T.W5.cN T.agc .nil bZ (aE (af 2) (aE (f9 uc (bG (af 9) z) dc) aY))) aY))) aY)))))
     (bl (d7 (dN e9 (af 7) (cH T.Xk) (dH _))
     (bl (fD (jk gZ k7 lA kU (af 4) (aE (vJ gZ vX wV vE (af 2)) aY))))
     (bl (d7 (dN e9 (af 7) (cH T.Xj) (dH _))
     (bl (fD (vJ gZ vX wV vE (af 4))))
     (bl (d7 (dN e9 (af 7) (cH T.PV) (dH _))
     (bl (dU (i:=5) vO.aH z (Or.inl z) (af 8)))
     (bl (d7 (dN e9 (af 7) (cH T.P1) (dH _))
     (bl (dU (i:=5) vO.aH z (Or.inl z) (AX (dN e9 (fU (aoM T) aO z T.am4 T.WV.cN T.af2 .nil bZ (aE (vJ gZ vX wV vE (af 2)) aY)) dc (dH _)) (af 8) (af 5))))
     (bh (dU (i:=10) vO.aH z (Or.inl z) (vJ gZ vX wV vE (af 2))) (bl (fD (jk gZ k7 lA kU (af 2) (aE (fU (aoW T) aO z T.anc T.W3.cN T.aga .nil bZ (aE (af 7) (aE (vJ gZ vX wV vE (af 2)) (aE (af 10) aY)))) aY))))))))))))))))))))))))))))
   (bl (di M7))))),?_⟩
  refine⟨_,z,cy,_,eU,_,_,z,vz,T.BK,T.ZJ,ad9,_,z,cy,_,eU,_,_,z,vz,T.BK,T.ZI,ad7,_,z,cy,_,eU,_,_,z,vz,T.BK,T.RE,ad8,?_⟩;refine⟨Oo a aS G H ah a8 av cy eU b7 kn st bx al k n L.cS o code cs out,⟨n,G,L,_,_,_,_,_,z,aV.refl,be.refl _,fun b _ h=>h,aeY,vz,dW _,xr⟩,?_⟩;rintro m O aI ⟨pY,aeu,mh,EX,EY,EZ,EW,rfl,gh,j4,qn,W,sV,XZ,gY⟩;obtain⟨cS,kw,iN,c⟩:=aeu;dsimp only at W⊢;have xC:=W.d9 _ _ (j4 _ _ BY);have gv:(b8.map aa.ref).length=code.length:=by rw[cA];exact kX DP
  refine⟨_,z,_,z,b7,_,z,.inl (bj.bM xC),_,_,z,z,_,z,fi (fun eY=>?_) (fun JK=>?_)⟩
  rotate_left
  .rw[gv]at JK;exact Q7 aI pY _ m gh j4 qn W (by show code.length<=cS;omega) XZ gY
  rw[gv]at eY;have akO:cS<code.length:=by omega
  obtain⟨⟨bW,val⟩,QJ⟩:∃s,code[cS]?=some s:=⟨_,gA akO⟩;obtain⟨t,QM,bO⟩:=aaE DP QJ;have QN:=W.d9 _ _ (j4 _ _ bO);dsimp only at QN;obtain⟨qj,aJ,iu⟩:=W.k;obtain⟨ss,aL,vs⟩:=W.s;have Ez:ah≠st:=fQ W.w aL (by intro q;cases q);have au8:ah≠kn:=fQ W.w aJ (by intro q;cases q);have xR:cy≠st:=fQ sV aL (by intro q;cases q);have RX:cy≠kn:=fQ sV aJ (by intro q;cases q);have RZ:cy≠ah:=fun I=>by
   have q:=sV;rw[I,W.w]at q;have:=j7 q;injection this with q _ _
   exact jZ T.aH 11 10 (by decide) z z q
  have qE:∀b,aI b=none->H b=none:=fun b e=>gh.fresh e (fun c aB=>by
   simp at aB;rcases aB with rfl|rfl|rfl|rfl
   .exact⟨_,W.w⟩
   .exact⟨_,sV⟩
   .exact⟨_,aJ⟩
   .exact⟨_,aL⟩)
  have auU:ss.length=iN.length:=by have:=vs.len;rw[tE]at this;exact this
  have auT:qj.length=kw.length:=iu.len;have go:∀(a7 yl:aA)(bF:Z.m4)(gw:Nat)(mh EX EY EZ EW:Option aa),gw<m->aV [ah,cy,kn,st] aI a7->be pY yl->rf aI pY yl->sA a aS yl a7 ah a8 av bx al k o kn st bF.uN bF.stack bF.cells->a7 cy=some (wK a eU b7 kn L.cS)->Z.iF aS al gw code bF cs k out->
    ∃dB,dB<m/\Oo a aS G H ah a8 av cy eU b7 kn st bx al k n L.cS o code cs out dB [some (.ref ah),some (.ref cy),some (.ref st),some (.ref b7),some (.ref kn),some (.int (bF.cS:Int)),mh,EX,EY,EZ,EW] a7:=
   fun a7 yl bF gw mh EX EY EZ EW aW bf df e7 k6 oj mW=>⟨gw,aW,yl,bF,mh,EX,EY,EZ,EW,z,gh.trans bf,j4.trans df,fun b ai aj=>e7 b (fun I=>ai (qE b I)) (qn b ai aj),k6,oj,by omega,mW⟩
  have jn:∀(a7:aA)(ry e:Nat),aV [ah,cy,kn,st] aI a7->be pY a7->a7 ah=some (j5 a a8 av al k ry o)->out=.kP e->zV a E a7 e:=fun a7 ry e aW bf df e7 d aG=>
   dM _ pY e ry d ((gh.trans aW).trans (aV.refl.V (.inr aG))) j4 (qU bf (bf.free aG)) (by rw[aK (eI df aG)];exact df) aP e7
  refine⟨fun cB H'=>∃dB,dB<m/\Oo a aS G H ah a8 av cy eU b7 kn st bx al k n L.cS o code cs out dB cB H',fun _ _ h=>h,?_⟩;have uJ:nE (b8.map aa.ref) cS=some (.ref t):=lD (by rw[h8,QM];rfl);have JF:nE [aa.int (bW:Int),aa.int (val:Int)] 0=some (.int (bW:Int)):=lD (j:=0) z;have Qc:nE [aa.int (bW:Int),aa.int (val:Int)] 1=some (.int (val:Int)):=lD (j:=1) z;refine⟨_,z,_,z,b7,_,_,_,z,z,bj.bM xC,uJ,_,z,t,_,_,_,z,z,je.bM QN,JF,_,z,t,_,_,_,z,z,je.bM QN,Qc,_,z,_,_,z,z,?_⟩;by_cases ez:bW=4
  .subst ez;refine⟨_,z,z,_,z,cu (cK (by decide)) ⟨_,z,z,_,z,cu (cK (by decide)) ⟨_,z,z,_,z,lZ z ⟨_,z,_,z,cy,_,eU,_,z,sV,T.BK,T.RE,(by show 3<1000;decide),?_⟩⟩⟩⟩;have f7:V aI cy (.au a.kC eU (cY "place" (aa.int ((cS+1:Nat):Int)) (oG (.ref b7) (.ref kn) (.int (L.cS:Int)))))=V aI cy (wK a eU b7 kn (cS+1)):=by
    rw[aeL];rfl
   refine Eq.mpr (oA (Q (.av true)) f7) ?_;refine alL _ pY ⟨cS,kw,iN,c⟩ m val (gh.V (.inl (by simp))) j4 qn ⟨qU W.d9 ?_,W.bV,W.lG,W.yK,W.sP,W.qj,by rw[aK (bC RZ)];exact W.w,⟨qj,by rw[aK (bC RX)];exact aJ,iu⟩,⟨ss,by rw[aK (bC xR)];exact aL,vs⟩⟩ aP QJ XZ gY;exact qn cy (by rw[vz];exact fun I=>by cases I) ajz
  rcases gY.y9 QJ ez with⟨L',dB,rfl,B4,sJ⟩|⟨e,rfl,B4⟩
  .cases B4 with
   |push ae=>
    unfold Z.h9 at ae;refine⟨_,z,z,_,z,cu (cK (by decide)) ⟨_,z,z,_,z,lZ z ⟨_,z,.inl ⟨z,_,bj.bM aL⟩,_,z,st,_,_,z,z,aL,(by omega),?_⟩⟩⟩;exact go _ pY ⟨cS+1,kw,.num val::iN,c⟩ dB _ _ _ _ _ (by omega) (aV.refl.V (.inl (by simp))) (be.refl _) (fun b _ h=>h) (W.xW (vs.push (.num val))) (by rw[aK xR];exact sV) sJ
   |vC a6 ae=>
    unfold Z.h9 at ae;obtain⟨v,yG,alb⟩:=iu.get a6;refine⟨_,z,z,_,z,lZ z ⟨_,z,.inl ⟨z,_,bj.bM aL⟩,_,z,_,z,kn,_,_,_,z,z,bj.bM aJ,lD yG,st,_,_,z,z,aL,(by omega),?_⟩⟩;exact go _ pY _ dB _ _ _ _ _ (by omega) (aV.refl.V (.inl (by simp))) (be.refl _) (fun b _ h=>h) (W.xW (vs.push alb)) (by rw[aK xR];exact sV) sJ
   |@make _ b _ _ _ _ eF yP Qv=>
    unfold Z.h9 at yP;obtain⟨bV,mP⟩:∃bV,bx[val]?=some bV:=⟨_,gA (by rw[W.bV.len];exact(gn.mp eF).1)⟩;obtain⟨dK,iZ,gk,BV,_,_⟩:=W.bV.at_ _ _ _ mP eF;have ae:=W.d9 _ _ BV;have qe:=W.d9 _ _ W.bV.ak;have tV:(bx.map aa.ref)[val]?=some (.ref bV):=by rw[h8,mP];rfl
    refine⟨_,z,z,_,z,cu (cK (by decide)) ⟨_,z,z,_,z,cu (cK (by decide)) ⟨_,z,z,_,z,cu (cK (by decide)) ⟨_,z,z,_,z,lZ z ⟨_,z,.inl ⟨z,_,bj.bM aL⟩,_,z,ah,a8,_,z,W.w,Lm,_,z,ah,_,a8,_,_,z,W.w,T.gX,T.Et,Fw,_,z,av,_,_,_,z,z,bj.bM qe,lD tV,_,z,kn,_,z,.inl (bj.bM aJ),fun l aD=>?_⟩⟩⟩⟩⟩;have kF:l≠ah:=bC (eI W.w aD);have ZT:l≠st:=bC (eI aL aD);have xQ:bV≠l:=eI ae aD;refine⟨ah,a8,av,bV,dK,l,al,k,c,b.cells,o,_,_,z,(by rw[aK (bC kF)];exact W.w),(by rw[aK xQ];exact ae),fun bq=>?_,fun kQ H' p eE AD aN ay aq=>?_⟩
    .exact absurd bq (by omega)
    .obtain⟨t7,nG⟩:=e8 aN;have RU:p≠st:=bC (eI aL nG);have uK:H' l=some (.ak qj):=AD _ _ aP (by simpa using kF);have k1:aV [ah] aI H':=(aV.refl.V (.inr aD)).trans AD;have xB:H' st=some (.ak ss):=k1 _ _ aL (by simpa using bC Ez);obtain⟨yl,g1,g2,qy⟩:=W.made (H':=V H' st (.ak (ss++[.ref p]))) (b:=val) (xs:=qj) (ss:=ss) (LS:=kw) (sk':=iN) (c':=c+b.cells) mP nG aD (bC t7) (fun b o e ed fc=>by rw[aK fc];exact k1 _ _ e (by simpa using ed)) (by rw[aK RU];exact ay) (by rw[aK ZT];exact uK) iu (by rw[aK Ez];exact aq) aP vs;refine⟨st,_,_,z,z,xB,(by omega),?_⟩;exact go _ yl _ dB _ _ _ _ _ (by omega) ((k1.c7 (by simp)).V (.inl (by simp))) g1 g2 qy (by rw[aK xR];exact k1 _ _ sV (by simpa using RZ)) sJ
   |@UU _ b _ _ _ iN sE eF oV yP Qv=>
    unfold Z.h9 at yP;obtain⟨bV,mP⟩:∃bV,bx[val]?=some bV:=⟨_,gA (by rw[W.bV.len];exact(gn.mp eF).1)⟩;obtain⟨dK,iZ,gk,BV,_,_⟩:=W.bV.at_ _ _ _ mP eF;have ae:=W.d9 _ _ BV;have qe:=W.d9 _ _ W.bV.ak;have tV:(bx.map aa.ref)[val]?=some (.ref bV):=by rw[h8,mP];rfl
    rw[reverse_append,reverse_reverse]at vs;obtain⟨xs,ys,rfl,qu,uX⟩:=g6.split vs;have amb:ys.length=sE.length:=uX.len;have aB:(b.cells:Int) -1=((ys.length:Nat):Int):=by omega
    refine⟨_,z,z,_,z,cu (cK (by decide)) ⟨_,z,z,_,z,cu (cK (by decide)) ⟨_,z,z,_,z,cu (cK (by decide)) ⟨_,z,z,_,z,cu (cK (by decide)) ⟨_,z,z,_,z,lZ z ⟨_,z,ah,_,a8,_,_,z,W.w,T.gX,T.Et,Fw,_,z,av,_,_,_,z,z,bj.bM qe,lD tV,_,z,.inl ⟨z,_,bj.bM aL⟩,_,z,ah,a8,_,z,W.w,Lm,_,z,_,z,_,z,bV,_,dK,_,_,z,ae,T.xe,T.Kp,Lh,_,_,z,z,?_⟩⟩⟩⟩⟩⟩;refine⟨st,xs,ys,(by show[aa.ref st,aa.int ((b.cells:Int) -1)]=_;rw[aB]),aL,fun a7 q ir a9 ay aq=>?_⟩;have kj:=ir _ _ W.w (by simpa using Ez);have RI:bV≠st:=fQ ae aL (by intro q;cases q);have B7:=ir _ _ ae (by simpa using RI);refine⟨ah,a8,av,bV,dK,q,al,k,c,b.cells,o,_,_,z,kj,B7,fun bq=>?_,fun kQ H' p eE AD aN bB dQ=>?_⟩
    .exact absurd bq (by omega)
    .have Nk:q≠st:=bC (eI aL a9);have apx:q≠ah:=bC (eI W.w a9);have Jp:∀b,a7 b=none->aI b=none:=fun b e=>ir.fresh e (fun c aB=>by simp at aB;subst aB;exact⟨_,aq⟩);have nG:aI p=none:=Jp _ aN;have RU:p≠st:=bC (eI aL nG);have anY:q≠p:=eI ay aN;have uK:H' q=some (.ak ys):=AD _ _ ay (by simpa using apx);have xB:H' st=some (.ak xs):=AD _ _ aq (by simpa using bC Ez);have k1:aV [ah,st] aI H':=(ir.c7 (by simp)).trans (AD.c7 (by simp));obtain⟨yl,g1,g2,qy⟩:=W.made (H':=V H' st (.ak (xs++[.ref p]))) (b:=val) (xs:=ys) (ss:=xs) (LS:=sE) (sk':=iN) (c':=c+b.cells) mP nG a9 anY (fun b o e ed fc=>by rw[aK fc];exact k1 _ _ e (by simp[ed,fc])) (by rw[aK RU];exact bB) (by rw[aK Nk];exact uK) uX (by rw[aK Ez];exact dQ) aP qu;have lj:=qu.len;rw[tE]at lj;refine⟨st,_,_,z,z,xB,(by omega),?_⟩;exact go _ yl _ dB _ _ _ _ _ (by omega) ((k1.c7 (by simp)).V (.inl (by simp))) g1 g2 qy (by rw[aK xR];exact k1 _ _ sV (by simp[RZ,xR])) sJ
   |keep ae=>
    unfold Z.h9 at ae;obtain⟨l,v,rfl,iE,vV⟩:=vs.dg;refine⟨_,z,z,_,z,cu (cK (by decide)) ⟨_,z,z,_,z,cu (cK (by decide)) ⟨_,z,z,_,z,cu (cK (by decide)) ⟨_,z,z,_,z,cu (cK (by decide)) ⟨_,z,z,_,z,cu (cK (by decide)) ⟨_,z,z,_,z,lZ z ⟨_,z,.inl ⟨z,_,bj.bM aJ⟩,_,z,.inl ⟨z,_,bj.bM aL⟩,st,_,v,z,z,aL,(by simp),?_⟩⟩⟩⟩⟩⟩⟩;rw[uu];refine⟨kn,_,_,z,z,(by rw[aK W.qj];exact aJ),(by omega),?_⟩;exact go _ pY _ dB _ _ _ _ _ (by omega) ((aV.refl.V (.inl (by simp))).V (.inl (by simp))) (be.refl _) (fun b _ h=>h) ((W.xW iE).ac2 (iu.append (.pQ vV))) (by rw[aK RX,aK xR];exact sV) sJ
   |drop=>
    obtain⟨l,r,rfl,iE,adM⟩:=g6.split iu;cases adM with
    |@cons v _ _ _ vV atA=>
     cases atA;refine⟨_,z,z,_,z,cu (cK (by decide)) ⟨_,z,z,_,z,cu (cK (by decide)) ⟨_,z,z,_,z,cu (cK (by decide)) ⟨_,z,z,_,z,cu (cK (by decide)) ⟨_,z,z,_,z,cu (cK (by decide)) ⟨_,z,z,_,z,cu (cK (by decide)) ⟨_,z,z,_,z,lZ z ⟨_,z,.inl ⟨z,_,bj.bM aJ⟩,kn,_,v,z,z,aJ,(by simp),?_⟩⟩⟩⟩⟩⟩⟩⟩;rw[uu];exact go _ pY _ dB _ _ _ _ _ (by omega) (aV.refl.V (.inl (by simp))) (be.refl _) (fun b _ h=>h) (W.ac2 iE) (by rw[aK RX];exact sV) sJ
   |iT=>
    refine⟨_,z,z,_,z,cu (cK (by decide)) ⟨_,z,z,_,z,cu (cK (by decide)) ⟨_,z,z,_,z,cu (cK (by decide)) ⟨_,z,z,_,z,cu (cK (by decide)) ⟨_,z,z,_,z,cu (cK (by decide)) ⟨_,z,z,_,z,cu (cK (by decide)) ⟨_,z,z,_,z,cu (cK (by decide)) ⟨_,z,z,_,z,lZ z ⟨_,z,?_⟩⟩⟩⟩⟩⟩⟩⟩⟩;exact go _ pY ⟨val,kw,iN,c⟩ dB _ _ _ _ _ (by omega) aV.refl (be.refl _) (fun b _ h=>h) W sV sJ
   |@K4 _ y _ _ iN _=>
    obtain⟨l,v,rfl,iE,vV⟩:=vs.dg;refine⟨_,z,z,_,z,cu (cK (by decide)) ⟨_,z,z,_,z,cu (cK (by decide)) ⟨_,z,z,_,z,cu (cK (by decide)) ⟨_,z,z,_,z,cu (cK (by decide)) ⟨_,z,z,_,z,cu (cK (by decide)) ⟨_,z,z,_,z,cu (cK (by decide)) ⟨_,z,z,_,z,cu (cK (by decide)) ⟨_,z,z,_,z,cu (cK (by decide)) ⟨_,z,z,_,z,lZ z ⟨_,z,.inl ⟨z,_,bj.bM aL⟩,st,_,v,z,z,aL,(by simp),?_⟩⟩⟩⟩⟩⟩⟩⟩⟩⟩;rw[uu];have qy:=W.xW iE;have Kz:=vV.sX qy.d9;cases vV;refine⟨_,_,z,Kz,fun _=>?_,fun I=>by cases I⟩;refine⟨z,_,z,fi (fun cP=>?_) (fun cP=>?_)⟩
    .have bu:y=0:=by have:=gK cP;omega
     rw[bT bu]at sJ;exact⟨_,z,go _ pY _ dB _ _ _ _ _ (by omega) (aV.refl.V (.inl (by simp))) (be.refl _) (fun b _ h=>h) qy (by rw[aK xR];exact sV) sJ⟩
    .have bu:y≠0:=fun I=>cP (by rw[I];rfl);rw[bz bu]at sJ;exact⟨_,z,go _ pY _ dB _ _ _ _ _ (by omega) (aV.refl.V (.inl (by simp))) (be.refl _) (fun b _ h=>h) qy (by rw[aK xR];exact sV) sJ⟩
   |@LB _ _ x y _ _ _ iN i7 yM ali yP=>
    unfold Z.h9 at yP;obtain⟨fL,uX,rfl,K6,E3⟩:=vs.dg;obtain⟨l,qu,rfl,iE,E2⟩:=K6.dg;refine⟨_,z,z,_,z,cu (cK (by omega)) ⟨_,z,z,_,z,cu (cK (by omega)) ⟨_,z,z,_,z,cu (cK (by omega)) ⟨_,z,z,_,z,cu (cK (by omega)) ⟨_,z,z,_,z,cu (cK (by omega)) ⟨_,z,z,_,z,cu (cK (by omega)) ⟨_,z,z,_,z,cu (cK (by omega)) ⟨_,z,z,_,z,cu (cK (by omega)) ⟨_,z,z,_,z,cu (cK (by omega)) ⟨_,z,.inl ⟨z,_,bj.bM aL⟩,st,_,uX,z,z,aL,(by simp),?_⟩⟩⟩⟩⟩⟩⟩⟩⟩⟩;rw[uu];have aj:V aI st (.ak (l++[qu])) st=some (.ak (l++[qu])):=aP;refine⟨_,z,.inl ⟨z,_,bj.bM aj⟩,_,z,_,z,.inl ⟨z,_,bj.bM aj⟩,st,_,qu,z,z,aj,(by simp),?_⟩;rw[uu,jz];have qy:=W.xW iE;refine⟨_,z,bW,_,_,z,i7,yM,?_⟩;cases E2;cases E3;refine .inl ⟨x,y,z,z,ali,?_⟩;have al6:=iE.len;rw[tE]at al6;refine⟨st,_,_,z,z,aP,(by omega),?_⟩;rw[jz];exact go _ pY _ dB _ _ _ _ _ (by omega) (aV.refl.V (.inl (by simp))) (be.refl _) (fun b _ h=>h) (W.xW (iE.push (.num _))) (by rw[aK xR];exact sV) sJ
  .cases B4 with
   |@Ro _ b _ _ _ _ eF yP Qv=>
    unfold Z.h9 at yP;obtain⟨bV,mP⟩:∃bV,bx[val]?=some bV:=⟨_,gA (by rw[W.bV.len];exact(gn.mp eF).1)⟩;obtain⟨dK,iZ,gk,BV,_,_⟩:=W.bV.at_ _ _ _ mP eF;have ae:=W.d9 _ _ BV;have qe:=W.d9 _ _ W.bV.ak;have tV:(bx.map aa.ref)[val]?=some (.ref bV):=by rw[h8,mP];rfl
    refine⟨_,z,z,_,z,cu (cK (by decide)) ⟨_,z,z,_,z,cu (cK (by decide)) ⟨_,z,z,_,z,cu (cK (by decide)) ⟨_,z,z,_,z,lZ z ⟨_,z,.inl ⟨z,_,bj.bM aL⟩,_,z,ah,a8,_,z,W.w,Lm,_,z,ah,_,a8,_,_,z,W.w,T.gX,T.Et,Fw,_,z,av,_,_,_,z,z,bj.bM qe,lD tV,_,z,kn,_,z,.inl (bj.bM aJ),fun l aD=>?_⟩⟩⟩⟩⟩;have kF:l≠ah:=bC (eI W.w aD);have ZT:l≠st:=bC (eI aL aD);have xQ:bV≠l:=eI ae aD;refine⟨ah,a8,av,bV,dK,l,al,k,c,b.cells,o,_,_,z,(by rw[aK (bC kF)];exact W.w),(by rw[aK xQ];exact ae),fun bq=>?_,fun kQ H' p eE AD aN ay aq=>?_⟩
    .exact jn _ c 5 (aV.refl.V (.inr aD)) (cj W.d9 (W.d9.free aD)) (by rw[aK (bC kF)];exact W.w) z
    .exact absurd kQ (by omega)
   |@UV _ b _ _ _ iN sE eF oV yP Qv=>
    unfold Z.h9 at yP;obtain⟨bV,mP⟩:∃bV,bx[val]?=some bV:=⟨_,gA (by rw[W.bV.len];exact(gn.mp eF).1)⟩;obtain⟨dK,iZ,gk,BV,_,_⟩:=W.bV.at_ _ _ _ mP eF;have ae:=W.d9 _ _ BV;have qe:=W.d9 _ _ W.bV.ak;have tV:(bx.map aa.ref)[val]?=some (.ref bV):=by rw[h8,mP];rfl
    rw[reverse_append,reverse_reverse]at vs;obtain⟨xs,ys,rfl,qu,uX⟩:=g6.split vs;have amb:ys.length=sE.length:=uX.len;have aB:(b.cells:Int) -1=((ys.length:Nat):Int):=by omega
    refine⟨_,z,z,_,z,cu (cK (by decide)) ⟨_,z,z,_,z,cu (cK (by decide)) ⟨_,z,z,_,z,cu (cK (by decide)) ⟨_,z,z,_,z,cu (cK (by decide)) ⟨_,z,z,_,z,lZ z ⟨_,z,ah,_,a8,_,_,z,W.w,T.gX,T.Et,Fw,_,z,av,_,_,_,z,z,bj.bM qe,lD tV,_,z,.inl ⟨z,_,bj.bM aL⟩,_,z,ah,a8,_,z,W.w,Lm,_,z,_,z,_,z,bV,_,dK,_,_,z,ae,T.xe,T.Kp,Lh,_,_,z,z,?_⟩⟩⟩⟩⟩⟩;refine⟨st,xs,ys,(by show[aa.ref st,aa.int ((b.cells:Int) -1)]=_;rw[aB]),aL,fun a7 q ir a9 ay aq=>?_⟩;have kj:=ir _ _ W.w (by simpa using Ez);have RI:bV≠st:=fQ ae aL (by intro q;cases q);have B7:=ir _ _ ae (by simpa using RI);refine⟨ah,a8,av,bV,dK,q,al,k,c,b.cells,o,_,_,z,kj,B7,fun bq=>?_,fun kQ H' p eE AD aN bB dQ=>?_⟩
    .exact jn _ c 5 (ir.c7 (by simp)) (fun b o e=>ir _ _ (W.d9 _ _ e) (by simp;exact fun I=>(by rw[I,W.sP]at e;cases e))) kj z
    .exact absurd kQ (by omega)
   |TM=>
    obtain⟨l,v,rfl,iE,vV⟩:=vs.dg;refine⟨_,z,z,_,z,cu (cK (by decide)) ⟨_,z,z,_,z,cu (cK (by decide)) ⟨_,z,z,_,z,cu (cK (by decide)) ⟨_,z,z,_,z,cu (cK (by decide)) ⟨_,z,z,_,z,cu (cK (by decide)) ⟨_,z,z,_,z,cu (cK (by decide)) ⟨_,z,z,_,z,cu (cK (by decide)) ⟨_,z,z,_,z,cu (cK (by decide)) ⟨_,z,z,_,z,lZ z ⟨_,z,.inl ⟨z,_,bj.bM aL⟩,st,_,v,z,z,aL,(by simp),?_⟩⟩⟩⟩⟩⟩⟩⟩⟩⟩;rw[uu];have qy:=W.xW iE;have Kz:=vV.sX qy.d9;refine⟨_,_,z,Kz,fun I=>(by cases I),fun _=>jn _ c 2 (aV.refl.V (.inl (by simp))) qy.d9 qy.w z⟩
   |@FU _ _ _ _ x y _ iN i7 yM QY=>
    obtain⟨fL,uX,rfl,K6,E3⟩:=vs.dg;obtain⟨l,qu,rfl,iE,E2⟩:=K6.dg;refine⟨_,z,z,_,z,cu (cK (by omega)) ⟨_,z,z,_,z,cu (cK (by omega)) ⟨_,z,z,_,z,cu (cK (by omega)) ⟨_,z,z,_,z,cu (cK (by omega)) ⟨_,z,z,_,z,cu (cK (by omega)) ⟨_,z,z,_,z,cu (cK (by omega)) ⟨_,z,z,_,z,cu (cK (by omega)) ⟨_,z,z,_,z,cu (cK (by omega)) ⟨_,z,z,_,z,cu (cK (by omega)) ⟨_,z,.inl ⟨z,_,bj.bM aL⟩,st,_,uX,z,z,aL,(by simp),?_⟩⟩⟩⟩⟩⟩⟩⟩⟩⟩;rw[uu];have aj:V aI st (.ak (l++[qu])) st=some (.ak (l++[qu])):=aP;refine⟨_,z,.inl ⟨z,_,bj.bM aj⟩,_,z,_,z,.inl ⟨z,_,bj.bM aj⟩,st,_,qu,z,z,aj,(by simp),?_⟩;rw[uu,jz];have qy:=W.xW iE;refine⟨_,z,bW,_,_,z,i7,yM,?_⟩;refine .inr ⟨_,_,E2.sX qy.d9,E3.sX qy.d9,?_,jn _ c 2 (aV.refl.V (.inl (by simp))) qy.d9 qy.w z⟩;revert QY;generalize x.isFn=kB;generalize y.isFn=m6;cases kB<;>cases m6<;>decide
end
end Cl
namespace bF
open PySem
theorem aV.E6{M N:List Addr}{q7 aI a7:aA}(h:aV M q7 aI)(k:aV N aI a7)(h7:∀b∈N,b∈M\/q7 b=none):aV M q7 a7:=fun b o e n=>k b o (h b o e n) fun I=>by
 rcases h7 b I with q|q
 .exact n q
 .rw[e]at q;cases q
end bF
namespace Z
theorem iF.agn{aS:List gC}{al m:Nat}{code:List eO}{cS:Nat}{kn iN:List eH}{c:Nat}{cs:List Fr}{k:Nat}{out:p6}{v:Nat}(h:iF aS al m code ⟨cS,kn,iN,c⟩ cs k out)(aL:code[cS]?=some (4,v)):
  ∃x y sk',iN=x::y::sk'/\((y.isFn=false/\out=.kP 2)\/∃(b:Nat)(l:List eH),y=.fn b l/\((k=al/\out=.kP 3)\/(k<al/\cs.length=128/\out=.kP 4)\/
   (k<al/\cs.length<128/\l.length<h9/\∃av kW,m=kW+1/\aS[b]?=some av/\iF aS al kW av.cE ⟨0,inside av.own b l x,sk',c⟩ (⟨code,kn,cS+1⟩::cs) (k+1) out))):=by
 have lt:cS<code.length:=(gn.mp aL).1;cases h with
 |lX ai aj=>rw[aL]at ai;cases ai;exact absurd z aj
 |jn ai aj=>rw[aL]at ai;cases ai;exact absurd z aj
 |call ai aj bN ez i7 sR=>exact⟨_,_,_,z,.inr ⟨_,_,z,.inr (.inr ⟨aj,bN,ez,_,_,z,i7,sR⟩)⟩⟩
 |DE ai=>exact⟨_,_,_,z,.inl ⟨z,z⟩⟩
 |Al ai=>exact⟨_,_,_,z,.inr ⟨_,_,z,.inl ⟨z,z⟩⟩⟩
 |DC ai aj bN=>exact⟨_,_,_,z,.inr ⟨_,_,z,.inr (.inl ⟨aj,bN,z⟩)⟩⟩
 |ret ai=>exact absurd ai (by dsimp only;omega)
 |done ai=>omega
theorem iF.ahA{aS:List gC}{al m:Nat}{code:List eO}{L:m4}{cs:List Fr}{k:Nat}{out:p6}(h:iF aS al m code L cs k out)(aD:code.length<=L.cS):
  (∃f BL kW,cs=f::BL/\m=kW+1/\iF aS al kW f.code ⟨f.cS,f.uN,L.stack,L.cells⟩ BL k out)\/(cs=[]/\∃v sk',L.stack=v::sk'/\out=.val v k L.cells):=by
 have no:∀s,code[L.cS]?≠some s:=fun s e=>by have:=(gn.mp e).1;omega
 cases h with
 |lX ai aj=>exact absurd ai (no _)
 |jn ai aj=>exact absurd ai (no _)
 |call ai=>exact absurd ai (no _)
 |DE ai=>exact absurd ai (no _)
 |Al ai=>exact absurd ai (no _)
 |DC ai=>exact absurd ai (no _)
 |ret ai aj=>exact .inl ⟨_,_,_,z,z,aj⟩
 |done ai=>exact .inr ⟨z,_,_,z,z⟩
end Z
namespace Cl
open PySem PySem.Spec PyProof.Rows bF
theorem xS{cL ik:Type}{F Dg:cL->ik->Prop}:∀{l:List cL}{m:List ik},Paired F l m->(∀x∈l,∀y,F x y->Dg x y)->Paired Dg l m
 |_,_,.nil,_=>.nil
 |_,_,.cons r t,h=>.cons (h _ iO _ r) (xS t fun x Y=>h x (gz _ Y))
theorem Sj{cL ik:Type}{F:cL->ik->Prop}:∀{l:List cL}{m:List ik},Paired F l m->∀{i:Nat}{x:cL},l[i]?=some x->∃y,m[i]?=some y/\F x y
 |_,_,.nil,i,y,e=>by simp at e
 |_,_,.cons r t,0,y,e=>by simp at e;subst e;exact⟨_,z,r⟩
 |_,_,.cons r t,i+1,y,e=>by
  obtain⟨x,aq,aj⟩:=Sj t (i:=i) (by simpa using e);exact⟨x,by simpa using aq,aj⟩
structure Br where
 cy:Addr
 eU:Addr
 b7:Addr
 kn:Addr
structure zW(a:bU)(bx:List Addr)(q7 G H:aA)(f:Br)(d9:Z.Fr):Prop where
 qE:G f.cy=none
 run:H f.cy=some (wK a f.eU f.b7 f.kn d9.cS)
 yK:G f.kn=none
 kn:∃xs,H f.kn=some (.ak xs)/\g6 a bx G xs d9.uN
 st:∃b8,G f.b7=some (.ak (b8.map aa.ref))/\jN G b8 d9.code
 wG:q7 f.cy=none
 MU:q7 f.kn=none
section
variable{a:bU}{bx:List Addr}{q7 G H eg H':aA}{f:Br}{d9:Z.Fr}{M:List Addr}
theorem zW.keep(h:zW a bx q7 G H f d9)(k:aV M H H')(s:be G eg)(n:rf H G eg)(ai:f.cy∉M)(aj:f.kn∉M):zW a bx q7 eg H' f d9:=by
 obtain⟨xs,k1,k2⟩:=h.kn;obtain⟨b8,pe,kr⟩:=h.st;exact⟨n _ (by rw[h.run];exact fun I=>(by cases I)) h.qE,k _ _ h.run ai,n _ (by rw[k1];exact fun I=>(by cases I)) h.yK,⟨xs,k _ _ k1 aj,k2.keep s⟩,⟨b8,s _ _ pe,kr.same s⟩,h.wG,h.MU⟩
end
structure UB(a:bU)(aS:List Z.gC)(q7 G H:aA)(ah a8 av:Addr)(bx:List Addr)(al k:Nat)(o:aa)(st cl:Addr)(f:Br)(bA:List Br)(code:List Z.eO)(L:Z.m4)(cs:List Z.Fr):Prop where
 w:sA a aS G H ah a8 av bx al k o f.kn st L.uN L.stack L.cells
 qE:G f.cy=none
 run:H f.cy=some (wK a f.eU f.b7 f.kn L.cS)
 asz:∃b8,G f.b7=some (.ak (b8.map aa.ref))/\jN G b8 code
 Xg:G cl=none
 DF:H cl=some (.ak ((bA.map fun f=>aa.ref f.cy).reverse))
 d9:Paired (zW a bx q7 G H) bA cs
 wG:(f.cy::bA.map (·.cy)).Nodup
 MU:(cl::st::f.kn::bA.map (·.kn)).Nodup
 W9:q7 f.cy=none
 Wp:q7 f.kn=none
 LR:q7 cl=none
def UM(a:bU)(aS:List Z.gC)(G H:aA)(ah a8 av:Addr)(bx:List Addr)(al:Nat)(o:aa)(aq4 st cl:Addr)(out:Z.p6)(m:Nat)(O:bF.St)(H':aA):Prop:=
 ∃(eg:aA)(f:Br)(bA:List Br)(code:List Z.eO)(L:Z.m4)(cs:List Z.Fr)(k:Nat)(dO mh:Option aa),O=[some (.ref ah),some (.ref aq4),some (.ref st),some (.ref f.cy),some (.ref cl),dO,mh]/\aV [ah,st] H H'/\be G eg/\rf H G eg/\
  UB a aS H eg H' ah a8 av bx al k o st cl f bA code L cs/\Z.iF aS al m code L cs k out
def asu(a:bU):dj:=fun vs H Q E=>∃(G:aA)(ah a8 av b7 st:Addr)(bx b8:List Addr)(aS:List Z.gC)(al k c n:Nat)(o:aa)(code:List Z.eO)(iN:List Z.eH)(xs:List aa)(out:Z.p6),
 vs=[.ref ah,.ref b7,.ref st]/\be G H/\q4 a G av bx aS/\G ah=none/\G st=none/\H ah=some (j5 a a8 av al k c o)/\H st=some (.ak xs)/\g6 a bx G xs iN.reverse/\G b7=some (.ak (b8.map aa.ref))/\jN G b8 code/\Z.iF aS al n code ⟨0,[],iN,c⟩ [] k out/\
 (∀(H' eg:aA)(x:aa)(v:Z.eH)(fj c':Nat),aV [ah,st] H H'->be G eg->rf H G eg->be eg H'->H' ah=some (j5 a a8 av al fj c' o)->pG a bx eg x v->out=.val v fj c'->Q x H')/\
 (∀(H' eg:aA)(e fj c':Nat)(d:Addr),aV [ah,st] H H'->be G eg->be eg H'->H' ah=some (j5 a a8 av al fj c' o)->H' d=some (.pW [("fault",.int (e:Int))])->out=.kP e->E (.ref a.sH) (some d) H')
theorem CW:dP ["self","steps","stack","running","callers","argument","called"] ["self","steps","stack"] (cT ab1):=by trivial
theorem tZ{b x y:Addr}(h:b∈[x,y]):b=x\/b=y:=by simpa using h
theorem aiU{a:bU}{bx:List Addr}{q7 G H:aA}{bA:List Br}{cs:List Z.Fr}(h:Paired (zW a bx q7 G H) bA cs):bA.length=cs.length:=kX h
section
variable{P:Program}{w:World}{K:Frag}{az:Str->Option Value}{base:Heap}{a:bU}
theorem ao1(T:Txt K az a):cZ P w K az base (cW P w) 5 a.Iw a.GI ["self","steps","stack"] (asu a):=by
 refine T.aiO.dZ CW (fun vs H Q E h=>?_) (fun cJ A outer s H vs Q E aO h=>?_)
 .obtain⟨G,ah,a8,av,b7,st,bx,b8,aS,al,k,c,n,o,code,iN,xs,out,rfl,_⟩:=h;rfl
 .obtain⟨G,ah,a8,av,b7,st,bx,b8,aS,al,k,c,n,o,code,iN,xs,out,rfl,rX,eF,lG,sP,hw,iR,TS,BY,DP,xr,jr,dM⟩:=h;have l7:sizeLine=16777216:=gU;refine⟨_,bh (dU (i:=3) CW.aH z (Or.inl z) (mE T.Zz (aac T) aO.dw z T.Zl T.U8 .nil bZ (aE (af 1) (aE (gx aY) aY))))
   (bh (dU (i:=4) CW.aH z (Or.inl z) (gx aY))
   (bl (A0 gT.own (vM M7)
    (bl (d7 (vM (qN (af 0) T.gX T.amx (aov T) aO T.afD .nil bZ (aE (af 3) (aE (af 2) aY))))
     (bh (dU (i:=5) CW.aH z (Or.inl z) (vJ gZ vX wV vE (af 2)))
     (bh (dU (i:=6) CW.aH z (Or.inl z) (vJ gZ vX wV vE (af 2)))
     (bh (fD (qN (af 0) T.gX T.amw (aos T) aO.dw T.afC .nil bZ (aE (af 6) (aE (j3 mu (by rfl) T.mC m3 (aE (af 4) aY)) aY))))
     (bh (fD (jk gZ k7 lA kU (af 4) (aE (af 3) aY)))
     (bl (dU (i:=3) CW.aH z (Or.inl z) (mE T.Zz (aac T) aO.dw z T.Zl T.U8 .nil bZ (aE (bG (bG (af 6) z) z) (aE (fU (aoy T) aO.dw z T.amV T.WL.cN T.afT .nil bZ (aE (af 6) (aE (af 5) aY))) aY)))))))))
     (bl (d7 (Ni (af 4) (fun _=>rfl))
      (bl (dU (i:=3) CW.aH z (Or.inl z) (vJ gZ vX wV vE (af 4))))
      (bl (di (vJ gZ vX wV vE (af 2))))))))))),?_⟩
  refine⟨_,z,jV _,fun kn DX=>?_⟩;intro cy eU aq ay bB;obtain⟨abb,vz⟩:=e8 aq;obtain⟨ahf,mz⟩:=e8 ay;refine⟨cy,eU,_,_,z,aP,z,?_⟩;have nK:aV [ah,st] H (V (V (V (V H kn (.ak [])) eU (.own cy)) cy (.au a.kC eU [])) cy (.au a.kC eU (oG (.ref b7) (.ref kn) (.int 0)))):=(((aV.refl.V (.inr DX)).V (.inr mz)).V (.inr vz)).V (.inr vz);have NL:be H (V (V (V (V H kn (.ak [])) eU (.own cy)) cy (.au a.kC eU [])) cy (.au a.kC eU (oG (.ref b7) (.ref kn) (.int 0)))):=cj (cj (cj (cj (be.refl H) DX) mz) vz) vz;have iG:(V (V (V (V H kn (.ak [])) eU (.own cy)) cy (.au a.kC eU [])) cy (.au a.kC eU (oG (.ref b7) (.ref kn) (.int 0)))) cy=some (wK a eU b7 kn 0):=aP;have kN:(V (V (V (V H kn (.ak [])) eU (.own cy)) cy (.au a.kC eU [])) cy (.au a.kC eU (oG (.ref b7) (.ref kn) (.int 0)))) kn=some (.ak []):=by
   rw[aK (bC abb),aK (bC abb),aK (bC ahf),aP]
  generalize (V (V (V (V H kn (.ak [])) eU (.own cy)) cy (.au a.kC eU [])) cy (.au a.kC eU (oG (.ref b7) (.ref kn) (.int 0))))=aI at nK NL iG kN⊢;refine⟨jV _,fun cl oV=>?_⟩;have yH:H cl=none:=NL.free oV;have KZ:be H (V aI cl (.ak [])):=cj NL yH;have ir:aV [ah,st] H (V aI cl (.ak [])):=nK.V (.inr yH);have VE:kn≠cl:=eI kN oV;have ag4:cy≠cl:=eI iG oV;have m5:V aI cl (.ak []) cy=some (wK a eU b7 kn 0):=by rw[aK ag4];exact iG
  have OE:V aI cl (.ak []) kn=some (.ak []):=by rw[aK VE];exact kN
  have OF:V aI cl (.ak []) cl=some (.ak []):=aP;generalize V aI cl (.ak [])=a7 at KZ ir m5 OE OF⊢;have ZS:kn≠st:=fun I=>(by rw[I,iR]at DX;cases DX);have anD:cl≠st:=fun I=>(by rw[I,iR]at yH;cases yH);have Lo:UB a aS H G a7 ah a8 av bx al k o st cl ⟨cy,eU,b7,kn⟩ [] code ⟨0,[],iN,c⟩ []:=
   ⟨⟨rX.trans KZ,eF,lG,rX.free DX,sP,ZS,KZ _ _ hw,⟨[],OE,.nil⟩,⟨xs,KZ _ _ iR,TS⟩⟩,rX.free vz,m5,⟨b8,BY,DP⟩,rX.free yH,OF,.nil,by simp,by simp[anD,bC VE,bC ZS],vz,DX,yH⟩
  refine⟨UM a aS G H ah a8 av bx al o b7 st cl out,⟨n,G,⟨cy,eU,b7,kn⟩,[],code,_,[],k,_,_,z,ir,be.refl _,fun b _ h=>h,Lo,xr⟩,?_⟩;clear Lo m5 OE OF ir KZ NL nK iG kN xr oV;rintro m O bI ⟨FA,f,bA,dm,L,cs,k3,dO,mh,rfl,gh,j4,qn,fY,gY⟩;refine⟨true,z,lY ?_⟩;refine⟨fun cB H'=>∃dB,dB<m/\UM a aS G H ah a8 av bx al o b7 st cl out dB cB H',fun _ _ h=>h,?_⟩;obtain⟨adE,ado,adp⟩:=fY.asz;have Xq:∀b,bI b=none->H b=none:=fun b e=>gh.fresh e (fun c aB=>by
   rcases tZ aB with rfl|rfl
   .exact⟨_,fY.w.w⟩
   .obtain⟨xs,q,_⟩:=fY.w.s;exact⟨_,q⟩)
  obtain⟨anZ,an0⟩:=um.mp fY.wG;obtain⟨Kv,anH⟩:=um.mp fY.MU;obtain⟨RK,ZR⟩:=um.mp anH;obtain⟨anI,anJ⟩:=um.mp ZR;have F1:cl≠st:=fun I=>Kv (by simp[I]);have VG:cl≠f.kn:=fun I=>Kv (by simp[I]);have LI:cl≠ah:=fQ fY.DF fY.w.w (by intro q;cases q);have VI:cl≠f.cy:=fQ fY.DF fY.run (by intro q;cases q);have LX:∀n9∈bA,∀d9,zW a bx H FA bI n9 d9->n9.cy∉[ah,f.cy,f.kn,st]/\n9.kn∉[ah,f.cy,f.kn,st]:=fun n9 Qm d9 F=>by
   obtain⟨avp,apv,_⟩:=fY.w.k;obtain⟨xs,jv,_⟩:=fY.w.s;obtain⟨adT,Nj,_⟩:=F.kn;have ou:n9.cy≠ah:=fun I=>by
    have q:=F.run;rw[I,fY.w.w]at q;have:=j7 q;injection this with q _ _
    exact jZ T.aH 11 10 (by decide) z z q
   have r7:n9.cy≠f.cy:=fun I=>anZ (by rw[<-I];exact mem_map_of_mem Qm);have wQ:n9.cy≠f.kn:=fQ F.run apv (by intro q;cases q);have Bf:n9.cy≠st:=fQ F.run jv (by intro q;cases q);have q1:n9.kn≠ah:=fQ Nj fY.w.w (by intro q;cases q);have jy:n9.kn≠f.cy:=fQ Nj fY.run (by intro q;cases q);have NZ:n9.kn≠f.kn:=fun I=>anI (by rw[<-I];exact mem_map_of_mem Qm);have atm:n9.kn≠st:=fun I=>RK (by rw[<-I];exact gz _ (mem_map_of_mem Qm));simp[ou,r7,wQ,Bf,q1,jy,NZ,atm]
  have Ra:∀b6,aV [ah,f.cy,f.kn,st] bI b6->aV [ah,st] H b6:=fun b6 q=>gh.E6 q (fun b ae=>by
   simp at ae;rcases ae with rfl|rfl|rfl|rfl
   .exact .inl (by simp)
   .exact .inr fY.W9
   .exact .inr fY.Wp
   .exact .inl (by simp))
  have VF:cl∉[ah,f.cy,f.kn,st]:=by simp[LI,VI,VG,F1]
  refine⟨_,z,ah,a8,_,z,fY.w.w,aeG,_,z,_,z,FA,ah,a8,av,f.cy,f.eU,f.b7,f.kn,st,bx,adE,aS,al,k3,m,o,dm,L,cs,out,z,fY.w,fY.qE,fY.run,ado,adp,gY,?_,?_,?_⟩
  .rintro b6 sq FD AI v jh eo hU we QI lI br BO;obtain⟨cS,kw,avk,vm⟩:=FD;dsimp only at we QI lI;have fG:=Ra b6 jh;have MT:rf H G sq:=fun b ai aj=>hU b (fun I=>ai (Xq b I)) (qn b ai aj);have yQ:=jh _ _ fY.DF VF;have Jx:sq cl=none:=hU _ (by rw[fY.DF];exact fun I=>(by cases I)) fY.Xg;have ajy:sq f.cy=none:=hU _ (by rw[fY.run];exact fun I=>(by cases I)) fY.qE;obtain⟨x,y,sk',rfl,Ca⟩:=BO.agn lI;obtain⟨ss,uL,K7⟩:=we.s;obtain⟨fL,qu,rfl,K6,E2⟩:=K7.dg;obtain⟨l,uX,rfl,iE,E3⟩:=K6.dg;refine⟨true,z,lY ?_⟩;refine⟨_,z,.inl ⟨z,_,bj.bM uL⟩,st,_,qu,z,z,uL,(by simp),?_⟩;rw[uu];have i7:V b6 st (.ak (l++[uX])) st=some (.ak (l++[uX])):=aP;refine⟨_,z,.inl ⟨z,_,bj.bM i7⟩,st,_,uX,z,z,i7,(by simp),?_⟩;rw[uu,jz];have lT:=we.xW iE;have apU:f.cy≠st:=fQ QI uL (by intro q;cases q);have Mm:V b6 st (.ak l) f.cy=some (wK a f.eU f.b7 f.kn (cS+1)):=by rw[aK apU];exact QI
   have My:aV [ah,st] H (V b6 st (.ak l)):=fG.V (.inl (by simp));have Mx:aV [ah,f.cy,f.kn,st] bI (V b6 st (.ak l)):=jh.V (.inl (by simp));have JJ:V b6 st (.ak l) cl=some (.ak ((bA.map fun f=>aa.ref f.cy).reverse)):=by rw[aK F1];exact yQ
   generalize V b6 st (.ak l)=H5 at lT Mm My Mx JJ⊢;have jn:∀(e:Nat),out=.kP e->zV a E H5 e:=fun e e7 d aG=>
    dM _ sq e k3 vm d (My.trans (aV.refl.V (.inr aG))) (j4.trans eo) (qU lT.d9 (lT.d9.free aG)) (by rw[aK (eI lT.w aG)];exact lT.w) aP e7
   have Re:((bA.map fun f=>aa.ref f.cy).reverse).length=cs.length:=by rw[tE,cA];exact aiU fY.d9
   refine⟨_,z,ah,a8,_,z,lT.w,aeF,_,z,_,z,cl,_,z,.inl (bj.bM JJ),ah,a8,av,al,k3,vm,_,o,uX,!y.isFn,z,lT.w,E3.sX lT.d9,fun ae=>?_,fun ae aJ=>?_,fun ae aJ aG=>?_,fun ae aJ aG=>?_⟩
   .rcases Ca with⟨_,q⟩|⟨b,zc,rfl,_⟩
    .exact jn 2 q
    .cases ae
   .rcases Ca with⟨q,_⟩|⟨b,zc,rfl,q|q|q⟩
    .rw[q]at ae;cases ae
    .exact jn 3 q.2
    .exact absurd aJ (by omega)
    .exact absurd aJ (by omega)
   .rw[Re]at aG;rcases Ca with⟨q,_⟩|⟨b,zc,rfl,q|q|q⟩
    .rw[q]at ae;cases ae
    .exact absurd q.1 aJ
    .exact jn 4 q.2.2
    .exact absurd aG (by omega)
   .rw[Re]at aG;rcases Ca with⟨q,_⟩|⟨b,zc,rfl,q|q|⟨aW,bf,df,FW,kW,rfl,L5,Pg⟩⟩
    .rw[q]at ae;cases ae
    .exact absurd q.1 aJ
    .exact absurd q.2.1 aG
    unfold Z.h9 at df;clear jn;have C8:ah≠st:=fun I=>(by obtain⟨oz,E7,_⟩:=lT.s;exact fQ lT.w E7 (by intro q;cases q) I);have Q6:aV [ah,cl] H5 (V (V H5 ah (j5 a a8 av al (k3+1) vm o)) cl (.ak ((bA.map fun f=>aa.ref f.cy).reverse++[.ref f.cy]))):=(aV.refl.V (.inl (by simp))).V (.inl (by simp));have XK:V H5 ah (j5 a a8 av al (k3+1) vm o) cl=some (.ak ((bA.map fun f=>aa.ref f.cy).reverse)):=by rw[aK LI];exact JJ
    refine⟨_,z,.inl ⟨z,_,bj.bM XK⟩,_,z,cl,_,_,z,z,XK,(by rw[Re];omega),?_⟩;have QU:V (V H5 ah (j5 a a8 av al (k3+1) vm o)) cl (.ak ((bA.map fun f=>aa.ref f.cy).reverse++[.ref f.cy])) ah=some (j5 a a8 av al (k3+1) vm o):=by rw[aK (bC LI),aP]
    have Qg:V (V H5 ah (j5 a a8 av al (k3+1) vm o)) cl (.ak ((bA.map fun f=>aa.ref f.cy).reverse++[.ref f.cy])) cl=some (.ak ((bA.map fun f=>aa.ref f.cy).reverse++[.ref f.cy])):=aP;have CR:be sq (V (V H5 ah (j5 a a8 av al (k3+1) vm o)) cl (.ak ((bA.map fun f=>aa.ref f.cy).reverse++[.ref f.cy]))):=qU (qU lT.d9 lT.lG) Jx;generalize V (V H5 ah (j5 a a8 av al (k3+1) vm o)) cl (.ak ((bA.map fun f=>aa.ref f.cy).reverse++[.ref f.cy]))=pB at Q6 QU Qg CR⊢;cases E3 with
    |@fn p eE lk bV _ xs _ g1 g2 g3 lg=>
     obtain⟨dK,iZ,gk,kB,m6,yw⟩:=lT.bV.at_ _ _ _ g2 L5;have X9:=CR _ _ g1;have XE:=CR _ _ kB;have ako:=CR _ _ g3;have lj:=lg.len;refine⟨_,z,p,_,eE,_,_,z,X9,T.uC,T.RB,Ul,bV,_,dK,_,_,z,XE,T.xe,T.Rx,Uh,_,z,_,z,p,eE,bV,dK,lk,qu,_,_,FW.own,xs,z,X9,XE,ako,(by omega),fun Dm q KW a9 jF=>?_⟩;intro cy eU aq ay bB;refine⟨cy,eU,_,_,z,aP,z,?_⟩;have zy:pB cy=none:=KW.free aq;have VS:pB eU=none:=KW.free ay;have KV:be pB (V (V (V Dm eU (.own cy)) cy (.au a.kC eU [])) cy (.au a.kC eU (oG (.ref iZ) (.ref q) (.int 0)))):=cj (cj (cj KW VS) zy) zy;have iG:(V (V (V Dm eU (.own cy)) cy (.au a.kC eU [])) cy (.au a.kC eU (oG (.ref iZ) (.ref q) (.int 0)))) cy=some (wK a eU iZ q 0):=aP;have aa1:q≠cy:=eI jF aq;have apu:q≠eU:=eI jF ay;have kN:(V (V (V Dm eU (.own cy)) cy (.au a.kC eU [])) cy (.au a.kC eU (oG (.ref iZ) (.ref q) (.int 0)))) q=some (.ak (xs++(if FW.own=1 then[qu]else[.ref p,qu]))):=by
      rw[aK aa1,aK aa1,aK apu];exact jF
     generalize (V (V (V Dm eU (.own cy)) cy (.au a.kC eU [])) cy (.au a.kC eU (oG (.ref iZ) (.ref q) (.int 0))))=Dn at KV iG kN⊢;have J5:aV [ah,cl] H5 Dn:=Q6.trans KV.gh;have alM:aV [ah,st] H Dn:=My.E6 J5 (fun b ae=>by
      rcases tZ ae with rfl|rfl
      .exact .inl (by simp)
      .exact .inr fY.LR)
     have Xr:∀b,H5 b=none->H b=none:=fun b e=>My.fresh e (fun c aB=>by
      rcases tZ aB with rfl|rfl
      .exact⟨_,lT.w⟩
      .obtain⟨xs,q,_⟩:=lT.s;exact⟨_,q⟩)
     have L3:∀b,pB b=none->H5 b=none:=fun b e=>Q6.fresh e (fun c aB=>by
      rcases tZ aB with rfl|rfl
      .exact⟨_,QU⟩
      .exact⟨_,Qg⟩)
     obtain⟨alW,Qt,aty⟩:=lT.k;obtain⟨qq,hsz,atz⟩:=lT.s;have alloc:∀b o,H5 b=some o->b≠cy/\b≠q:=fun b o e=>⟨fun I=>(by rw[I,L3 _ zy]at e;cases e),fun I=>(by rw[I,L3 _ a9]at e;cases e)⟩;have Bq:zW a bx H sq Dn f ⟨dm,kw,cS+1⟩:=by
      have ou:f.cy≠ah:=fun I=>by
       have q:=Mm;rw[I,lT.w]at q;have:=j7 q;injection this with q _ _
       exact jZ T.aH 11 10 (by decide) z z q
      have r7:f.kn≠ah:=fQ Qt lT.w (by intro q;cases q);exact⟨ajy,J5 _ _ Mm (by simp[ou,bC VI]),lT.yK,⟨alW,J5 _ _ Qt (by simp[r7,bC VG]),aty⟩,⟨adE,eo _ _ ado,adp.same eo⟩,fY.W9,fY.Wp⟩
     have Om:Paired (zW a bx H sq Dn) bA cs:=xS fY.d9 fun g dz y eK=>by
      obtain⟨uY,uZ⟩:=LX g dz _ eK;have By:=eK.keep Mx eo hU uY uZ;obtain⟨adU,SG,_⟩:=By.kn;have fT:g.cy≠cl:=fQ By.run JJ (by intro q;cases q);have gb:g.kn≠cl:=fun I=>Kv (gz _ (gz _ (by rw[<-I];exact mem_map_of_mem dz)));have nR:g.cy≠ah:=fun I=>uY (by simp[I]);have r8:g.kn≠ah:=fun I=>uZ (by simp[I]);exact By.keep (M:=[ah,cl]) J5 (be.refl _) (fun b _ h=>h) (by simp[fT,nR]) (by simp[gb,r8])
     refine⟨kW,by omega,sq,⟨cy,eU,iZ,q⟩,f::bA,FW.cE,⟨0,Z.inside FW.own b zc x,sk',vm⟩,⟨dm,kw,cS+1⟩::cs,k3+1,_,_,z,alM,j4.trans eo,MT,?_,Pg⟩;have Nk:q≠st:=bC (alloc _ _ hsz).2;have apt:q≠cl:=bC (alloc _ _ JJ).2;refine⟨⟨CR.trans KV,lT.bV,lT.lG,CR.free a9,lT.sP,Nk,KV _ _ QU,⟨_,kN,?_⟩,⟨qq,J5 _ _ hsz (by simp[bC C8,bC F1]),atz⟩⟩,CR.free zy,iG,⟨gk,m6,yw⟩,Jx,?_,.cons Bq Om,?_,?_,Xr _ (L3 _ zy),Xr _ (L3 _ a9),fY.LR⟩
     .unfold Z.inside;refine lg.append ?_;by_cases aT:FW.own=1
      .rw[bT aT,bT aT];exact .pQ E2
      .rw[bz aT,bz aT];exact .cons (.fn g1 g2 g3 lg) (.pQ E2)
     .rw[j6,zL];exact KV _ _ Qg
     .refine um.mpr ⟨fun I=>?_,fY.wG⟩;rcases dG.mp I with I|I
      .exact(alloc _ _ Mm).1 I.symm
      .obtain⟨g,dz,Pe⟩:=vY.mp I;obtain⟨j,bQ⟩:=vZ dz;obtain⟨y,bu,eK⟩:=Sj fY.d9 bQ;obtain⟨uY,uZ⟩:=LX g dz _ eK;exact(alloc _ _ (Mx _ _ eK.run uY)).1 Pe
     .refine um.mpr ⟨fun I=>?_,um.mpr ⟨fun I=>?_,um.mpr ⟨fun I=>?_,ZR⟩⟩⟩
      .rcases dG.mp I with I|I
       .exact F1 I
       .rcases dG.mp I with I|I
        .exact apt I.symm
        .exact Kv (gz _ I)
      .rcases dG.mp I with I|I
       .exact Nk I.symm
       .exact RK I
      .rcases dG.mp I with I|I
       .exact(alloc _ _ Qt).2 I.symm
       .obtain⟨g,dz,Pe⟩:=vY.mp I;obtain⟨j,bQ⟩:=vZ dz;obtain⟨y,bu,eK⟩:=Sj fY.d9 bQ;obtain⟨uY,uZ⟩:=LX g dz _ eK;obtain⟨adU,SG,_⟩:=eK.kn;exact(alloc _ _ (Mx _ _ SG uZ)).2 Pe
  .rintro b6 sq FD AI jh eo hU we JK br BO;have fG:=Ra b6 jh;have MT:rf H G sq:=fun b ai aj=>hU b (fun I=>ai (Xq b I)) (qn b ai aj);have yQ:=jh _ _ fY.DF VF;obtain⟨atP,uL,K7⟩:=we.s;refine⟨false,z,nt ?_⟩;rcases BO.ahA JK with⟨d9,BL,kW,rfl,rfl,Pg⟩|⟨rfl,v,sk',ahI,rfl⟩
   .have As:=fY.d9;have akG:=an0;have akE:=anJ;have XW:=RK;have Qq:=Kv;have XO:=LX;cases As with
    |@cons n9 _ Js _ F Om=>
     rw[j6,zL]at yQ;refine⟨_,z,true,.inl ⟨_,bj.bM yQ,by simp⟩,lY ?_⟩;refine⟨_,z,.inl ⟨z,_,bj.bM yQ⟩,cl,_,.ref n9.cy,z,z,yQ,(by simp),?_⟩;rw[uu];obtain⟨ah9,aia⟩:=XO n9 iO _ F;have Di:=F.keep jh eo hU ah9 aia;obtain⟨adT,Nj,atx⟩:=Di.kn;have aiS:n9.cy≠cl:=fQ Di.run yQ (by intro q;cases q);have ah7:n9.kn≠cl:=fun I=>Qq (by simp[I]);have ah8:n9.kn≠st:=fun I=>XW (by simp[I]);have atF:ah≠cl:=bC LI;refine⟨kW,by omega,sq,n9,Js,d9.code,⟨d9.cS,d9.uN,FD.stack,FD.cells⟩,BL,k3,_,_,z,fG.V (.inr fY.LR),j4.trans eo,MT,?_,Pg⟩;have Jx:sq cl=none:=hU _ (by rw[fY.DF];exact fun I=>(by cases I)) fY.Xg;refine⟨⟨qU we.d9 Jx,we.bV,we.lG,Di.yK,we.sP,ah8,by rw[aK atF];exact we.w,⟨adT,by rw[aK ah7];exact Nj,atx⟩,⟨atP,by rw[aK (bC F1)];exact uL,K7⟩⟩,Di.qE,by rw[aK aiS];exact Di.run,Di.st,Jx,aP,?_,akG,?_,F.wG,F.MU,fY.LR⟩
     .refine xS Om fun g dz y eK=>?_;obtain⟨uY,uZ⟩:=XO g (gz _ dz) _ eK;have By:=eK.keep jh eo hU uY uZ;obtain⟨adU,SG,_⟩:=By.kn;have fT:g.cy≠cl:=fQ By.run yQ (by intro q;cases q);have gb:g.kn≠cl:=fun I=>Qq (by simp;exact .inr (.inr (.inr ⟨g,dz,I⟩)));exact By.keep (M:=[cl]) (aV.refl.V (.inl (by simp))) (be.refl _) (fun b _ h=>h) (by simpa using fT) (by simpa using gb)
     .have ay:cl∉st::n9.kn::Js.map (·.kn):=fun I=>Qq (by simp at I⊢;rcases I with I|I|I<;>simp[I]);have aq:st∉n9.kn::Js.map (·.kn):=fun I=>XW (by simp at I⊢;rcases I with I|I<;>simp[I]);exact um.mpr ⟨ay,um.mpr ⟨aq,akE⟩⟩
   .have As:=fY.d9;cases As;refine⟨_,z,false,.inl ⟨_,bj.bM yQ,z⟩,nt ?_⟩;rw[ahI]at K7;obtain⟨l,x,rfl,iE,qu⟩:=K7.dg;refine⟨_,z,.inl ⟨z,_,bj.bM uL⟩,st,_,x,z,z,uL,(by simp),?_⟩;rw[uu];have lT:=we.xW iE;exact jr _ sq x v k3 FD.cells (fG.V (.inl (by simp))) (j4.trans eo) MT lT.d9 lT.w qu z
  .rintro b6 sq e c' d jh eo lO Ea aG aT;exact dM b6 sq e k3 c' d (Ra b6 jh) (j4.trans eo) lO Ea aG aT
end
section
variable{X:cQ}{K:Frag}{o value:Expr}{fF:Str}{eR l9:eB}{pos uR:Pos}
theorem apg(j1:X.K=K)(cz:dS X o eR)(ae:attributeBase o fF X.env (eval o X.env)=eval o X.env):dS X (.Attribute o fF pos) (adv K eR fF):=by
 subst j1;exact apf cz ae
theorem apo(j1:X.K=K)(cC:dS X o eR)(a6:dS X value l9)(aL:swapsWith value (some (.Attribute o fF uR)) pos.line X.env=pure false):ri X (.Assign [.Attribute o fF uR] value pos) (abl K eR l9 fF):=by
 subst j1;exact f5 cC a6 aL
end
def Af(a:bU)(M:List Addr)(H G:aA)(ah a8 av:Addr)(bx:List Addr)(al:Nat)(out:Z.p6)(Q:gc):Prop:=
 (∀(H' eg:aA)(x:aa)(v:Z.eH)(fj c':Nat),aV M H H'->be G eg->rf H G eg->be eg H'->H' ah=some (j5 a a8 av al fj c' x)->pG a bx eg x v->out=.val v fj c'->Q (.int (if v.isFn=true then 1 else 0)) H')/\
 (∀(H':aA)(e fj c':Nat),aV M H H'->be G H'->H' ah=some (j5 a a8 av al fj c' .b9)->out=.kP e->Q (.int (e:Int)) H')
def ash(a:bU):dj:=fun vs H Q E=>∃(G:aA)(ah a8 av b7 st:Addr)(bx b8:List Addr)(aS:List Z.gC)(al c n:Nat)(gr iu ku:aa)(code:List Z.eO)(iN:List Z.eH)(xs:List aa)(out:Z.p6),
 vs=[.ref ah,.ref b7,.ref st,.int (al:Int)]/\be G H/\q4 a G av bx aS/\G ah=none/\G st=none/\H ah=some (.au a.fK a8 (fX (.ref av) gr iu (.int (c:Int)) ku))/\H st=some (.ak xs)/\g6 a bx G xs iN.reverse/\G b7=some (.ak (b8.map aa.ref))/\jN G b8 code/\
 Z.iF aS al n code ⟨0,[],iN,c⟩ [] 0 out/\Af a [ah,st] H G ah a8 av bx al out Q
theorem acW:dP ["self","steps","stack","allowed","e"] ["self","steps","stack","allowed"] (cT ab0):=by trivial
section
variable{P:Program}{w:World}{K:Frag}{az:Str->Option Value}{base:Heap}{a:bU}
theorem aap(T:Txt K az a):cZ P w K az base (cW P w) 6 a.Iv a.GH ["self","steps","stack","allowed"] (ash a):=by
 refine T.aiN.dZ acW (fun vs H Q E h=>?_) (fun cJ A outer s H vs Q E aO h=>?_)
 .obtain⟨G,ah,a8,av,b7,st,bx,b8,aS,al,c,n,gr,iu,ku,code,iN,xs,out,rfl,_⟩:=h;rfl
 .obtain⟨G,ah,a8,av,b7,st,bx,b8,aS,al,c,n,gr,iu,ku,code,iN,xs,out,rfl,rX,eF,lG,sP,hw,iR,TS,BY,DP,xr,jr,Q7⟩:=h;refine⟨_,bh (f5 (af 0) (af 3) z)
   (bh (f5 (af 0) dc z)
   (bh (f5 (af 0) EF z)
   (bh (Sw gT (fun eK pl Fo Y=>by exact bl (apo (K:=K) z (af 0) (qN (af 0) T.gX T.amy (ao1 T) aO T.afE .nil Y (aE (af 1) (aE (af 2) aY))) (by rfl)))
    (aph (i:=4) gT.ex acW.aH z z z T.Cp T.Wc (fun x=>by exact bl (di (apg (K:=K) z (af 4) (by rfl)))) Sp))
   (bl (di (AX (vM (j3 (BJ T.Cj T.uC) (by rfl) T.Cx BF (aE (bG (af 0) z) (aE (CI (v:=.jx "int") (by rfl) T.Cw BE z) aY)))) (cH T.L1) (cH T.Jy))))))),?_⟩
  refine⟨_,z,_,z,ah,_,a8,_,z,hw,T.gX,T.RG,nP,?_⟩;rw[aeO];refine⟨_,z,ah,_,a8,_,z,aP,T.gX,T.AN,nP,?_⟩;rw[jz,UG];refine⟨_,z,ah,_,a8,_,z,aP,T.gX,T.wA,nP,?_⟩;rw[jz,UI];have C8:ah≠st:=fQ hw iR (by intro q;cases q);have k1:aV [ah,st] H (V H ah (.au a.fK a8 (fX (.ref av) (.int (al:Int)) (.int 0) (.int (c:Int)) .b9))):=aV.refl.V (.inl (by simp));have aU:be G (V H ah (.au a.fK a8 (fX (.ref av) (.int (al:Int)) (.int 0) (.int (c:Int)) .b9))):=qU rX lG;have ou:V H ah (.au a.fK a8 (fX (.ref av) (.int (al:Int)) (.int 0) (.int (c:Int)) .b9)) ah=some (j5 a a8 av al 0 c .b9):=aP;have ai:V H ah (.au a.fK a8 (fX (.ref av) (.int (al:Int)) (.int 0) (.int (c:Int)) .b9)) st=some (.ak xs):=by rw[aK (bC C8)];exact iR
  have g1:∀b,V H ah (.au a.fK a8 (fX (.ref av) (.int (al:Int)) (.int 0) (.int (c:Int)) .b9)) b=none->H b=none:=fun b e=>(e8 e).2;generalize V H ah (.au a.fK a8 (fX (.ref av) (.int (al:Int)) (.int 0) (.int (c:Int)) .b9))=aI at k1 aU ou ai g1⊢;refine⟨fun rz d H'=>rz=.ref a.sH/\∃(d0:Addr)(e fj c':Nat),d=some d0/\out=.kP e/\aV [ah,st] H H'/\be G H'/\H' ah=some (j5 a a8 av al fj c' .b9)/\H' d0=some (.pW [("fault",.int (e:Int))]),?_,?_⟩
  .refine⟨_,z,ah,a8,_,z,ou,aeH,_,z,_,z,G,ah,a8,av,b7,st,bx,b8,aS,al,0,c,n,.b9,code,iN,xs,out,z,aU,eF,lG,sP,ou,ai,TS,BY,DP,xr,?_,?_⟩
   .rintro H' eg x v fj c' k2 j4 qn bD kj a6 aT;refine⟨_,z,ah,_,a8,_,z,kj,T.gX,T.wA,nP,?_⟩;rw[UI];have ajA:eg ah=none:=qn ah (by rw[ou];exact fun I=>(by cases I)) lG;have wQ:V H' ah (.au a.fK a8 (fX (.ref av) (.int (al:Int)) (.int (fj:Int)) (.int (c':Int)) x)) ah=some (j5 a a8 av al fj c' x):=aP;have b4:be eg (V H' ah (.au a.fK a8 (fX (.ref av) (.int (al:Int)) (.int (fj:Int)) (.int (c':Int)) x))):=qU bD ajA;have k3:aV [ah,st] H (V H' ah (.au a.fK a8 (fX (.ref av) (.int (al:Int)) (.int (fj:Int)) (.int (c':Int)) x))):=(k1.trans k2).V (.inl (by simp));generalize V H' ah (.au a.fK a8 (fX (.ref av) (.int (al:Int)) (.int (fj:Int)) (.int (c':Int)) x))=bI at wQ b4 k3⊢;have fin:=jr bI eg x v fj c' k3 j4 (fun b aW bf=>qn b (fun I=>aW (g1 b I)) bf) b4 wQ a6 aT;refine⟨_,z,ah,_,a8,_,_,z,wQ,T.gX,T.wA,zU,x,!v.isFn,z,a6.sX b4,_,z,?_⟩;cases bq:v.isFn with
    |true=>rw[bq]at fin;exact nt fin
    |false=>rw[bq]at fin;exact lY fin
   .rintro H' eg e fj c' d k2 j4 bD kj aG aT;exact⟨z,d,e,fj,c',z,aT,k1.trans k2,j4.trans bD,kj,aG⟩
  .rintro rz d H' ⟨rfl,d0,e,fj,c',rfl,aT,k2,bD,kj,aG⟩;refine⟨a.sH,_,z,T.Wc,fun cB aD=>?_⟩;unfold Tz;rw[bT z];intro x Y;have pW:d0≠x:=eI aG Y;have alm:(cB.set 4 (some (aa.ref x)))[4]?=some (some (aa.ref x)):=by
    rw[getElem?_set_self (by rw[aD];show 4<5;decide)]
   refine⟨_,alm,x,a.sH,_,d0,_,_,z,aP,T.Bh,(by rw[aK pW];exact aG),z,aP,?_⟩;rw[Vs Y];exact Q7 H' e fj c' k2 bD kj aT
def ade(a:bU):dj:=fun vs H Q E=>∃(G:aA)(ah a8 av:Addr)(bx:List Addr)(aS:List Z.gC)(b0:Z.gC)(al n:Nat)(gr iu r6 ku:aa)(out:Z.p6),
 vs=[.ref ah,.int (al:Int)]/\be G H/\q4 a G av bx aS/\G ah=none/\H ah=some (.au a.fK a8 (fX (.ref av) gr iu r6 ku))/\aS[0]?=some b0/\
 Z.iF aS al n b0.cE ⟨0,[],[],0⟩ [] 0 out/\Af a [ah] H G ah a8 av bx al out Q
theorem aqU:dP ["self","allowed"] ["self","allowed"] (cT abZ):=by trivial
theorem Af.less{H aI G pY:aA}{ah st a8 av:Addr}{bx:List Addr}{al:Nat}{out:Z.p6}{Q:gc}(h:Af a [ah] H G ah a8 av bx al out Q)(k:aV [ah] H aI)(qE:∀b,aI b=none->H b=none)(bA:H st=none)(j4:be G pY)(qn:rf H G pY):Af a [ah,st] aI pY ah a8 av bx al out Q:=
 ⟨fun H' eg x v fj c' aW bf df e7 k6 oj mW=>h.1 H' eg x v fj c' (k.E6 aW fun b ae=>by
   rcases tZ ae with rfl|rfl
   .exact .inl (by simp)
   .exact .inr bA) (j4.trans bf) (fun b fT gb=>df b (fun I=>fT (qE b I)) (qn b fT gb)) e7 k6 oj mW,
  fun H' e fj c' aW bf df e7=>h.2 H' e fj c' (k.E6 aW fun b ae=>by
    rcases tZ ae with rfl|rfl
    .exact .inl (by simp)
    .exact .inr bA) (j4.trans bf) df e7⟩
theorem aao(T:Txt K az a):cZ P w K az base (cW P w) 7 a.Iu a.GG ["self","allowed"] (ade a):=by
 refine T.aiM.dZ aqU (fun vs H Q E h=>?_) (fun cJ A outer s H vs Q E aO h=>?_)
 .obtain⟨G,ah,a8,av,bx,aS,b0,al,n,gr,iu,r6,ku,out,rfl,_⟩:=h;rfl
 .obtain⟨G,ah,a8,av,bx,aS,b0,al,n,gr,iu,r6,ku,out,rfl,rX,eF,lG,hw,L5,xr,Q8⟩:=h;refine⟨_,bh (f5 (af 0) dc z)
   (bl (di (qN (af 0) T.gX T.Zb (aap T) aO T.Vd .nil bZ
    (aE (bG (mD nJ (bG (af 0) z) (cH T.yJ) (fun _ _=>rfl)) z) (aE (gx aY) (aE (af 1) aY)))))),?_⟩
  refine⟨_,z,ah,_,a8,_,z,hw,T.gX,T.AO,nP,?_⟩;rw[UH];have k1:aV [ah] H (V H ah (.au a.fK a8 (fX (.ref av) gr iu (.int 0) ku))):=aV.refl.V (.inl (by simp));have aU:be G (V H ah (.au a.fK a8 (fX (.ref av) gr iu (.int 0) ku))):=qU rX lG;have ou:V H ah (.au a.fK a8 (fX (.ref av) gr iu (.int 0) ku)) ah=some (.au a.fK a8 (fX (.ref av) gr iu (.int 0) ku)):=aP;have g1:∀b,V H ah (.au a.fK a8 (fX (.ref av) gr iu (.int 0) ku)) b=none->H b=none:=fun b e=>(e8 e).2;generalize V H ah (.au a.fK a8 (fX (.ref av) gr iu (.int 0) ku))=aI at k1 aU ou g1⊢;obtain⟨bV,mP⟩:∃bV,bx[0]?=some bV:=⟨_,gA (by rw[eF.len];exact(gn.mp L5).1)⟩;obtain⟨dK,iZ,gk,kB,m6,yw⟩:=eF.at_ _ _ _ mP L5;have uJ:nE (bx.map aa.ref) 0=some (.ref bV):=lD (j:=0) (by rw[h8,mP];rfl);refine⟨_,z,ah,a8,_,z,ou,UA,_,z,ah,_,a8,_,_,z,ou,T.gX,T.Et,Fw,av,_,_,_,z,z,bj.bM (aU _ _ eF.ak),uJ,bV,_,dK,_,_,z,aU _ _ kB,T.xe,T.Rx,Uh,jV _,fun st iR=>?_⟩;have C8:ah≠st:=eI ou iR;refine⟨_,z,G,ah,a8,av,iZ,st,bx,gk,aS,al,0,n,gr,iu,ku,b0.cE,[],[],out,z,cj aU (aU.free iR),eF,lG,aU.free iR,(by rw[aK C8];exact ou),aP,.nil,m6,yw,xr,?_⟩;exact Q8.less (k1.V (.inr (g1 _ iR))) (fun b e=>g1 b (e8 e).2) (g1 _ iR) (be.refl _) (fun b _ h=>h)
def ac9(a:bU):dj:=fun vs H Q E=>∃(G:aA)(ah a8 av:Addr)(bx:List Addr)(aS:List Z.gC)(al c n x:Nat)(gr iu ku:aa)(v:Z.eH)(out:Z.p6),
 vs=[.ref ah,.int (x:Int),.int (al:Int)]/\be G H/\q4 a G av bx aS/\G ah=none/\H ah=some (.au a.fK a8 (fX (.ref av) gr iu (.int (c:Int)) ku))/\pG a bx G ku v/\
 Z.iF aS al n [(4,0)] ⟨0,[],[.num x,v],c⟩ [] 0 out/\Af a [ah] H G ah a8 av bx al out Q
theorem aqy:dP ["self","number","allowed"] ["self","number","allowed"] (cT abU):=by trivial
theorem aaf(T:Txt K az a):cZ P w K az base (cW P w) 7 a.Im a.GA ["self","number","allowed"] (ac9 a):=by
 refine T.aiH.dZ aqy (fun vs H Q E h=>?_) (fun cJ A outer s H vs Q E aO h=>?_)
 .obtain⟨G,ah,a8,av,bx,aS,al,c,n,x,gr,iu,ku,v,out,rfl,_⟩:=h;rfl
 .obtain⟨G,ah,a8,av,bx,aS,al,c,n,x,gr,iu,ku,v,out,rfl,rX,eF,lG,hw,a6,xr,Q8⟩:=h;have l7:sizeLine=16777216:=gU;refine⟨_,bl (di (qN (af 0) T.gX T.Zb (aap T) aO T.Vd .nil bZ
    (aE (gx (aE (qO (aE (cH T.Xi) (aE dc aY))) aY)) (aE (gx (aE (bG (af 0) z) (aE (af 1) aY))) (aE (af 2) aY))))),?_⟩
  refine⟨_,z,ah,a8,_,z,hw,UA,(by show 2<=sizeLine;omega),fun t bO=>⟨(by show 1<=sizeLine;omega),fun b7 xC=>?_⟩⟩;obtain⟨adF,QL⟩:=e8 xC;have k1:be H (V (V H t (.dD [.int 4,.int 0])) b7 (.ak [.ref t])):=cj (cj (be.refl _) bO) QL;have pe:V (V H t (.dD [.int 4,.int 0])) b7 (.ak [.ref t]) t=some (.dD [.int 4,.int 0]):=by rw[aK (bC adF),aP]
  have fL:V (V H t (.dD [.int 4,.int 0])) b7 (.ak [.ref t]) b7=some (.ak [.ref t]):=aP;have yI:∀b,V (V H t (.dD [.int 4,.int 0])) b7 (.ak [.ref t]) b=none->H b=none:=fun b e=>(e8 (e8 e).2).2;generalize V (V H t (.dD [.int 4,.int 0])) b7 (.ak [.ref t])=aI at k1 pe fL yI⊢;refine⟨_,z,ah,_,a8,_,_,z,k1 _ _ hw,T.gX,T.wA,zU,_,z,(by show 2<=sizeLine;omega),fun st iR=>?_⟩;have gt:G t=none:=rX.free bO;have BY:G b7=none:=rX.free QL;have j4:be G (V (V G t (.dD [.int 4,.int 0])) b7 (.ak [.ref t])):=qU (qU (be.refl _) gt) BY;have qn:rf H G (V (V G t (.dD [.int 4,.int 0])) b7 (.ak [.ref t])):=fun b ai aj=>by
   rw[aK (fun I=>ai (by rw[I];exact QL)),aK (fun I=>ai (by rw[I];exact bO))];exact aj
  have C8:ah≠st:=eI (k1 _ _ hw) iR;have adG:t≠st:=eI pe iR;have adh:b7≠st:=eI fL iR;have auA:G ah=none:=lG;refine⟨_,z,V (V G t (.dD [.int 4,.int 0])) b7 (.ak [.ref t]),ah,a8,av,b7,st,bx,[t],aS,al,c,n,gr,iu,ku,[(4,0)],[.num x,v],_,out,z,?_,eF.same j4,?_,?_,(by rw[aK C8];exact k1 _ _ hw),aP,?_,?_,?_,xr,?_⟩
  .refine cj (fun b o e=>?_) ?_
   .by_cases I:b=b7
    .rw[I,aP]at e;cases e;rw[I];exact fL
    .rw[aK I]at e;by_cases gb:b=t
     .rw[gb,aP]at e;cases e;rw[gb];exact pe
     .rw[aK gb]at e;exact k1 _ _ (rX _ _ e)
   .rw[aK (bC adh),aK (bC adG)];exact rX.free (k1.free iR)
  .exact qn ah (by rw[hw];exact fun I=>(by cases I)) lG
  .rw[aK (bC adh),aK (bC adG)];exact rX.free (k1.free iR)
  .exact .cons (a6.keep j4) (.cons (.num x) .nil)
  .exact aP
  .exact .cons (by rw[aK (bC adF),aP];rfl) .nil
  .exact Q8.less ((k1.gh).V (.inr (k1.free iR))) (fun b e=>yI b (e8 e).2) (k1.free iR) j4 qn
end
theorem YD{n j:Nat}(h:j<n):wx n (j:Int)=some j:=by
 unfold wx;rw[bT (by omega)];simp[h]
def pF(H:aA)(r:Addr)(row:List Z.eO):Prop:=∃b8,H r=some (.ak (b8.map aa.ref))/\jN H b8 row
theorem jN.set{H:aA}:∀{b8:List Addr}{l:List (Nat×Nat)},jN H b8 l->∀(j:Nat)(t:Addr)(y:Nat×Nat),H t=some (.dD [.int y.1,.int y.2])->jN H (b8.set j t) (l.set j y)
 |_,_,.nil,_,_,_,_=>.nil
 |_,_,.cons h t,0,_,_,e=>.cons e t
 |_,_,.cons h t,j+1,u,y,e=>.cons h (jN.set t j u y e)
section
variable{P:Program}{w:World}{K:Frag}{az:Str->Option Value}{base:Heap}{a:bU}
def ny(a:bU)(gg:Addr)(x:aa)(d j:Nat):cI:=.au a.oQ gg (q6 x (.int (d:Int)) (.int (j:Int)))
def arw(a:bU):dj:=fun vs H Q _=>∃(u gg r:Addr)(x:aa)(d j:Nat)(row:List Z.eO),vs=[.ref u,.ref r]/\H u=some (ny a gg x d j)/\pF H r row/\row.length+10<sizeLine/\1<=d/\(2<=d->j<row.length)/\
 ∀H',aV [u,r] H H'->H' u=some (ny a gg x d row.length)->pF H' r (Z.jo 8 d j row)->Q .b9 H'
theorem acL:dP ["last","row","here"] ["last","row"] (cT ace):=by trivial
theorem Nf{bg bk bP:aa}:(q6 bg bk bP).length<1000:=by show 3<1000;decide
theorem aop(T:Txt K az a):cZ P w K az base (cW P w) 1 a.IL a.GU ["last","row"] (arw a):=by
 refine T.WG.dZ acL (fun vs H Q E h=>?_) (fun cJ A outer s H vs Q E aO h=>?_)
 .obtain⟨u,gg,r,x,d,j,row,rfl,_⟩:=h;rfl
 .obtain⟨u,gg,r,x,d,j,row,rfl,ck,⟨b8,kR,sW⟩,bR,oW,bQ,k⟩:=h;have l7:sizeLine=16777216:=gU;have El:b8.length=row.length:=kX sW;refine⟨_,bh (dU (i:=2) acL.aH z (Or.inl z) (j3 mu (by rfl) T.mC m3 (aE (af 1) aY)))
   (bh (d7 (dN e9 (bG (af 0) z) dc (dH _))
    (bl (fD (jk gZ k7 lA kU (af 1) (aE (qO (aE (cH T.P1) (aE dc aY))) aY))))
    (bl (d7 (dN e9 (bG (af 0) z) dc (dH _))
     (bh (fD (jk gZ k7 lA kU (af 1) (aE (qO (aE (cH T.PV) (aE dc aY))) aY)))
      (bl (aaZ (qO (aE (cH T.P1) (aE (f9 kH (af 2) dc) aY))) (aaN (af 1) (bG (af 0) z) ac3 (fun _=>rfl)))))
     (bl (aaZ (qO (aE (cH T.PV) (aE (af 2) aY))) (aaN (af 1) (bG (af 0) z) ac3 (fun _=>rfl)))))))
   (bl (f5 (af 0) (af 2) z))),?_⟩
  have zo:u≠r:=fQ ck kR (by intro q;cases q);have fin:∀(a7:aA)(SL:List Z.eO),aV [u,r] H a7->a7 u=some (ny a gg x d j)->pF a7 r SL->SL=Z.jo 8 d j row->Q .b9 (V a7 u (.au a.oQ gg (cY "jump" (.int ((b8.map aa.ref).length:Nat)) (q6 x (.int (d:Int)) (.int (j:Int)))))):=fun a7 SL aW bf df e7=>by
   obtain⟨atb,pe,kr⟩:=df;rw[aeN,cA,El];refine k _ (aW.V (.inl (by simp))) aP ⟨atb,by rw[aK (bC zo)];exact pe,?_⟩;rw[<-e7];exact kr.keep (M:=[u]) (aV.refl.V (.inl (by simp))) (fun b ae xs e=>by simp at ae;subst ae;rw[bf]at e;cases e)
  refine⟨_,z,r,_,z,.inl (bj.bM kR),?_⟩;refine⟨_,z,u,_,gg,_,_,z,ck,T.qb,T.AM,Dl,z,_,z,fi (fun ai=>?_) (fun ai=>?_)⟩
  .have lE:d=1:=by have:=gK ai;omega
   refine⟨_,z,.inl ⟨z,_,bj.bM kR⟩,(by show 2<=sizeLine;omega),fun t bO=>?_⟩;have uQ:r≠t:=eI kR bO;have Ky:u≠t:=eI ck bO;refine⟨r,_,_,z,z,(by rw[aK uQ];exact kR),(by rw[cA];omega),?_⟩;have tX:V (V H t (.dD [.int 8,.int 0])) r (.ak (b8.map aa.ref++[.ref t])) u=some (ny a gg x d j):=by rw[aK zo,aK Ky];exact ck
   refine⟨_,z,_,z,u,_,gg,_,z,tX,T.qb,T.Es,Nf,?_⟩;refine fin _ (row++[(8,0)]) ((aV.refl.V (.inr bO)).V (.inl (by simp))) tX ⟨b8++[t],by rw[aP,gB];rfl,?_⟩ ?_
   .refine rV (jN.keep (M:=[t,r]) sW ((aV.refl.V (.inl (by simp))).V (.inl (by simp))) (fun b ae xs e=>?_)) ?_
    .rcases tZ ae with rfl|rfl
     .rw[bO]at e;cases e
     .rw[kR]at e;cases e
    .rw[aK (bC uQ),aP];rfl
   .unfold Z.jo;rw[bT z,bT lE]
  have lE:d≠1:=fun I=>ai (by rw[I];rfl);have auS:j<row.length:=bQ (by omega);refine⟨_,z,u,_,gg,_,_,z,ck,T.qb,T.AM,Dl,z,_,z,fi (fun aj=>?_) (fun aj=>?_)⟩
  .have mL:d=2:=by have:=gK aj;omega
   refine⟨_,z,.inl ⟨z,_,bj.bM kR⟩,(by show 2<=sizeLine;omega),fun t bO=>?_⟩;have uQ:r≠t:=eI kR bO;have Ky:u≠t:=eI ck bO;refine⟨r,_,_,z,z,(by rw[aK uQ];exact kR),(by rw[cA];omega),?_⟩;have ir:aV [u,r] H (V (V H t (.dD [.int 9,.int 0])) r (.ak (b8.map aa.ref++[.ref t]))):=(aV.refl.V (.inr bO)).V (.inl (by simp));have tX:V (V H t (.dD [.int 9,.int 0])) r (.ak (b8.map aa.ref++[.ref t])) u=some (ny a gg x d j):=by rw[aK zo,aK Ky];exact ck
   have rF:V (V H t (.dD [.int 9,.int 0])) r (.ak (b8.map aa.ref++[.ref t])) r=some (.ak ((b8++[t]).map aa.ref)):=by rw[aP,gB];rfl
   have kh:jN (V (V H t (.dD [.int 9,.int 0])) r (.ak (b8.map aa.ref++[.ref t]))) (b8++[t]) (row++[(9,0)]):=by
    refine rV (jN.keep (M:=[t,r]) sW ((aV.refl.V (.inl (by simp))).V (.inl (by simp))) (fun b ae xs e=>?_)) ?_
    .rcases tZ ae with rfl|rfl
     .rw[bO]at e;cases e
     .rw[kR]at e;cases e
    .rw[aK (bC uQ),aP];rfl
   generalize V (V H t (.dD [.int 9,.int 0])) r (.ak (b8.map aa.ref++[.ref t]))=a7 at ir tX rF kh⊢;refine⟨_,z,_,_,z,z,(by show 2<=sizeLine;omega),fun kr rH=>?_⟩;have Kw:r≠kr:=eI rF rH;have R4:u≠kr:=eI tX rH;have JX:∀o,V a7 kr o u=some (ny a gg x d j):=fun o=>by rw[aK R4];exact tX
   refine⟨_,z,_,z,u,_,gg,_,_,z,JX _,T.qb,T.Es,Uo,r,_,_,j,z,z,(by rw[aK Kw];exact rF),YD (by rw[cA,g8];omega),?_⟩;have JY:∀o p,V (V a7 kr o) r p u=some (ny a gg x d j):=fun o p=>by rw[aK zo];exact JX o
   refine⟨_,z,_,z,u,_,gg,_,z,JY _ _,T.qb,T.Es,Nf,?_⟩;refine fin _ ((row++[(9,0)]).set j (8,row.length+1)) ((ir.trans (aV.refl.V (.inr rH))).V (.inl (by simp))) (JY _ _) ⟨(b8++[t]).set j kr,by rw[aP,map_set],?_⟩ ?_
   .refine jN.set (jN.keep (M:=[kr,r]) kh ((aV.refl.V (.inl (by simp))).V (.inl (by simp))) (fun b ae xs e=>?_)) j kr _ ?_
    .rcases tZ ae with rfl|rfl
     .rw[rH]at e;cases e
     .rw[rF]at e;cases e
    .rw[aK (bC Kw),aP];show some (cI.dD [aa.int 8,aa.int (((b8.map aa.ref).length:Nat)+1)])=some (cI.dD [aa.int 8,aa.int ((row.length+1:Nat):Int)]);rw[cA,El];rfl
   .unfold Z.jo;rw[bT z,bz lE,bT mL]
  .have mL:d≠2:=fun I=>aj (by rw[I];rfl);refine⟨_,z,(by show 2<=sizeLine;omega),fun kr rH=>?_⟩;have Kw:r≠kr:=eI kR rH;have R4:u≠kr:=eI ck rH;have JX:∀o,V H kr o u=some (ny a gg x d j):=fun o=>by rw[aK R4];exact ck
   refine⟨_,z,_,z,u,_,gg,_,_,z,JX _,T.qb,T.Es,Uo,r,_,_,j,z,z,(by rw[aK Kw];exact kR),YD (by rw[cA];omega),?_⟩;have JY:∀o p,V (V H kr o) r p u=some (ny a gg x d j):=fun o p=>by rw[aK zo];exact JX o
   refine⟨_,z,_,z,u,_,gg,_,z,JY _ _,T.qb,T.Es,Nf,?_⟩;refine fin _ (row.set j (9,row.length)) ((aV.refl.V (.inr rH)).V (.inl (by simp))) (JY _ _) ⟨b8.set j kr,by rw[aP,map_set],?_⟩ ?_
   .refine jN.set (jN.keep (M:=[kr,r]) sW ((aV.refl.V (.inl (by simp))).V (.inl (by simp))) (fun b ae xs e=>?_)) j kr _ ?_
    .rcases tZ ae with rfl|rfl
     .rw[rH]at e;cases e
     .rw[kR]at e;cases e
    .rw[aK (bC Kw),aP];show some (cI.dD [aa.int 9,aa.int ((b8.map aa.ref).length:Nat)])=some (cI.dD [aa.int 9,aa.int ((row.length:Nat):Int)]);rw[cA,El]
   .unfold Z.jo;rw[bT z,bz lE,bz mL]
end
section
variable{P:Program}{w:World}{K:Frag}{az:Str->Option Value}{base:Heap}{a:bU}
def MX(a:bU)(dx:Addr)(bW:Nat)(b5:aa)(fC:Nat)(eX:aa)(h:Nat)(nm:aa):cI:=.au a.ip dx (iP (.int (bW:Int)) b5 (.int (fC:Int)) eX (.int (h:Int)) nm)
def ar1(a:bU):dj:=fun vs H Q _=>∃(u gg r x dx:Addr)(b5 eX nm:aa)(bW fC h d j:Nat)(row:List Z.eO),vs=[.ref u,.ref r]/\H u=some (ny a gg (.ref x) d j)/\H x=some (MX a dx bW b5 fC eX h nm)/\pF H r row/\row.length+10<sizeLine/\1<=d/\(bW=8->2<=d->j<row.length)/\
 ∀H',aV [u,r] H H'->H' u=some (ny a gg (.ref x) d (Z.tU bW j row))->pF H' r (Z.jo bW d j row)->Q .b9 H'
theorem acS:dP ["last","row","kind"] ["last","row"] (cT acf):=by trivial
theorem aoN(T:Txt K az a):cZ P w K az base (cW P w) 2 a.IM a.GV ["last","row"] (ar1 a):=by
 refine T.WH.dZ acS (fun vs H Q E h=>?_) (fun cJ A outer s H vs Q E aO h=>?_)
 .obtain⟨u,gg,r,x,dx,b5,eX,nm,bW,fC,h,d,j,row,rfl,_⟩:=h;rfl
 .obtain⟨u,gg,r,x,dx,b5,eX,nm,bW,fC,h,d,j,row,rfl,ck,Y,JU,bR,oW,bQ,k⟩:=h;have l7:sizeLine=16777216:=gU;refine⟨_,bh (dU (i:=2) acS.aH z (Or.inl z) (bG (bG (af 0) z) z))
   (bl (d7 (dN e9 (af 2) (cH T.ai8) (dH _))
    (bl (fD (fU (aop T) aO z T.amQ T.WG.cN T.afO .nil bZ (aE (af 0) (aE (af 1) aY)))))
    (bl (d7 (dN e9 (af 2) (cH T.Xl) (dH _))
     (bl (fD (jk gZ k7 lA kU (af 1) (aE (qO (aE (AX (dN e9 (bG (af 0) z) dc (dH _)) (cH T.Xk) (cH T.Xj)) (aE dc aY))) aY))))
     (bl (d7 (dN e9 (bG (af 0) z) dc (dH _))
      (bl (fD (jk gZ k7 lA kU (af 1) (aE (qO (aE (af 2) (aE dc aY))) aY))))
      fH)))))),?_⟩
  refine⟨_,z,u,_,gg,_,_,z,ck,T.qb,T.MQ,Ol,x,_,dx,_,_,z,Y,T.gI,T.qK,q5,?_⟩;refine⟨_,z,z,_,z,fi (fun gf=>?_) (fun gf=>?_)⟩
  .have jF:bW=8:=by have:=gK gf;omega
   subst jF;refine⟨_,z,_,z,u,gg,r,.ref x,d,j,row,z,ck,JU,bR,oW,bQ z,fun H' aW bf df=>k H' aW ?_ df⟩;unfold Z.tU;rw[bT z];exact bf
  have Ko:bW≠8:=fun I=>gf (by rw[I];rfl);have ahz:Z.tU bW j row=j:=by unfold Z.tU;rw[bz Ko]
  rw[ahz]at k;obtain⟨b8,kR,sW⟩:=JU;have El:b8.length=row.length:=kX sW;have zo:u≠r:=fQ ck kR (by intro q;cases q);have push:∀(y:Z.eO)(t:Addr),H t=none->row++[y]=Z.jo bW d j row->Q .b9 (V (V H t (.dD [.int y.1,.int y.2])) r (.ak (b8.map aa.ref++[.ref t]))):=fun y t bO e=>by
   have uQ:r≠t:=eI kR bO;have Ky:u≠t:=eI ck bO;refine k _ ((aV.refl.V (.inr bO)).V (.inl (by simp))) (by rw[aK zo,aK Ky];exact ck) ⟨b8++[t],by rw[aP,gB];rfl,?_⟩;rw[<-e];refine rV (jN.keep (M:=[t,r]) sW ((aV.refl.V (.inl (by simp))).V (.inl (by simp))) (fun b ae xs e=>?_)) ?_
   .rcases tZ ae with rfl|rfl
    .rw[bO]at e;cases e
    .rw[kR]at e;cases e
   .rw[aK (bC uQ),aP]
  refine⟨_,z,z,_,z,fi (fun wk=>?_) (fun wk=>?_)⟩
  .have jg:bW=9:=by have:=gK wk;omega
   refine⟨_,z,.inl ⟨z,_,bj.bM kR⟩,_,z,u,_,gg,_,_,z,ck,T.qb,T.AM,Dl,z,_,z,fi (fun aG=>?_) (fun aG=>?_)⟩
   .have lE:d=1:=by have:=gK aG;omega
    refine⟨(by show 2<=sizeLine;omega),fun t bO=>?_⟩;have uQ:r≠t:=eI kR bO;refine⟨r,_,_,z,z,(by rw[aK uQ];exact kR),(by rw[cA];omega),?_⟩;refine push (10,0) t bO ?_;unfold Z.jo;rw[bz Ko,bT jg,bT lE]
   .have lE:d≠1:=fun I=>aG (by rw[I];rfl);refine⟨(by show 2<=sizeLine;omega),fun t bO=>?_⟩;have uQ:r≠t:=eI kR bO;refine⟨r,_,_,z,z,(by rw[aK uQ];exact kR),(by rw[cA];omega),?_⟩;refine push (11,0) t bO ?_;unfold Z.jo;rw[bz Ko,bT jg,bz lE]
  have ZE:bW≠9:=fun I=>wk (by rw[I];rfl);refine⟨_,z,u,_,gg,_,_,z,ck,T.qb,T.AM,Dl,z,_,z,fi (fun aG=>?_) (fun aG=>?_)⟩
  .have mL:d=2:=by have:=gK aG;omega
   refine⟨_,z,.inl ⟨z,_,bj.bM kR⟩,_,z,(by show 2<=sizeLine;omega),fun t bO=>?_⟩;have uQ:r≠t:=eI kR bO;refine⟨r,_,_,z,z,(by rw[aK uQ];exact kR),(by rw[cA];omega),?_⟩;refine push (bW,0) t bO ?_;unfold Z.jo;rw[bz Ko,bz ZE,bT mL]
  .have mL:d≠2:=fun I=>aG (by rw[I];rfl);refine k H aV.refl ck ⟨b8,kR,?_⟩;have e:Z.jo bW d j row=row:=by
    unfold Z.jo;rw[bz Ko,bz ZE,bz mL]
   rw[e];exact sW
structure yv(H:aA)(ff:Addr)(cV:List Addr)(R:Z.Rows):Prop where
 ak:H ff=some (.ak (cV.map aa.ref))
 at_:∀(i:Nat)(r:Addr),cV[i]?=some r->pF H r (R i)
 aH:cV.Nodup
 fB:ff∉cV
def Ah(a:bU)(H:aA)(u:Addr)(x:Z.oK):Prop:=∃(gg dF dx:Addr)(b5 eX nm:aa),H u=some (ny a gg (.ref dF) x.done x.iT)/\H dF=some (MX a dx x.kind b5 x.jj eX x.bJ nm)
structure uv(a:bU)(H:aA)(ff gy:Addr)(cV us:List Addr)(R:Z.Rows)(U:List Z.oK):Prop where
 rows:yv H ff cV R
 x8:H gy=some (.ak (us.map aa.ref))
 C1:Paired (Ah a H) us U.reverse
 CA:us.Nodup
 q1:gy≠ff
 jy:gy∉cV
theorem pF.keep{H H':aA}{M:List Addr}{r:Addr}{row:List Z.eO}(h:pF H r row)(k:aV M H H')(aO:r∉M)(oU:∀b∈M,∀xs,H b≠some (.dD xs)):pF H' r row:=by
 obtain⟨b8,ai,aj⟩:=h;exact⟨b8,k _ _ ai aO,aj.keep k oU⟩
def Dp(a:bU)(H:aA)(M:List Addr):Prop:=∀b∈M,(∃xs,H b=some (.ak xs))\/∃dx bA,H b=some (.au a.oQ dx bA)
theorem Dp.AU{H:aA}{M:List Addr}(m:Dp a H M):∀b∈M,∀xs,H b≠some (.dD xs):=fun b ae xs e=>by
 rcases m b ae with⟨ys,q⟩|⟨d,f,q⟩<;>rw[e]at q<;>cases q
theorem Ah.keep{H H':aA}{M:List Addr}{v:Addr}{x:Z.oK}(T:Txt K az a)(h:Ah a H v x)(k:aV M H H')(m:Dp a H M)(a6:v∉M):Ah a H' v x:=by
 obtain⟨gg,dF,dx,b5,eX,nm,ai,aj⟩:=h;refine⟨gg,dF,dx,b5,eX,nm,k _ _ ai a6,k _ _ aj fun I=>?_⟩;rcases m dF I with⟨ys,q⟩|⟨d,f,q⟩
 .rw[aj]at q;cases q
 .rw[aj]at q;have:=j7 q;injection this with q _ _
  exact jZ T.aH 2 7 (by decide) z z q
def ar2(a:bU):dj:=fun vs H Q _=>∃(ff gy:Addr)(cV us:List Addr)(R:Z.Rows)(U:List Z.oK)(B:Nat),vs=[.ref gy,.ref ff]/\uv a H ff gy cV us R U/\Z.rq cV.length B U R/\B+20<sizeLine/\
 ∀H' K5,aV (gy::(us++cV)) H H'->uv a H' ff gy cV K5 (Z.mw U R).2 (Z.mw U R).1->(∀u∈K5,u∈us)->Q .b9 H'
theorem NG:dP ["unfinished","rows","ended","last"] ["unfinished","rows"] (cT acg):=by trivial
theorem aoO(T:Txt K az a):cZ P w K az base (cW P w) 3 a.IP a.GW ["unfinished","rows"] (ar2 a):=by
 refine T.WI.dZ NG (fun vs H Q E h=>?_) (fun cJ A outer s H vs Q E aO h=>?_)
 .obtain⟨ff,gy,cV,us,R,U,B,rfl,_⟩:=h;rfl
 .obtain⟨ff,gy,cV,us,R,U,B,rfl,Lk,Lo,eF,k⟩:=h;have l7:sizeLine=16777216:=gU;refine⟨_,bh (dU (i:=2) NG.aH z (Or.inl z) M7)
   (bl (A0 gT.own (Sz (vM (af 2)) (SA (Ni (af 0) (fun _=>rfl)))).s9
    (bh (dU (i:=3) NG.aH z (Or.inl z) (mD nJ (af 0) (aaM adI dc) (fun _ _=>rfl)))
    (bh (f5 (af 3) (f9 kH (bG (af 3) z) dc) z)
    (bh (fD (fU (aoN T) aO z T.amR T.WH.cN T.afP .nil bZ (aE (af 3) (aE (mD nJ (af 1) (bG (bG (af 3) z) z) (fun _ _=>rfl)) aY))))
    (bh (dU (i:=2) NG.aH z (Or.inl z) (aaK e9 (bG (af 3) z) (bG (bG (af 3) z) z) (dH _)))
    (bl (d7 (vM (af 2)) (bl (fD (vJ gZ vX wV vE (af 0)))) fH)))))))),?_⟩
  refine⟨fun m O H'=>∃(b:Bool)(N4:List Addr)(Bx:List Z.oK)(oJ:Z.Rows)(eX:Option aa),O=[some (.ref gy),some (.ref ff),some (.av b),eX]/\aV (gy::(us++cV)) H H'/\uv a H' ff gy cV N4 oJ Bx/\(∀u∈N4,u∈us)/\
   (b=true->Z.mw Bx oJ=Z.mw U R/\Z.rq cV.length B Bx oJ)/\(b=false->Z.mw U R=(Bx,oJ))/\m=if b=true then Bx.length+1 else 0,⟨_,true,us,U,R,_,z,aV.refl,Lk,fun u h=>h,fun _=>⟨z,Lo⟩,fun I=>(by cases I),z⟩,?_⟩
  rintro m O aI ⟨b,N4,Bx,oJ,eX,rfl,gh,L,AA,nj,ajW,aM⟩;cases b with
  |false=>
   refine⟨_,z,false,z,nt (nt ?_)⟩;have e:=ajW z;refine k aI N4 gh ?_ AA;rw[e];exact L
  |true=>
   obtain⟨Pd,fY⟩:=nj z;refine⟨_,z,true,z,lY ⟨_,z,?_⟩⟩;cases Bx with
   |nil=>
    have AB:=L.C1;cases AB;refine⟨false,.inl ⟨_,bj.bM L.x8,z⟩,nt ?_⟩;refine k aI [] gh ?_ AA;rw[<-Pd];exact L
   |cons fq FN=>
    have AB:=L.C1;rw[zL]at AB;obtain⟨C3,u,rfl,KL,ak6⟩:=M6 AB;have uM:aI gy=some (.ak (C3.map aa.ref++[.ref u])):=by rw[L.x8,gB];rfl
    refine⟨true,.inl ⟨_,bj.bM uM,by simp⟩,lY ?_⟩;refine⟨_,fun _ _ h=>h,?_⟩;obtain⟨gg,dF,dx,b5,TQ,nm,ck,JQ⟩:=ak6;refine⟨_,z,_,z,gy,_,_,_,z,z,bj.bM uM,afl _ _,?_⟩;refine⟨_,z,u,_,gg,_,_,z,ck,T.qb,T.AM,Dl,_,_,z,z,_,z,u,_,gg,_,z,ck,T.qb,T.AM,Nf,?_⟩;have aq:V aI u (.au a.oQ gg (cY "done" ((fun i j=>aa.int (i+j)) (fq.done:Int) 1) (q6 (.ref dF) (.int (fq.done:Int)) (.int (fq.iT:Int)))))=V aI u (ny a gg (.ref dF) (fq.done+1) fq.iT):=by
     rw[aeM];unfold ny;rw[Fi];rfl
    rw[aq];obtain⟨r,mQ⟩:∃r,cV[fq.bJ]?=some r:=⟨_,gA (fY.rE fq iO)⟩;have JU:=L.rows.at_ _ _ mQ;obtain⟨iV,rF,_⟩:=id JU;have zo:u≠r:=fQ ck rF (by intro q;cases q);have Z5:u≠gy:=fQ ck uM (by intro q;cases q);have Z4:u≠ff:=fQ ck L.rows.ak (by intro q;cases q);have SS:r≠gy:=fun I=>L.jy (by rw[<-I];exact jc mQ);have SQ:r≠ff:=fun I=>L.rows.fB (by rw[<-I];exact jc mQ);have ZX:dF≠u:=fun I=>by
     have q:=JQ;rw[I,ck]at q;have:=j7 q;injection this with q _ _
     exact jZ T.aH 7 2 (by decide) z z q
    have ir:aV [u,r] aI (V aI u (ny a gg (.ref dF) (fq.done+1) fq.iT)):=aV.refl.V (.inl (by simp));have tX:V aI u (ny a gg (.ref dF) (fq.done+1) fq.iT) u=some (ny a gg (.ref dF) (fq.done+1) fq.iT):=aP;have kh:V aI u (ny a gg (.ref dF) (fq.done+1) fq.iT) dF=some (MX a dx fq.kind b5 fq.jj TQ fq.bJ nm):=by rw[aK ZX];exact JQ
    have DY:V aI u (ny a gg (.ref dF) (fq.done+1) fq.iT) ff=some (.ak (cV.map aa.ref)):=by rw[aK (bC Z4)];exact L.rows.ak
    have Yg:pF (V aI u (ny a gg (.ref dF) (fq.done+1) fq.iT)) r (oJ fq.bJ):=JU.keep (M:=[u]) (aV.refl.V (.inl (by simp))) (by simpa using bC zo) (fun b ae xs e=>by simp at ae;subst ae;rw[ck]at e;cases e);have ajE:V aI u (ny a gg (.ref dF) (fq.done+1) fq.iT) gy=some (.ak (C3.map aa.ref++[.ref u])):=by rw[aK (bC Z5)];exact uM
    generalize V aI u (ny a gg (.ref dF) (fq.done+1) fq.iT)=a7 at ir tX kh DY Yg ajE⊢;have gv:=fY.len fq.bJ;rw[c9]at gv;refine⟨_,z,_,z,_,z,u,_,gg,_,_,z,tX,T.qb,T.MQ,Ol,dF,_,dx,_,_,z,kh,T.gI,T.AK,Bs,ff,_,_,_,z,z,bj.bM DY,lD (v:=.ref r) (by rw[h8,mQ];rfl),
     u,gg,r,dF,dx,b5,TQ,nm,fq.kind,fq.jj,fq.bJ,fq.done+1,fq.iT,oJ fq.bJ,z,tX,kh,Yg,(by omega),(by omega),(fun gf aj=>fY.Mw fq iO gf (by omega)),fun bI aW bf df=>?_⟩
    have Cm:aV [u,r] aI bI:=ir.trans aW;have l0:Dp a aI [gy,u,r]:=fun b ae=>by
     simp at ae;rcases ae with rfl|rfl|rfl
     .exact .inl ⟨_,uM⟩
     .exact .inr ⟨_,_,ck⟩
     .exact .inl ⟨_,rF⟩
    have anP:dF≠r:=fQ JQ rF (by intro q;cases q);have kE:=Cm _ _ JQ (by simp[ZX,anP]);have BZ:=Cm _ _ uM (by simp[bC Z5,bC SS]);obtain⟨pe,kr⟩:=fY.x7 (fun i=>by have:=fY.len i;rw[c9]at this;omega);obtain⟨anE,au3,anF⟩:=nodup_append.mp L.CA;have ato:∀v∈C3,v≠u:=fun v a6 I=>anF v a6 u (by simp) I;have abf:∀b6,aV [gy] bI b6->(∀xs,bI gy≠some (.dD xs))->yv b6 ff cV (Z.fM oJ fq.bJ (Z.jo fq.kind (fq.done+1) fq.iT (oJ fq.bJ))):=fun b6 jh Y=>by
     refine⟨jh _ _ (Cm _ _ L.rows.ak (by simp[bC Z4,bC SQ])) (by simpa using bC L.q1),fun i g7 jq=>?_,L.rows.aH,L.rows.fB⟩;have aa2:g7≠gy:=fun I=>L.jy (by rw[<-I];exact jc jq);by_cases aF:i=fq.bJ
     .subst aF;rw[mQ]at jq;cases jq;rw[Z.tg];exact df.keep jh (by simpa using aa2) (fun b ae=>by simp at ae;subst ae;exact Y)
     .rw[Z.kq aF];have wG:g7≠r:=fun I=>aF (Ku L.rows.aH jq (by rw[I];exact mQ));obtain⟨avm,Yd,_⟩:=id (L.rows.at_ _ _ jq);have CA:g7≠u:=fun I=>by rw[I,ck]at Yd;cases Yd
      exact((L.rows.at_ _ _ jq).keep Cm (by simp[wG,CA]) (fun b ae=>l0.AU b (gz _ ae))).keep jh (by simpa using aa2) (fun b ae=>by simp at ae;subst ae;exact Y)
    have adJ:Paired (Ah a bI) C3 FN.reverse:=xS KL fun v a6 y eK=>by
     have wG:v≠r:=fun I=>by
      obtain⟨_,_,_,_,_,_,q,_⟩:=eK;rw[I,rF]at q;cases q
     exact eK.keep T Cm (fun b ae=>l0 b (gz _ ae)) (by simp[ato v a6,wG])
    have YL:∀b∈[u,r],b∈gy::(us++cV):=fun b ae=>by
     rcases tZ ae with rfl|rfl
     .exact gz _ (yf _ (AA _ (by simp)))
     .exact gz _ (r9 _ (jc mQ))
    refine⟨_,z,u,_,gg,_,_,z,bf,T.qb,T.AM,Dl,_,z,u,_,gg,_,_,z,bf,T.qb,T.MQ,Ol,dF,_,dx,_,_,z,kE,T.gI,T.RD,Un,z,?_⟩;by_cases i8:fq.done+1=fq.jj
    .have HF:decide (aa.int ((fq.done+1:Nat):Int)=aa.int (fq.jj:Int))=true:=Bl (by rw[i8]);rw[HF];refine⟨_,z,true,z,lY ?_⟩;refine⟨_,z,.inl ⟨z,_,bj.bM BZ⟩,gy,_,.ref u,z,z,BZ,(by simp),?_⟩;rw[uu];have YF:aV [gy] bI (V bI gy (.ak (C3.map aa.ref))):=aV.refl.V (.inl (by simp));refine⟨FN.length+1,by rw[aM,bT z,c9];omega,true,C3,FN,Z.fM oJ fq.bJ (Z.jo fq.kind (fq.done+1) fq.iT (oJ fq.bJ)),_,z,(gh.trans (Cm.c7 YL)).V (.inl (by simp)),⟨abf _ YF (fun xs e=>by rw[BZ]at e;cases e),aP,?_,anE,L.q1,L.jy⟩,fun v a6=>AA v (by simp[a6]),fun _=>⟨?_,pe⟩,fun I=>(by cases I),z⟩
     .refine xS adJ fun v a6 y eK=>?_;have Kz:v≠gy:=fun I=>by
       obtain⟨_,_,_,_,_,_,q,_⟩:=eK;rw[I,BZ]at q;cases q
      exact eK.keep T YF (fun b ae=>by simp at ae;subst ae;exact .inl ⟨_,BZ⟩) (by simpa using Kz)
     .rw[<-Pd];show _=Z.mw (fq::FN) oJ;rw[Z.mw,bT i8]
    .have HF:decide (aa.int ((fq.done+1:Nat):Int)=aa.int (fq.jj:Int))=false:=ye (fun I=>i8 (by have:=gK I;omega));rw[HF];refine⟨_,z,false,z,nt ?_⟩;refine⟨0,by rw[aM,bT z];omega,false,C3++[u],⟨fq.kind,fq.jj,fq.bJ,fq.done+1,Z.tU fq.kind fq.iT (oJ fq.bJ)⟩::FN,Z.fM oJ fq.bJ (Z.jo fq.kind (fq.done+1) fq.iT (oJ fq.bJ)),_,z,gh.trans (Cm.c7 YL),⟨abf _ aV.refl (fun xs e=>by rw[BZ]at e;cases e),by rw[BZ,gB];rfl,?_,L.CA,L.q1,L.jy⟩,AA,fun I=>(by cases I),fun _=>?_,z⟩
     .rw[zL];exact rV adJ ⟨gg,dF,dx,b5,TQ,nm,bf,kE⟩
     .rw[<-Pd,Z.mw,bz i8]
end
section
variable{P:Program}{w:World}{K:Frag}{az:Str->Option Value}{base:Heap}{a:bU}
theorem pF.same{H H':aA}{r:Addr}{row:List Z.eO}(h:pF H r row)(k:be H H'):pF H' r row:=by
 obtain⟨b8,ai,aj⟩:=h;exact⟨b8,k _ _ ai,aj.same k⟩
theorem yv.same{H H':aA}{ff:Addr}{cV:List Addr}{R:Z.Rows}(h:yv H ff cV R)(k:be H H'):yv H' ff cV R:=⟨k _ _ h.ak,fun i r e=>(h.at_ i r e).same k,h.aH,h.fB⟩
theorem Ah.same{H H':aA}{v:Addr}{x:Z.oK}(h:Ah a H v x)(k:be H H'):Ah a H' v x:=by
 obtain⟨gg,dF,dx,b5,eX,nm,ai,aj⟩:=h;exact⟨gg,dF,dx,b5,eX,nm,k _ _ ai,k _ _ aj⟩
theorem uv.same{H H':aA}{ff gy:Addr}{cV us:List Addr}{R:Z.Rows}{U:List Z.oK}(h:uv a H ff gy cV us R U)(k:be H H'):uv a H' ff gy cV us R U:=
 ⟨h.rows.same k,k _ _ h.x8,bF.Paired.nI (fun y s bu=>bu.same k) h.C1,h.CA,h.q1,h.jy⟩
theorem aaD{cL ik:Type}{F:cL->ik->Prop}:∀{l:List cL}{m:List ik}{oh:List cL}{dB:List ik},Paired F l m->Paired F oh dB->Paired F (l++oh) (m++dB)
 |_,_,_,_,.nil,h=>h
 |_,_,_,_,.cons r t,h=>.cons r (aaD t h)
theorem uv.ext(T:Txt K az a){H:aA}{ff gy r:Addr}{cV us iV lz:List Addr}{R:Z.Rows}{U:List Z.oK}{h:Nat}{own:List Z.eO}(L:uv a H ff gy cV us R U)(aO:cV[h]?=some r)(ai:H r=some (.ak (iV.map aa.ref)))(aj:jN H iV (R h))(bN:jN H lz own):
  uv a (V H r (.ak (iV.map aa.ref++lz.map aa.ref))) ff gy cV us (Z.fM R h (R h++own)) U:=by
 have gh:aV [r] H (V H r (.ak (iV.map aa.ref++lz.map aa.ref))):=aV.refl.V (.inl (by simp));have l0:Dp a H [r]:=fun b ae=>by simp at ae;subst ae;exact .inl ⟨_,ai⟩
 have SS:gy≠r:=fun I=>L.jy (by rw[I];exact jc aO);have SQ:ff≠r:=fun I=>L.rows.fB (by rw[I];exact jc aO);refine⟨⟨gh _ _ L.rows.ak (by simpa using SQ),fun i g7 jq=>?_,L.rows.aH,L.rows.fB⟩,gh _ _ L.x8 (by simpa using SS),xS L.C1 fun v a6 y eK=>eK.keep T gh l0 ?_,L.CA,L.q1,L.jy⟩
 .by_cases aF:i=h
  .subst aF;rw[aO]at jq;cases jq;rw[Z.tg];exact⟨iV++lz,by rw[aP,gB],aaD (aj.keep gh l0.AU) (bN.keep gh l0.AU)⟩
  .rw[Z.kq aF];have wG:g7≠r:=fun I=>aF (Ku L.rows.aH jq (by rw[I];exact aO));exact(L.rows.at_ _ _ jq).keep gh (by simpa using wG) l0.AU
 .intro I;simp at I;obtain⟨_,_,_,_,_,_,q,_⟩:=eK;rw[I,ai]at q;cases q
def aeX(a:bU)(H:aA)(x:Addr)(u:Z.rm):Prop:=∃(dx:Addr)(b5 eX nm:aa),H x=some (MX a dx u.kind b5 u.jj eX u.bJ nm)
structure UL(n:Nat)(u:Z.rm):Prop where
 rE:u.bJ<n
 own:u.own.length<=65
 OW:u.kind=8->u.jj=3
 pQ:0<u.jj->u.own.length<=1
def arH(K:Frag)(a:bU):dj:=fun vs H Q _=>∃(aQ CE:Addr)(cR os:List Addr)(fu:List Z.rm)(n:Nat),vs=[.ref aQ,.ref CE,.int (n:Int)]/\H aQ=some (.ak (cR.map aa.ref))/\Paired (aeX a H) cR fu/\H CE=some (.ak (os.map aa.ref))/\Paired (fun o(u:Z.rm)=>pF H o u.own) os fu/\
 (∀u∈fu,UL n u)/\fu.length<=10000/\n<=1000/\
 ∀H' ff cV,be H H'->H ff=none->(∀r∈cV,H r=none)->cV.length=n->yv H' ff cV (Z.jt fu ([],fun _=>[])).2->Q (.ref ff) H'
theorem EM:dP ["nodes","own_steps","bodies","rows","unfinished","node","own","body"] ["nodes","own_steps","bodies"] (cT SZ):=by trivial
theorem TN{n:Nat}{fu:List Z.rm}(h:∀u∈fu,UL n u):∀j,j<=fu.length->Z.rq n (66*j) (Z.jt (fu.take j) ([],fun _=>[])).1 (Z.jt (fu.take j) ([],fun _=>[])).2
 |0,_=>⟨fun u ck=>(by cases ck),fun u ck=>(by cases ck),fun u ck=>(by cases ck),fun i=>dW _⟩
 |j+1,bQ=>by
  have eL:=TN h j (by omega);have e:fu[j]?=some fu[j]:=gA (by omega);have ck:=h fu[j] (jc e);rw[take_add_one,e,Z.AR];exact eL.node ck.rE ck.own ck.OW ck.pQ
theorem aag(T:Txt K az a):cZ P w K az base (cW P w) 4 a.IT a.G0 ["nodes","own_steps","bodies"] (arH K a):=by
 refine T.PD.dZ EM (fun vs H Q E h=>?_) (fun cJ A outer s H vs Q E aO h=>?_)
 .obtain⟨aQ,CE,cR,os,fu,n,rfl,_⟩:=h;rfl
 .obtain⟨aQ,CE,cR,os,fu,n,rfl,JP,ef,X6,xT,AB,aD,br,k⟩:=h;have l7:sizeLine=16777216:=gU;have YV:cR.length=fu.length:=kX ef;have al8:os.length=fu.length:=kX xT;refine⟨_,bh (KJ (i:=3) (own:=[("body",7)]) z EM.aH z z (K0 z z z z) (Nc z T.MV (aE (af 2) aY)) (by exact yy (N:=["nodes","own_steps","bodies","rows","unfinished","node","own","body"]) (sc:=cT SZ) (by decide+kernel))
   (fun s H C cl cM=>mF (i:=7) EM.aH z (Or.inl z)) (fun s H C cl cM=>zx) (fun s H C cl cM=>gx aY))
   (bh (dU (i:=4) EM.aH z (Or.inl z) (gx aY))
   (bh (vL gT.own z (Nd (by rfl) T.MW (aE (af 0) (aE (af 1) aY)))
     (So z (AY (mF (i:=5) EM.aH z (Or.inl z)) (AY (mF (i:=6) EM.aH z (Or.inl z)) Nb)))
    (bh (fD (jk gZ Fb Lf Eo (mD nJ (af 3) (bG (af 5) z) (fun _ _=>rfl)) (aE (af 6) aY)))
    (bl (d7 (dN AW (bG (af 5) z) dc (dH _))
     (bl (fD (jk gZ k7 lA kU (af 4)
      (aE (mE T.anp (aog T) aO.dw z T.amF T.afB .nil bZ (aE (af 5) aY)) aY))))
     (bl (fD (fU (aoO T) aO z T.amS T.WI.cN T.afQ .nil bZ (aE (af 4) (aE (af 3) aY)))))))))
   (bl (di (af 3))))),?_⟩
  refine⟨_,z,_,z,by omega,by omega,fun ff Mn=>?_⟩;rw[uq];refine al0 (lo:=0) (n:=n) (fun j H'=>be H H'/\∃cV,cV.length=j/\(∀r∈cV,H r=none)/\yv H' ff cV fun _=>[]) ?_ ?_ ?_
  .exact⟨cj (be.refl H) Mn,[],z,fun r h=>(by cases h),aP,fun i r e=>(by simp at e),by simp,by simp⟩
  .rintro j H' bQ ⟨g1,cV,g2,g3,hU⟩;refine⟨z,zB ⟨jV _,fun r jq=>?_⟩⟩;have RY:ff≠r:=eI hU.ak jq;refine⟨_,by rw[aK RY];exact hU.ak,by rw[cA,g2];omega,cj (cj g1 (g1.free jq)) Mn,cV++[r],by simp[g2],?_,?_,?_,?_,?_⟩
   .intro x Y;rcases fN.mp Y with Y|Y
    .exact g3 x Y
    .simp at Y;rw[Y];exact g1.free jq
   .rw[aP,gB];rfl
   .intro i x Y;by_cases aF:i<cV.length
    .rw[sd aF]at Y;obtain⟨b8,aW,bf⟩:=hU.at_ i x Y;have bk:x≠r:=eI aW jq;have bP:x≠ff:=fun I=>hU.fB (by rw[<-I];exact jc Y);cases bf;exact⟨[],by rw[aK bP,aK bk];exact aW,.nil⟩
    .rw[q3 (by omega)]at Y;have:i -cV.length=0:=by
      rcases Nat.eq_zero_or_pos (i -cV.length)with q|q
      .exact q
      .rw[Fd (by simp;omega)]at Y;cases Y
     rw[this]at Y;simp at Y;subst Y;exact⟨[],by rw[aK (bC RY),aP];rfl,.nil⟩
   .refine nodup_append.mpr ⟨hU.aH,by simp,fun x Y y bu I=>?_⟩;simp at bu;obtain⟨i,aF⟩:=vZ Y;obtain⟨b8,aW,_⟩:=hU.at_ i x aF;rw[I,bu,jq]at aW;cases aW
   .intro I;rcases fN.mp I with I|I
    .exact hU.fB I
    .simp at I;exact RY I
  rintro aI ⟨aU,cV,qg,iI,oJ⟩;refine⟨jV _,fun gy uM=>?_⟩;have PN:H gy=none:=aU.free uM;have bD:be H (V aI gy (.ak [])):=cj aU PN;have pS:be aI (V aI gy (.ak [])):=cj (be.refl _) uM;have Lk:uv a (V aI gy (.ak [])) ff gy cV [] (fun _=>[]) []:=⟨oJ.same pS,aP,.nil,by simp,fun I=>(by rw[I,oJ.ak]at uM;cases uM),fun I=>by
   obtain⟨i,aF⟩:=vZ I;obtain⟨b8,aW,_⟩:=oJ.at_ i gy aF;rw[uM]at aW;cases aW⟩
  generalize V aI gy (.ak [])=a7 at bD Lk⊢;clear pS uM oJ aU;refine⟨_,z,_,z,aQ,CE,_,_,z,bj.bM (bD _ _ JP),bj.bM (bD _ _ X6),?_⟩;refine W6 (K:=K) (a:=aQ) (b:=CE) (xs:=cR.map aa.ref) (ys:=os.map aa.ref) (by rw[cA,cA,YV,al8]) (fun j O H'=>∃(dO mh:Option aa)(us:List Addr),O=[some (.ref aQ),some (.ref CE),some (.int (n:Int)),some (.ref ff),some (.ref gy),dO,mh,none]/\be H H'/\(∀u∈us,H u=none)/\
   uv a H' ff gy cV us (Z.jt (fu.take j) ([],fun _=>[])).2 (Z.jt (fu.take j) ([],fun _=>[])).1) ?_ ?_ ?_ ?_
  .exact⟨_,_,[],z,bD,fun u h=>(by cases h),Lk⟩
  .rintro j O H' _ ⟨dO,mh,us,_,g1,_⟩;exact⟨bj.bM (g1 _ _ JP),bj.bM (g1 _ _ X6)⟩
  .rintro j TZ lq O bI jK Y aT ⟨dO,mh,us,rfl,g1,g2,L⟩ vA;rw[h8]at Y aT;cases e:cR[j]? with
   |none=>rw[e]at Y;cases Y
   |some x=>
    cases c5:os[j]? with
    |none=>rw[c5]at aT;cases aT
    |some o=>
     rw[e]at Y;cases Y;rw[c5]at aT;cases aT;obtain⟨u,LQ,dx,b5,eX,nm,xF⟩:=wH ef e;obtain⟨zD,Wa,lz,akI,Yk⟩:=wH xT c5;rw[LQ]at Wa;cases Wa;have bQ:j<fu.length:=(gn.mp LQ).1;have Yn:=AB u (jc LQ);have C2:=TN AB j (by omega);have adK:=TN AB (j+1) (by omega);rw[take_add_one,LQ,Z.AR]at adK⊢;generalize uI:Z.jt (fu.take j) ([],fun _=>[])=S at L C2 adK⊢;obtain⟨U,R⟩:=S;dsimp only at L C2;have pT:be bI (V bI jK (.dD [.ref x,.ref o])):=cj (be.refl _) vA;have Ju:be H (V bI jK (.dD [.ref x,.ref o])):=g1.trans pT;have L':=L.same pT;have Ba:V bI jK (.dD [.ref x,.ref o]) jK=some (.dD [.ref x,.ref o]):=aP;generalize V bI jK (.dD [.ref x,.ref o])=b6 at pT Ju L' Ba⊢;have AC:=Ju _ _ xF;have akJ:=Ju _ _ akI;obtain⟨r,mQ⟩:∃r,cV[u.bJ]?=some r:=⟨_,gA (by rw[qg];exact Yn.rE)⟩;obtain⟨iV,rF,Yl⟩:=L'.rows.at_ _ _ mQ;have uJ:nE (cV.map aa.ref) (u.bJ:Int)=some (aa.ref r):=lD (by rw[h8,mQ];rfl);have auZ:iV.length=(R u.bJ).length:=kX Yl;have auY:lz.length=u.own.length:=kX Yk;have gv:=C2.len u.bJ;have auM:=Yn.own;refine⟨jK,_,z,je.bM Ba,z,_,_,z,_,_,z,z,?_⟩;refine⟨_,z,_,z,x,_,dx,_,_,z,AC,T.gI,T.AK,Bs,ff,_,_,_,z,z,bj.bM L'.rows.ak,uJ,.inl ⟨z,_,bj.bM rF⟩,_,z,r,o,_,_,z,z,rF,akJ,(by rw[cA,cA];omega),?_⟩;have FE:=L'.ext T mQ rF Yl (Yk.same Ju);have d9:H r=none:=iI r (jc mQ);have lO:be H (V b6 r (.ak (iV.map aa.ref++lz.map aa.ref))):=cj Ju d9;generalize V b6 r (.ak (iV.map aa.ref++lz.map aa.ref))=H5 at FE lO⊢;have QX:=lO _ _ xF;refine⟨_,z,x,_,dx,_,_,z,QX,T.gI,T.RD,Un,_,_,z,z,_,z,fi (fun aN=>?_) (fun aN=>?_)⟩
     .have qf:0<u.jj:=by omega
      refine⟨_,z,.inl ⟨z,_,bj.bM FE.x8⟩,_,z,?_⟩;intro y oR aq ay bB;refine⟨y,oR,_,z,aP,z,?_⟩;have ol:be H5 (V (V (V H5 oR (.own y)) y (.au a.oQ oR [])) y (.au a.oQ oR (q6 (.ref x) (.int 0) (.int 0)))):=cj (cj (cj (be.refl _) ay) aq) aq;have La:(V (V (V H5 oR (.own y)) y (.au a.oQ oR [])) y (.au a.oQ oR (q6 (.ref x) (.int 0) (.int 0)))) y=some (ny a oR (.ref x) 0 0):=aP;generalize (V (V (V H5 oR (.own y)) y (.au a.oQ oR [])) y (.au a.oQ oR (q6 (.ref x) (.int 0) (.int 0))))=pZ at ol La⊢;have q9:=FE.same ol;have au0:us.length=U.length:=by have:=kX q9.C1;rw[tE]at this;exact this
      refine⟨gy,_,_,z,z,q9.x8,(by rw[cA];omega),?_⟩;have Am:Z.jt [u] (U,R)=(⟨u.kind,u.jj,u.bJ,0,0⟩::U,Z.fM R u.bJ (R u.bJ++u.own)):=by
       show Z.zk (U,R) u=_;unfold Z.zk;rw[bT qf]
      have Mz:aV [gy] pZ (V pZ gy (.ak (us.map aa.ref++[.ref y]))):=aV.refl.V (.inl (by simp));have atW:y≠gy:=fQ La q9.x8 (by intro q;cases q);have YZ:Dp a pZ [gy]:=fun b ae=>by simp at ae;subst ae;exact .inl ⟨_,q9.x8⟩
      have Jt:H y=none:=lO.free aq;refine⟨_,_,us++[y],z,cj (lO.trans ol) PN,fun I bR=>?_,?_⟩
      .rcases fN.mp bR with bR|bR
       .exact g2 I bR
       .simp at bR;rw[bR];exact Jt
      show uv a _ ff gy cV (us++[y]) (Z.jt [u] (U,R)).2 (Z.jt [u] (U,R)).1;rw[Am];refine⟨⟨Mz _ _ q9.rows.ak (by simpa using bC q9.q1),fun i g7 jq=>(q9.rows.at_ i g7 jq).keep Mz (by simp;exact fun I=>q9.jy (by rw[<-I];exact jc jq)) YZ.AU,q9.rows.aH,q9.rows.fB⟩,by rw[aP,gB];rfl,?_,?_,q9.q1,q9.jy⟩
      .rw[zL];refine rV (xS q9.C1 fun v a6 q eK=>eK.keep T Mz YZ ?_) ⟨oR,x,dx,b5,eX,nm,by rw[aK atW];exact La,?_⟩
       .intro I;simp at I;obtain⟨_,_,_,_,_,_,q,_⟩:=eK;rw[I,q9.x8]at q;cases q
       .exact Mz _ _ (ol _ _ QX) (by simp;exact fun I=>(by have q:=ol _ _ QX;rw[I,q9.x8]at q;cases q))
      .refine nodup_append.mpr ⟨q9.CA,by simp,fun I bR avq xG q=>?_⟩;simp at xG;obtain⟨i,aF⟩:=vZ bR;obtain⟨Bd,_,eK⟩:=wH FE.C1 aF;obtain⟨_,_,_,_,_,_,eW,_⟩:=eK;rw[q,xG,aq]at eW;cases eW
     .have qf:¬0<u.jj:=by omega
      have Am:Z.jt [u] (U,R)=Z.mw U (Z.fM R u.bJ (R u.bJ++u.own)):=by
       show Z.zk (U,R) u=_;unfold Z.zk;rw[bz qf]
      have atp:Z.rq n (66*j+65) U (Z.fM R u.bJ (R u.bJ++u.own)):=by
       have pl:=Z.Sy (R:=R) (h:=u.bJ) (l:=R u.bJ++u.own) (by simp);refine⟨C2.rE,fun v a6 ai aj=>mY (C2.Mw v a6 ai aj) (pl _),C2.zw,fun i=>?_⟩;have:=C2.len i;by_cases aF:i=u.bJ
       .rw[aF,Z.tg,g8];rw[aF]at this;omega
       .rw[Z.kq aF];omega
      refine⟨_,z,_,z,ff,gy,cV,us,_,U,66*j+65,z,FE,(by rw[qg];exact atp),(by omega),fun pZ K5 aW bf df=>?_⟩;refine⟨_,_,K5,z,fun b o e=>aW _ _ (lO _ _ e) (fun I=>?_),fun v a6=>g2 v (df v a6),?_⟩
      .rcases dG.mp I with I|I
       .rw[I,PN]at e;cases e
       .rcases fN.mp I with I|I
        .rw[g2 b I]at e;cases e
        .rw[iI b I]at e;cases e
      .show uv a pZ ff gy cV K5 (Z.jt [u] (U,R)).2 (Z.jt [u] (U,R)).1;rw[Am];exact bf
  .rintro O bI ⟨dO,mh,us,rfl,g1,g2,L⟩;rw[cA,YV,Bm]at L;exact⟨_,z,k bI ff cV g1 Mn iI qg L.rows⟩
end
end Cl
namespace bF
open PySem PySem.Spec PyProof.Rows
section
variable{X:cQ}{K:Frag}{pos:Pos}
theorem M8{e:Expr}{f:Str}{eR:eB}(j1:X.K=K)(cz:dS X e eR)(ae:attributeBase e f X.env (eval e X.env)=eval e X.env):dS X (.Attribute e f pos) (TF K eR f):=by
 subst j1;exact bG cz ae
theorem aaO{bX:List Expr}{k:Nat}{t:Ag}{n:Nat}(j1:X.K=K)(aB:X.calm=true)(h:FH X bX t)(br:(assignEach bX X.env).length=n:=by rfl)(iR:(assignEach bX X.env).findIdx? (·.1)=none:=by rfl):w7 X (.Tuple bX k pos) (Xf K n t):=by
 subst j1;exact So aB h br iR
def apG(K:Frag):List aa->aA->gc->Prop:=fun xs H Q=>∃p ys,xs=[.ref p]/\(bj K H p ys\/je K H p ys)/\Q (.int ys.length) H
theorem agq(j1:X.K=K):Bo X (.builtin "len") (apG K):=by
 subst j1;exact mu
theorem aaL{o i:Expr}{lz vS:eB}(j1:X.K=K)(h:dS X o lz)(aj:dS X i vS)(aL:Ln i):dS X (.Subscript o i pos) (fun O H Q=>lz O H fun x aI=>vS O aI fun y a7=>∃p xs k v,x=.ref p/\y=.int k/\je K a7 p xs/\nE xs k=some v/\Q v a7):=by
 subst j1;exact mD Q4 h aj aL
theorem KE{Fp:Unit}:vf (cW X.prog X.w) X (fun _ _ _=>False):=fun _ _ _ _ _ _ _ h=>by
 obtain⟨_,_,_,_,_,_,_,_,h⟩:=h;exact h.elim
end
theorem YR{K:Frag}{a b:Addr}{xs ys:List aa}{g:nD}{kI:lB}{te:eB}{vs:List Nat}{O:bF.St}{aI:aA}{D:Addr}{wd:aA->Prop}(QY:xs.length=ys.length)(e6:Nat->aA->Prop)(cP:e6 0 (V aI D (.ak [])))(aD:∀i H,i<=xs.length->e6 i H->bj K H a xs/\bj K H b ys)
  (aL:∀i x y H T,xs[i]?=some x->ys[i]?=some y->e6 i H->H T=none->g (.ref T) (jb O vs) (V H T (.dD [x,y])) fun gu a7=>jb gu vs=jb O vs/\kI gu a7 fun b bI=>
   if b=true then te gu bI fun y b6=>∃acc,b6 D=some (.ak acc)/\acc.length<sizeLine/\e6 (i+1) (V b6 D (.ak (acc++[y])))else e6 (i+1) bI)(aG:∀H,e6 xs.length H->wd H):
  ∃W:Nat->Nat->aA->Prop,(∃m,W 0 m (V aI D (.ak [])))/\∀i m H,W i m H->
   ((z5 K a b).tu i H/\wd H)\/((z5 K a b).go i H/\∃nX:aA->Prop,(∀H',nX H'->∃dB,dB<m/\W (i+1) dB H')/\∀x H',(z5 K a b).wR i H x H'->g x (jb O vs) H' fun gu a7=>jb gu vs=jb O vs/\kI gu a7 fun b bI=>
    if b=true then te gu bI fun y b6=>∃acc,b6 D=some (.ak acc)/\acc.length<sizeLine/\nX (V b6 D (.ak (acc++[y])))else nX bI):=by
 refine⟨fun i m H=>m=xs.length -i/\i<=xs.length/\e6 i H,⟨xs.length,by simp,jV _,cP⟩,?_⟩;rintro i m H ⟨rfl,aF,p⟩;obtain⟨aW,bf⟩:=aD i H aF p;by_cases eY:i<xs.length
 .have Qz:i<ys.length:=by omega
  refine .inr ⟨⟨xs,ys,xs[i],ys[i],aW,bf,by simp[eY],by simp[Qz]⟩,e6 (i+1),fun H' lN=>⟨xs.length -(i+1),by omega,z,eY,lN⟩,fun x H' y=>?_⟩;obtain⟨T,bg,yc,rfl,dh,rfl,ay,aq⟩:=y;exact aL i bg yc H T (ay xs aW) (aq ys bf) p dh
 .have e:i=xs.length:=by omega
  subst e;exact .inl ⟨⟨xs,ys,aW,bf,.inl (dW _)⟩,aG H p⟩
end bF
namespace Cl
open PySem PySem.Spec PyProof.Rows bF
section
variable{P:Program}{w:World}{K:Frag}{az:Str->Option Value}{base:Heap}{a:bU}
def asm(a:bU):dj:=fun vs H Q _=>∃(x:Addr)(aH:Z.jO),vs=[.ref x]/\uw a H x aH/\(aH.kind=1->aH.value<aH.eZ)/\∀H' q,be H H'->H q=none->pF H' q (Z.zv aH)->Q (.ref q) H'
theorem aqX:dP ["node"] ["node"] (cT acq):=by trivial
theorem EC{H:aA}{k v:Nat}{t q:Addr}(bO:H t=none)(a9:V H t (.dD [.int (k:Int),.int (v:Int)]) q=none):be H (V (V H t (.dD [.int (k:Int),.int (v:Int)])) q (.ak [.ref t]))/\H q=none/\pF (V (V H t (.dD [.int (k:Int),.int (v:Int)])) q (.ak [.ref t])) q [(k,v)]:=by
 obtain⟨aW,bf⟩:=e8 a9;exact⟨cj (cj (be.refl _) bO) bf,bf,[t],aP,.cons (by rw[aK (bC aW),aP]) .nil⟩
theorem aoY(T:Txt K az a):cZ P w K az base (cW P w) 2 a.I0 a.G7 ["node"] (asm a):=by
 refine T.WR.dZ aqX (fun vs H Q E h=>?_) (fun cJ A outer s H vs Q E aO h=>?_)
 .obtain⟨x,aH,rfl,_⟩:=h;rfl
 .obtain⟨x,aH,rfl,⟨dx,nm,Y⟩,a6,k⟩:=h;have l7:sizeLine=16777216:=gU;refine⟨_,bh (d7 (dN e9 (bG (af 0) z) (cH T.DO) (dH _)) (bl (di (gx (aE (qO (aE (cH T.PX) (aE (bG (af 0) z) aY))) aY)))) fH)
   (bh (d7 (dN e9 (bG (af 0) z) (cH T.L2) (dH _)) (bl (di (gx (aE (qO (aE (cH T.L0) (aE (fU (R6 T) aO z T.Ru T.LV.cN T.OM .nil bZ (aE (af 0) aY)) aY))) aY)))) fH)
   (bh (d7 (KN (dN e9 (bG (af 0) z) (cH T.LZ) (dH _)) (KO (dN e9 (bG (af 0) z) (cH T.PZ) (dH _)))).s9 (bl (di (gx (aE (qO (aE (cH T.Xn) (aE (bG (af 0) z) aY))) aY)))) fH)
   (bl (di (gx aY))))),?_⟩
  refine⟨_,z,x,_,dx,_,_,z,Y,T.gI,T.qK,q5,z,_,z,fi (fun cP=>?_) (fun cP=>?_)⟩
  .have e:aH.kind=0:=by have:=gK cP;omega
   refine⟨_,z,x,_,dx,_,_,z,Y,T.gI,T.uP,u9,(by show 2<=sizeLine;omega),fun t bO=>⟨(by show 1<=sizeLine;omega),fun q a9=>?_⟩⟩;obtain⟨aU,bD,b4⟩:=EC (k:=0) bO a9;refine k _ q aU bD ?_;unfold Z.zv;rw[bT e];exact b4
  have o5:aH.kind≠0:=fun I=>cP (by rw[I];rfl);refine⟨_,z,x,_,dx,_,_,z,Y,T.gI,T.qK,q5,z,_,z,fi (fun ai=>?_) (fun ai=>?_)⟩
  .have e:aH.kind=1:=by have:=gK ai;omega
   have eY:=a6 e;have gY:((aH.eZ:Int) -1 -(aH.value:Int))=((aH.eZ -1 -aH.value:Nat):Int):=by omega
   refine⟨_,z,x,dx,_,_,_,_,_,_,z,Y,?_⟩;rw[gY];refine⟨(by show 2<=sizeLine;omega),fun t bO=>⟨(by show 1<=sizeLine;omega),fun q a9=>?_⟩⟩;obtain⟨aU,bD,b4⟩:=EC (k:=1) bO a9;refine k _ q aU bD ?_;unfold Z.zv;rw[bz o5,bT e];exact b4
  have ed:aH.kind≠1:=fun I=>ai (by rw[I];rfl);have fin:(aH.kind=2\/aH.kind=3)->∀(t q:Addr),H t=none->V H t (.dD [.int 2,.int (aH.value:Int)]) q=none->Q (.ref q) (V (V H t (.dD [.int 2,.int (aH.value:Int)])) q (.ak [.ref t])):=fun e t q bO a9=>by
   obtain⟨aU,bD,b4⟩:=EC (k:=2) bO a9;refine k _ q aU bD ?_;unfold Z.zv;rw[bz o5,bz ed,bT e];exact b4
  refine⟨_,z,x,_,dx,_,_,z,Y,T.gI,T.qK,q5,z,_,z,fi (fun aj=>lY ?_) (fun aj=>?_)⟩
  .exact⟨_,z,x,_,dx,_,_,z,Y,T.gI,T.uP,u9,(by show 2<=sizeLine;omega),fun t bO=>⟨(by show 1<=sizeLine;omega),fun q a9=>fin (.inl (by have:=gK aj;omega)) t q bO a9⟩⟩
  .refine⟨_,z,x,_,dx,_,_,z,Y,T.gI,T.qK,q5,z,_,z,fi (fun bN=>?_) (fun bN=>?_)⟩
   .exact⟨_,z,x,_,dx,_,_,z,Y,T.gI,T.uP,u9,(by show 2<=sizeLine;omega),fun t bO=>⟨(by show 1<=sizeLine;omega),fun q a9=>fin (.inr (by have:=gK bN;omega)) t q bO a9⟩⟩
   .refine⟨jV _,fun q a9=>k _ q (cj (be.refl _) a9) a9 ⟨[],aP,?_⟩⟩;have e:Z.zv aH=[]:=by
     unfold Z.zv;rw[bz o5,bz ed,bz];rintro (I|I)
     .exact aj (by rw[I];rfl)
     .exact bN (by rw[I];rfl)
    rw[e];exact .nil
end
end Cl
namespace Z
open Cz
def Ai(t:Term):List gC:=(range (ic t).length).map fun i=>⟨xU t i,ownB (ic t) i,1+(oN t i).length⟩
def uB(c:Code):List gC:=(range (c.procs.length+1)).map fun i=>⟨zz c i,2,1+mG c i⟩
theorem OP{t:Term}{i:Nat}(h:i<(ic t).length):(Ai t)[i]?=some ⟨xU t i,ownB (ic t) i,1+(oN t i).length⟩:=by
 unfold Ai;rw[h8,getElem?_range h];rfl
theorem OO{c:Code}{i:Nat}(h:i<c.procs.length+1):(uB c)[i]?=some ⟨zz c i,2,1+mG c i⟩:=by
 unfold uB;rw[h8,getElem?_range h];rfl
theorem aaB(x:jO):(zv x).length<=1:=by
 unfold zv;split
 .exact dW _
 .split
  .exact dW _
  .split
   .exact dW _
   .exact jV _
end Z
namespace Cl
open PySem PySem.Spec PyProof.Rows bF
def Ua(a:bU)(H H':aA)(q:Addr)(bx:List Addr):Prop:=H q=none/\(∀bV∈bx,H bV=none)/\∀bV∈bx,∀(dK b7:Addr)(b5 bL:aa),H' bV=some (.au a.p9 dK (pA (.ref b7) b5 bL))->H b7=none
section
variable{P:Program}{w:World}{K:Frag}{az:Str->Option Value}{base:Heap}{a:bU}
def aru(a:bU):dj:=fun vs H Q _=>∃(fR aQ av:Addr)(t:Cz.Term)(cR xs cg:List Addr),vs=[.ref fR]/\Ad a H fR t aQ av cR xs cg/\∀H' q bx,be H H'->Ua a H H' q bx->q4 a H' q bx (Z.Ai t)->Q (.ref q) H'
theorem CU:dP ["program","own_steps","rows","node","row","body"] ["program"] (cT Nz):=by trivial
theorem anR(t:Cz.Term)(n h k:Nat)(w:Z.iw t n)(ee:h<k):∀x∈Z.cU t n h k,x.kind=8->x.jj=3:=by
 induction t generalizing n h k with
 |num _=>intro x Y gf;simp[Z.cU]at Y;subst Y;cases gf
 |var _=>intro x Y gf;simp[Z.cU]at Y;subst Y;cases gf
 |fn b eL=>intro x Y gf;simp only[Z.cU,dG]at Y;rcases Y with rfl|Y;cases gf;exact eL _ _ _ w (by omega) x Y gf
 |fix b eL=>intro x Y gf;simp only[Z.cU,dG]at Y;rcases Y with rfl|Y;cases gf;exact eL _ _ _ w (by omega) x Y gf
 |app f b ej c6=>intro x Y gf;simp only[Z.cU,dG,fN]at Y;rcases Y with rfl|Y|Y;cases gf;exact ej _ _ _ w.1 ee x Y gf;exact c6 _ _ _ w.2 (by omega) x Y gf
 |add f b ej c6=>intro x Y gf;simp only[Z.cU,dG,fN]at Y;rcases Y with rfl|Y|Y;cases gf;exact ej _ _ _ w.1 ee x Y gf;exact c6 _ _ _ w.2 (by omega) x Y gf
 |sub f b ej c6=>intro x Y gf;simp only[Z.cU,dG,fN]at Y;rcases Y with rfl|Y|Y;cases gf;exact ej _ _ _ w.1 ee x Y gf;exact c6 _ _ _ w.2 (by omega) x Y gf
 |less f b ej c6=>intro x Y gf;simp only[Z.cU,dG,fN]at Y;rcases Y with rfl|Y|Y;cases gf;exact ej _ _ _ w.1 ee x Y gf;exact c6 _ _ _ w.2 (by omega) x Y gf
 |cond c f b Ci ej c6=>intro x Y gf;simp only[Z.cU,dG,fN]at Y;rcases Y with rfl|Y|Y|Y;rfl;exact Ci _ _ _ w.1 ee x Y gf;exact ej _ _ _ w.2.1 (by omega) x Y gf;exact c6 _ _ _ w.2.2 (by omega) x Y gf
 |name f b ej c6=>intro x Y gf;simp only[Z.cU,dG,fN]at Y;rcases Y with rfl|Y|Y;cases gf;exact ej _ _ _ w.1 ee x Y gf;exact c6 _ _ _ w.2 (by omega) x Y gf
theorem Sk{cL ik ad1:Type}{F:cL->ad1->Prop}(f:ik->ad1):∀{l:List cL}{m:List ik},Paired (fun x y=>F x (f y)) l m->Paired F l (m.map f)
 |_,_,.nil=>.nil
 |_,_,.cons r t=>.cons r (Sk f t)
theorem aon(T:Txt K az a):cZ P w K az base (cW P w) 5 a.I7 a.Hj ["program"] (aru a):=by
 refine T.WX.dZ CU (fun vs H Q E h=>?_) (fun cJ A outer s H vs Q E aO h=>?_)
 .obtain⟨fR,aQ,av,t,cR,xs,cg,rfl,_⟩:=h;rfl
 .obtain⟨fR,aQ,av,t,cR,xs,cg,rfl,ek,k⟩:=h;have l7:sizeLine=16777216:=gU;obtain⟨eE,aT⟩:=ek.obj;have eF:(Z.ic t).length=t.fns+1:=FQ t;have qH:=ek.fn;have Ce:=ek.cF;have fine:=Z.OI t ek.ah ek.eE;have gv:cR.length=(Z.cU t 0 0 1).length:=kX ek.ef;refine⟨_,bh (KJ (i:=1) (own:=[("node",3)]) z CU.aH z z (K0 z z z z) (wI (bG (af 0) z)) (by exact yy (N:=["program","own_steps","rows","node","row","body"]) (sc:=cT Nz) (by decide+kernel))
   (fun s H C cl cM=>mF (i:=3) CU.aH z (Or.inl z)) (fun s H C cl cM=>zx) (fun s H C cl cM=>fU (aoY T) aO.dw z T.am0 T.WR.cN T.afY .nil (KE (Fp:=())) (aE (af 3) aY)))
   (bh (dU (i:=2) CU.aH z (Or.inl z) (fU (aag T) aO z T.Zo T.PD.cN T.Vf .nil bZ (aE (bG (af 0) z) (aE (af 1) (aE (j3 mu (by rfl) T.mC m3 (aE (bG (af 0) z) aY)) aY)))))
   (bl (di (M9 (own:=[("row",4),("body",5)]) z CU.aH (Nd (by rfl) T.MW (aE (af 2) (aE (bG (af 0) z) aY))) (by exact yy (N:=["program","own_steps","rows","node","row","body"]) (sc:=cT Nz) (by decide+kernel))
    (fun s H C cl cM=>aaO (K:=K) (n:=2) z z (AY (mF (i:=4) CU.aH z (Or.inl z)) (AY (mF (i:=5) CU.aH z (Or.inl z)) Nb))) (fun s H C cl cM=>zx)
    (fun s H C cl cM=>mE T.Zw (Z9 T) aO.dw z T.Ze T.U0 .nil (KE (Fp:=())) (aE (af 4) (aE (M8 (K:=K) z (af 5) z) (aE (f9 kH dc (j3 (agq (K:=K) z) (by rfl) T.mC m3 (aE (M8 (K:=K) z (af 5) z) aY))) aY)))))))),?_⟩
  refine⟨_,z,fR,_,eE,_,_,z,aT,T.xg,T.MN,Oh,aQ,z,⟨_,bj.bM ek.oi⟩,fun D lH=>?_⟩;refine Ka (K:=K) (a:=aQ) (xs:=cR.map aa.ref) (fun j H'=>be H H'/\∃os:List Addr,os.length=j/\H' D=some (.ak (os.map aa.ref))/\D∉os/\Paired (fun o(u:Z.rm)=>pF H' o u.own) os (((Z.cU t 0 0 1).take j).map Z.K3)) ?_ (fun j H' _ q=>bj.bM (q.1 _ _ ek.oi)) ?_ ?_
  .exact⟨cj (be.refl H) lH,[],z,aP,by simp,.nil⟩
  .rintro j y H' bQ ⟨g1,os,g2,g3,lg,hU⟩;rw[h8]at bQ;cases e:cR[j]? with
   |none=>rw[e]at bQ;cases bQ
   |some x=>
    rw[e]at bQ;cases bQ;obtain⟨aH,aq,yX⟩:=wH ek.ef e;have lJ:j<(Z.cU t 0 0 1).length:=(gn.mp aq).1;have aM:=jc aq;have a6:=(Z.qM t 0 0 1 ek.ah (by decide) aH aM).2;refine⟨z,zB ⟨_,z,x,aH,z,yX.same g1,a6,fun a7 q bD a9 iR=>⟨_,bD _ _ g3,by rw[cA,g2];omega,cj (g1.trans bD) lH,os++[q],by simp[g2],by rw[aP,gB];rfl,?_,?_⟩⟩⟩
    .intro I;rcases fN.mp I with I|I
     .exact lg I
     .simp at I;rw[<-I,g3]at a9;cases a9
    .rw[xY aq,gB];have J6:aV [D] a7 (V a7 D (.ak (os.map aa.ref++[.ref q]))):=aV.refl.V (.inl (by simp));have wl:=bD _ _ g3;have Kx:∀b∈[D],∀xs,a7 b≠some (.dD xs):=fun b ae xs e=>by simp at ae;subst ae;rw[wl]at e;cases e
     have RV:q≠D:=fun I=>by rw[I,g3]at a9;cases a9
     refine rV (xS hU fun o tW u ck=>(ck.same bD).keep J6 ?_ Kx) (iR.keep J6 (by simpa using RV) Kx);simp;exact fun I=>lg (by rw[<-I];exact tW)
  rintro aI ⟨aU,os,akN,JB,_,xT⟩;rw[cA,gv,Bm]at xT;have qe:=aU _ _ ek.n5.ak;have JR:=aU _ _ aT;refine⟨_,z,fR,_,eE,_,_,z,JR,T.xg,T.MN,Oh,_,z,_,z,fR,_,eE,_,_,z,JR,T.xg,T.Ep,Fv,av,_,z,.inl (bj.bM qe),aQ,D,cR,os,(Z.cU t 0 0 1).map Z.K3,_,z,aU _ _ ek.oi,?_,JB,xT,?_,?_,?_,fun a7 ff cV bD Jr iI qg R=>?_⟩
  .refine Sk Z.K3 (bF.Paired.nI (fun x aH Y=>?_) ek.ef);obtain⟨dx,nm,e⟩:=Y.same aU;exact⟨dx,_,_,nm,e⟩
  .intro u ck;obtain⟨x,Y,rfl⟩:=vY.mp ck;have f:=fine x Y;refine⟨?_,i3 (Z.aaB x) (by decide),anR t 0 0 1 ek.ah (by decide) x Y,fun _=>Z.aaB x⟩;rw[cA,ek.n5.lj];exact f.bJ
  .rw[cA];omega
  .rw[cA,ek.n5.lj,eF];omega
  rw[Z.ap2]at R;have R:yv a7 ff cV (Z.xU t):=R;rw[cA,ek.n5.lj]at qg;have pS:=aU.trans bD;have QF:=pS _ _ aT;have OQ:=ek.n5.same pS;refine⟨_,z,_,z,fR,_,eE,_,_,z,QF,T.xg,T.Ep,Fv,ff,av,_,_,z,bj.bM R.ak,bj.bM OQ.ak,fun v5 wl=>?_⟩;have Pw:H v5=none:=pS.free wl;refine YR (K:=K) (a:=ff) (b:=av) (xs:=cV.map aa.ref) (ys:=xs.map aa.ref) (by rw[cA,cA,qg,ek.n5.lj]) (fun j H'=>be a7 H'/\∃bx:List Addr,bx.length=j/\H' v5=some (.ak (bx.map aa.ref))/\(∀b∈bx,H b=none/\b≠v5)/\
   ∀(i:Nat)(bV:Addr),bx[i]?=some bV->∃(dK r:Addr),cV[i]?=some r/\H' bV=some (.au a.p9 dK (pA (.ref r) (.int (Z.ownB (Z.ic t) i:Nat)) (.int ((1+(Z.oN t i).length:Nat):Int))))) ?_ (fun j H' _ q=>⟨bj.bM (q.1 _ _ R.ak),bj.bM (q.1 _ _ OQ.ak)⟩) ?_ ?_
  .exact⟨cj (be.refl _) wl,[],z,aP,fun b h=>(by cases h),fun i bV e=>(by simp at e)⟩
  .rintro j TZ T3 H' jK Y bu ⟨g1,bx,g2,g3,hU,lg⟩ vA;rw[h8]at Y bu;cases e:cV[j]? with
   |none=>rw[e]at Y;cases Y
   |some r=>
    cases c5:xs[j]? with
    |none=>rw[c5]at bu;cases bu
    |some x=>
     rw[e]at Y;cases Y;rw[c5]at bu;cases bu;have bQ:j<(Z.ic t).length:=by rw[<-ek.n5.lj];exact(gn.mp c5).1
     obtain⟨tk,ahL⟩:∃tk,cg[j]?=some tk:=⟨_,gA (by rw[ek.n5.lt];exact bQ)⟩;have xq:(Z.ic t)[j]?=some (Z.ic t)[j]:=gA bQ;obtain⟨⟨dx,JG⟩,xE⟩:=OQ.at_ j x tk _ c5 ahL xq;have ahC:Z.ownB (Z.ic t) j=(Z.ic t)[j].own:=by unfold Z.ownB;rw[xq]
     have pT:be H' (V H' jK (.dD [.ref r,.ref x])):=cj (be.refl _) vA;have Ba:V H' jK (.dD [.ref r,.ref x]) jK=some (.dD [.ref r,.ref x]):=aP;generalize V H' jK (.dD [.ref r,.ref x])=bI at pT Ba⊢;have XF:=pT _ _ (g1 _ _ JG);have ak3:=pT _ _ (g1 _ _ xE);refine⟨jK,_,z,je.bM Ba,z,_,_,z,_,_,z,z,z,zB ?_⟩;refine⟨_,z,_,z,x,_,dx,_,_,z,XF,T.qB,T.Rz,Uj,_,z,x,_,dx,_,_,z,XF,T.qB,T.Cs,Dj,tk,_,z,.inl (bj.bM ak3),_,_,z,z,?_⟩;intro bV dK aq ay bB;have Px:H bV=none:=pS.free (g1.free (pT.free aq));refine⟨bV,dK,_,_,_,z,aP,z,bx.map aa.ref,?_,?_,?_⟩
     rotate_left
     .show(bx.map aa.ref).length<_;rw[cA,g2];omega
     .have KU:∀gE nN t9,be bI (V (V (V bI dK gE) bV nN) bV t9):=fun gE nN t9=>cj (cj (cj (be.refl _) ay) aq) aq;have Kr:bV≠v5:=fun I=>by
       have:=pT _ _ g3;rw[<-I,aq]at this;cases this
      refine⟨cj ((g1.trans pT).trans (KU _ _ _)) wl,bx++[bV],by simp[g2],by rw[aP,gB];rfl,fun b ae=>?_,fun i Dv iB=>?_⟩
      .rcases fN.mp ae with ae|ae
       .exact hU b ae
       .simp at ae;rw[ae];exact⟨Px,Kr⟩
      .by_cases aF:i<bx.length
       .rw[sd aF]at iB;obtain⟨HB,g7,aW,bf⟩:=lg i Dv iB;refine⟨HB,g7,aW,?_⟩;rw[aK (hU Dv (jc iB)).2];exact KU _ _ _ _ _ (pT _ _ bf)
       .rw[q3 (by omega)]at iB;have Qo:i -bx.length=0:=by
         rcases Nat.eq_zero_or_pos (i -bx.length)with q|q
         .exact q
         .rw[Fd (by simp;omega)]at iB;cases iB
        rw[Qo]at iB;simp at iB;subst iB;have JL:i=j:=by omega
        subst JL;refine⟨dK,r,e,?_⟩;rw[aK Kr,aP,ahC];show some (cI.au a.p9 dK (pA (aa.ref r) (aa.int _) (aa.int ((1:Int)+(((Z.oN t i).map fun l=>aa.int (l:Nat)).length:Nat)))))=_;rw[cA,Fi];rfl
     .have:∀gE nN t9,be bI (V (V (V bI dK gE) bV nN) bV t9):=fun gE nN t9=>cj (cj (cj (be.refl _) ay) aq) aq;exact this _ _ _ _ _ (pT _ _ g3)
  .rintro bI ⟨b4,bx,mP,P6,RH,JH⟩;rw[cA,qg]at mP;refine k bI v5 bx (pS.trans b4) ⟨Pw,fun b ae=>(RH b ae).1,fun bV tV dK b7 b5 bL e=>?_⟩ ⟨P6,by rw[mP];unfold Z.Ai;rw[cA,List.length_range],fun i bV b ay aq=>?_⟩
   .obtain⟨i,aF⟩:=vZ tV;obtain⟨HB,r,aW,bf⟩:=JH i bV aF;rw[e]at bf;have:=j7 bf;injection this with _ _ df
    unfold pA at df;injection df with e7 _
    have k6:=oA Prod.snd e7;injection k6 with oj
    rw[oj];exact aU.free (iI r (jc aW))
   .have aF:i<(Z.ic t).length:=by rw[<-mP];exact(gn.mp ay).1
    rw[Z.OP aF]at aq;cases aq;obtain⟨dK,r,aW,bf⟩:=JH i bV ay;obtain⟨b8,fE,gQ⟩:=(R.at_ i r aW).same b4;exact⟨dK,r,b8,bf,fE,gQ⟩
end
end Cl
namespace bF
open PySem PySem.Spec PyProof.Rows
section
variable{X:cQ}{K:Frag}{pos:Pos}
theorem apc{o i:Expr}{lz vS:eB}(j1:X.K=K)(h:dS X o lz)(aj:dS X i vS)(aL:Ln i):dS X (.Subscript o i pos) (fun O H Q=>lz O H fun x aI=>vS O aI fun y a7=>∃p xs k v,x=.ref p/\y=.int k/\bj K a7 p xs/\nE xs k=some v/\Q v a7):=by
 subst j1;exact mD nJ h aj aL
end
end bF
namespace Cl
open PySem PySem.Spec PyProof.Rows bF
section
variable{P:Program}{w:World}{K:Frag}{az:Str->Option Value}{base:Heap}{a:bU}
def RL(n:Nat)(y:Nat×Nat):Prop:=(y.1=1\/y.1=2\/y.1=3)\/y.2<n
def ar3(a:bU):dj:=fun vs H Q _=>∃(x dx:Addr)(TP b5 bL nm:aa)(bW qm n h tk:Nat),vs=[.int (bW:Int),.int (qm:Int),.ref x,.int (tk:Int)]/\H x=some (.au a.ip dx (iP TP b5 bL (.int (n:Int)) (.int (h:Int)) nm))/\RL n (bW,qm)/\Q (.int (Z.ue tk n h (bW,qm):Nat)) H
theorem acT:dP ["kind","number","node","count","first_kept"] ["kind","number","node","count"] (cT acv):=by trivial
theorem aal(T:Txt K az a):cZ P w K az base (cW P w) 1 a.I5 a.Hh ["kind","number","node","count"] (ar3 a):=by
 refine T.PF.dZ acT (fun vs H Q E h=>?_) (fun cJ A outer s H vs Q E aO h=>?_)
 .obtain⟨x,dx,TP,b5,bL,nm,bW,qm,n,h,tk,rfl,_⟩:=h;rfl
 .obtain⟨x,dx,TP,b5,bL,nm,bW,qm,n,h,tk,rfl,Y,iq,k⟩:=h;refine⟨_,bh (d7 (dN e9 (af 0) (cH T.P0) (dH _)) (bl (di (af 1))) fH)
   (bh (d7 (dN e9 (af 0) (cH T.PY) (dH _)) (bl (di (af 3))) fH)
   (bh (d7 (dN e9 (af 0) (cH T.PU) (dH _)) (bl (di (f9 kH (af 3) dc))) fH)
   (bh (dU (i:=4) acT.aH z (Or.inl z) (AX (dN e9 (bG (af 2) z) (cH T.yJ) (dH _)) dc (f9 kH (af 3) (cH T.Xo))))
   (bl (di (f9 uc (f9 uc (f9 kH (af 4) (bG (af 2) z)) dc) (af 1))))))),?_⟩
  refine⟨_,z,z,_,z,fi (fun aj=>?_) (fun aj=>?_)⟩
  .have e:bW=2:=by have:=gK aj;omega
   subst e;exact⟨_,z,k⟩
  have fc:bW≠2:=fun I=>aj (by rw[I];rfl);refine⟨_,z,z,_,z,fi (fun bN=>?_) (fun bN=>?_)⟩
  .have e:bW=3:=by have:=gK bN;omega
   subst e;exact⟨_,z,k⟩
  have ql:bW≠3:=fun I=>bN (by rw[I];rfl);refine⟨_,z,z,_,z,fi (fun ai=>?_) (fun ai=>?_)⟩
  .have e:bW=1:=by have:=gK ai;omega
   subst e;exact⟨_,z,_,_,z,z,k⟩
  have ed:bW≠1:=fun I=>ai (by rw[I];rfl);have eY:qm<n:=by
   rcases iq with(I|I|I)|I
   .exact absurd I ed
   .exact absurd I fc
   .exact absurd I ql
   .exact I
  have ig:Z.ue tk n h (bW,qm)=(if h=0 then 0 else tk+2)+n -1 -qm:=by
   unfold Z.ue;rw[bz fc,bz ql,bz ed]
  rw[ig]at k;refine⟨_,z,x,_,dx,_,_,z,Y,T.gI,T.AK,Bs,z,_,z,fi (fun cP=>?_) (fun cP=>?_)⟩
  .have e:h=0:=by have:=gK cP;omega
   rw[bT e]at k;refine⟨_,z,_,z,x,_,dx,_,_,z,Y,T.gI,T.Kq,Li,_,_,z,z,_,_,z,z,_,z,_,_,z,z,?_⟩;show Q (.int ((0:Int)+(n:Int) -1 -(qm:Int))) H;rw[show((0:Int)+(n:Int) -1 -(qm:Int))=((0+n -1 -qm:Nat):Int) by omega];exact k
  .have e:h≠0:=fun I=>cP (by rw[I];rfl);rw[bz e]at k;refine⟨_,z,_,_,z,z,_,z,_,z,x,_,dx,_,_,z,Y,T.gI,T.Kq,Li,_,_,z,z,_,_,z,z,_,z,_,_,z,z,?_⟩;show Q (.int ((tk:Int)+2+(n:Int) -1 -(qm:Int))) H;rw[show((tk:Int)+2+(n:Int) -1 -(qm:Int))=((tk+2+n -1 -qm:Nat):Int) by omega];exact k
structure Ud(aH:Z.jl):Prop where
 anx:aH.kind≠0->aH.kind≠11->¬(4<=aH.kind/\aH.kind<=9)->RL aH.eZ (aH.kind,aH.value)
 Y3:aH.kind=11->aH.names.length<=64/\∀y∈aH.names,RL aH.eZ y
def asl(K:Frag)(a:bU):dj:=fun vs H Q _=>∃(x:Addr)(aH:Z.jl)(tk:Nat),vs=[.ref x,.int (tk:Int)]/\tF a [] H x aH/\Ud aH/\∀H' q,be H H'->H q=none->pF H' q (Z.vH tk aH)->Q (.ref q) H'
theorem Tc:dP ["node","count","named","name"] ["node","count"] (cT S0):=by trivial
theorem aoX(T:Txt K az a):cZ P w K az base (cW P w) 2 a.IZ a.G6 ["node","count"] (asl K a):=by
 refine T.WQ.dZ Tc (fun vs H Q E h=>?_) (fun cJ A outer s H vs Q E aO h=>?_)
 .obtain⟨x,aH,tk,rfl,_⟩:=h;rfl
 .obtain⟨x,aH,tk,rfl,⟨dx,nm,Y,wo⟩,bq,k⟩:=h;have l7:sizeLine=16777216:=gU;refine⟨_,bh (d7 (dN e9 (bG (af 0) z) (cH T.DO) (dH _)) (bl (di (gx (aE (qO (aE (cH T.PX) (aE (bG (af 0) z) aY))) aY)))) fH)
   (bh (d7 (dN e9 (bG (af 0) z) (cH T.Jz) (dH _))
    (bh (KJ (i:=2) (own:=[("name",3)]) z Tc.aH z z (K0 z z z z) (wI (bG (af 0) z)) (by exact yy (N:=["node","count","named","name"]) (sc:=cT S0) (by decide+kernel))
      (fun s H C cl cM=>mF (i:=3) Tc.aH z (Or.inl z)) (fun s H C cl cM=>zx)
      (fun s H C cl cM=>qO (aE (cH T.L0) (aE (fU (aal T) aO z T.Zq T.PF.cN T.Vh .nil (KE (Fp:=())) (aE (aaL (K:=K) z (af 3) dc (fun _ _=>rfl)) (aE (aaL (K:=K) z (af 3) dc (fun _ _=>rfl)) (aE (af 0) (aE (af 1) aY))))) aY))))
     (bl (di (f9 CG (af 2) (gx (aE (qO (aE (cH T.Xp) (aE (bG (af 0) z) aY))) aY)))))) fH)
   (bh (d7 (Sx (Sl (bG (af 0) z) (CJ (v:=.ref a.rU) z T.En z))) (bl (di (gx aY))) fH)
   (bl (di (gx (aE (qO (aE (cH T.L0) (aE (fU (aal T) aO z T.Zq T.PF.cN T.Vh .nil bZ (aE (bG (af 0) z) (aE (bG (af 0) z) (aE (af 0) (aE (af 1) aY))))) aY))) aY)))))),?_⟩
  refine⟨_,z,x,_,dx,_,_,z,Y,T.gI,T.qK,q5,z,_,z,fi (fun cP=>?_) (fun cP=>?_)⟩
  .have e:aH.kind=0:=by have:=gK cP;omega
   refine⟨_,z,x,_,dx,_,_,z,Y,T.gI,T.uP,u9,(by show 2<=sizeLine;omega),fun t bO=>⟨(by show 1<=sizeLine;omega),fun q a9=>?_⟩⟩;obtain⟨aU,bD,b4⟩:=EC (k:=0) bO a9;refine k _ q aU bD ?_;unfold Z.vH;rw[bT e];exact b4
  have o5:aH.kind≠0:=fun I=>cP (by rw[I];rfl);refine⟨_,z,x,_,dx,_,_,z,Y,T.gI,T.qK,q5,z,_,z,fi (fun ai=>?_) (fun ai=>?_)⟩
  .have Pc:aH.kind=11:=by have:=gK ai;omega
   obtain⟨aQ,b8,rfl,_,JP,sW⟩:=wo Pc;obtain⟨auK,qF⟩:=bq.Y3 Pc;have El:b8.length=aH.names.length:=kX sW;refine⟨_,z,x,_,dx,_,_,z,Y,T.gI,T.MM,Og,aQ,z,⟨_,bj.bM JP⟩,fun D lH=>?_⟩;refine Ka (K:=K) (a:=aQ) (xs:=b8.map aa.ref) (fun j H'=>be H H'/\∃jv:List Addr,jv.length=j/\H' D=some (.ak (jv.map aa.ref))/\jN H' jv ((aH.names.take j).map fun y=>(1,Z.ue tk aH.eZ aH.bJ y))) ?_ (fun j H' _ q=>bj.bM (q.1 _ _ JP)) ?_ ?_
   .exact⟨cj (be.refl H) lH,[],z,aP,.nil⟩
   .rintro j T3 H' bQ ⟨g1,jv,g2,g3,hU⟩;rw[h8]at bQ;cases e:b8[j]? with
    |none=>rw[e]at bQ;cases bQ
    |some t=>
     rw[e]at bQ;cases bQ;obtain⟨y,xw,bu⟩:=wH sW e;have Ys:=g1 _ _ bu;have alg:=g1 _ _ Y;refine⟨z,zB ⟨_,z,t,_,_,_,z,z,je.bM Ys,lD (j:=0) z,_,z,t,_,_,_,z,z,je.bM Ys,lD (j:=1) z,_,z,_,z,x,dx,_,_,_,_,y.1,y.2,aH.eZ,aH.bJ,tk,z,alg,qF y (jc xw),(by show 2<=sizeLine;omega),fun q a9=>?_⟩⟩;have ZF:D≠q:=eI g3 a9;have lJ:j<aH.names.length:=(gn.mp xw).1;refine⟨jv.map aa.ref,by rw[aK ZF];exact g3,by rw[cA,g2];omega,cj (cj g1 (g1.free a9)) lH,jv++[q],by simp[g2],by rw[aP,gB];rfl,?_⟩;rw[xY xw,gB];refine rV (jN.keep (M:=[q,D]) hU ((aV.refl.V (.inl (by simp))).V (.inl (by simp))) (fun b ae xs e=>?_)) ?_
     .rcases tZ ae with rfl|rfl
      .rw[a9]at e;cases e
      .rw[g3]at e;cases e
     .rw[aK (bC ZF),aP];rfl
   rintro aI ⟨aU,jv,akX,JB,wF⟩;rw[cA,El,Bm]at wF;have alf:=aU _ _ Y;refine⟨_,z,_,z,x,_,dx,_,_,z,alf,T.gI,T.uP,u9,(by show 2<=sizeLine;omega),fun t bO=>⟨(by show 1<=sizeLine;omega),fun l aD=>?_⟩⟩;obtain⟨bD,i6,bw,DY,au4⟩:=EC (k:=3) bO aD;have eY:∃kI,V (V aI t (.dD [.int ((3:Nat):Int),.int (aH.value:Int)])) l (.ak [.ref t]) l=some (.ak [.ref kI])/\V (V aI t (.dD [.int ((3:Nat):Int),.int (aH.value:Int)])) l (.ak [.ref t]) kI=some (.dD [.int 3,.int (aH.value:Int)]):=
    ⟨t,aP,by rw[aK (bC (e8 aD).1),aP];rfl⟩
   obtain⟨kI,Qu,Ym⟩:=eY;have bB:V (V aI t (.dD [.int 3,.int (aH.value:Int)])) l (.ak [.ref t])=V (V aI t (.dD [.int ((3:Nat):Int),.int (aH.value:Int)])) l (.ak [.ref t]):=rfl;have akn:V (V aI t (.dD [.int 3,.int (aH.value:Int)])) l (.ak [.ref t]) l=some (.ak [.ref t]):=aP;refine⟨D,l,_,_,z,z,bD _ _ JB,akn,(by rw[cA,akX];show _+1<=_;rw[cA];omega),fun q a9=>?_⟩;have LW:H q=none:=aU.free (bD.free a9);refine k _ q (cj (aU.trans bD) LW) LW ⟨jv++[t],by rw[aP,gB];rfl,?_⟩;unfold Z.vH;rw[bz o5,bT Pc];have iD:be (V (V aI t (.dD [.int ((3:Nat):Int),.int (aH.value:Int)])) l (.ak [.ref t])) (V (V (V aI t (.dD [.int ((3:Nat):Int),.int (aH.value:Int)])) l (.ak [.ref t])) q (.ak (jv.map aa.ref++[.ref t]))):=cj (be.refl _) a9;refine rV ((wF.same bD).same iD) (iD _ _ ?_);rw[aK (bC (e8 aD).1),aP]
  have Rw:aH.kind≠11:=fun I=>ai (by rw[I];rfl);refine⟨_,z,x,_,dx,_,_,z,Y,T.gI,T.qK,q5,a.rU,_,.inl (aH.kind:Int),z,T.DI,z,_,z,?_⟩;by_cases aB:4<=aH.kind/\aH.kind<=9
  .rw[E0 aB];refine lY ⟨jV _,fun q a9=>k _ q (cj (be.refl _) a9) a9 ⟨[],aP,?_⟩⟩;have e:Z.vH tk aH=[]:=by
    unfold Z.vH;rw[bz o5,bz Rw,bT aB]
   rw[e];exact .nil
  .rw[TR aB];refine nt ⟨_,z,x,_,dx,_,_,z,Y,T.gI,T.qK,q5,_,z,x,_,dx,_,_,z,Y,T.gI,T.uP,u9,_,z,_,z,x,dx,_,_,_,_,aH.kind,aH.value,aH.eZ,aH.bJ,tk,z,Y,bq.anx o5 Rw aB,(by show 2<=sizeLine;omega),fun t bO=>⟨(by show 1<=sizeLine;omega),fun q a9=>?_⟩⟩;obtain⟨aU,bD,b4⟩:=EC (k:=1) bO a9;refine k _ q aU bD ?_;unfold Z.vH;rw[bz o5,bz Rw,bz aB];exact b4
end
theorem ao9{tk:Nat}{x:Z.jl}(h:x.kind=11->x.names.length<=64):(Z.vH tk x).length<=65:=by
 unfold Z.vH;split
 .show 1<=65;decide
 .split
  .rename_i e;have:=h e;rw[g8,cA];show _+1<=65;omega
  .split
   .exact jV _
   .show 1<=65;decide
structure Uc(n:Nat)(x:Z.jl):Prop where
 rE:x.bJ<n
 fin:Ud x
 OW:x.kind=8->x.jj=3
 zw:0<x.jj->4<=x.kind/\x.kind<=9
theorem agY{c:Cz.Code}(F:Z.zN c):∀x∈Z.fg c.main 0 0++Z.ly c.procs 1,Uc (c.procs.length+1) x:=by
 have my:∀(p:Nat)(q:Cz.Proc),c.procs[p]?=some q->q.takes<=64:=fun p q e=>(F.Sv p q e).1;intro x Y;rcases fN.mp Y with Y|Y
 .obtain⟨ai,⟨aj,bN⟩,ez,i7⟩:=Z.sI c.procs my false 0 c.main 0 0 F.Zc F.Zd x Y;exact⟨by omega,⟨aj,bN⟩,ez,i7⟩
 .refine Z.aaY c F (fun x=>Uc (c.procs.length+1) x) c.procs 1 (fun q a9=>vZ a9) (fun q j e ai aj y bu=>?_) x Y;obtain⟨p,e⟩:=e;obtain⟨f1,f2,jG,_⟩:=F.Sv p q e;obtain⟨g1,⟨g2,g3⟩,hU,lg⟩:=Z.sI c.procs my true q.takes q.body 0 j f2 jG y bu;exact⟨by omega,⟨g2,g3⟩,hU,lg⟩
theorem tF.same{a:bU}{H H':aA}{x:Addr}{aH:Z.jl}(h:tF a [] H x aH)(k:be H H'):tF a [] H' x aH:=by
 obtain⟨dx,nm,e,q⟩:=h;refine⟨dx,nm,k _ _ e,fun aJ=>?_⟩;obtain⟨l,b8,ay,aq,bB,dQ⟩:=q aJ;exact⟨l,b8,ay,aq,k _ _ bB,dQ.same k⟩
section
variable{P:Program}{w:World}{K:Frag}{az:Str->Option Value}{base:Heap}{a:bU}
def art(a:bU):dj:=fun vs H Q _=>∃(dm aQ bw:Addr)(c:Cz.Code)(cR:List Addr),vs=[.ref dm]/\Od a H dm c aQ bw cR/\∀H' q bx,be H H'->Ua a H H' q bx->q4 a H' q bx (Z.uB c)->Q (.ref q) H'
theorem CT:dP ["code","own_steps","rows","node","row","count"] ["code"] (cT Ny):=by trivial
theorem aom(T:Txt K az a):cZ P w K az base (cW P w) 5 a.IF a.GO ["code"] (art a):=by
 refine T.WB.dZ CT (fun vs H Q E h=>?_) (fun cJ A outer s H vs Q E aO h=>?_)
 .obtain⟨dm,aQ,bw,c,cR,rfl,_⟩:=h;rfl
 .obtain⟨dm,aQ,bw,c,cR,rfl,ek,k⟩:=h;have l7:sizeLine=16777216:=gU;obtain⟨eE,aT⟩:=ek.obj;obtain⟨aR,akY⟩:=ek.YA;have F:=Z.VN akY;have sO:=agY F;have Ce:=ek.cF;have my:=F.len;have gv:cR.length=(Z.fg c.main 0 0++Z.ly c.procs 1).length:=kX ek.ef;generalize h7:Z.fg c.main 0 0++Z.ly c.procs 1=N at sO gv;have ef:=ek.ef;rw[h7]at ef;have MB:(c8 (0::c.procs.map (·.takes))).length=c.procs.length+1:=by rw[jT,c9,cA]
  have UX:∀i,i<c.procs.length+1->(c8 (0::c.procs.map (·.takes)))[i]?=some (aa.int (Z.mG c i:Nat)):=fun i aF=>by
   unfold c8 Z.mG;rw[h8,mZ];have:i<(0::c.procs.map (·.takes)).length:=by rw[c9,cA];exact aF
   rw[gA this];rfl
  refine⟨_,bh (KJ (i:=1) (own:=[("node",3)]) z CT.aH z z (K0 z z z z) (wI (bG (af 0) z)) (by exact yy (N:=["code","own_steps","rows","node","row","count"]) (sc:=cT Ny) (by decide+kernel))
   (fun s H C cl cM=>mF (i:=3) CT.aH z (Or.inl z)) (fun s H C cl cM=>zx) (fun s H C cl cM=>fU (aoX T) aO.dw z T.amZ T.WQ.cN T.afX .nil (KE (Fp:=())) (aE (af 3) (aE (apc (K:=K) z (M8 (K:=K) z (af 0) z) (M8 (K:=K) z (af 3) z) (fun _ _=>rfl)) aY))))
   (bh (dU (i:=2) CT.aH z (Or.inl z) (fU (aag T) aO z T.Zo T.PD.cN T.Vf .nil bZ (aE (bG (af 0) z) (aE (af 1) (aE (j3 mu (by rfl) T.mC m3 (aE (bG (af 0) z) aY)) aY)))))
   (bl (di (M9 (own:=[("row",4),("count",5)]) z CT.aH (Nd (by rfl) T.MW (aE (af 2) (aE (bG (af 0) z) aY))) (by exact yy (N:=["code","own_steps","rows","node","row","count"]) (sc:=cT Ny) (by decide+kernel))
    (fun s H C cl cM=>aaO (K:=K) (n:=2) z z (AY (mF (i:=4) CT.aH z (Or.inl z)) (AY (mF (i:=5) CT.aH z (Or.inl z)) Nb))) (fun s H C cl cM=>zx)
    (fun s H C cl cM=>mE T.Zw (Z9 T) aO.dw z T.Ze T.U0 .nil (KE (Fp:=())) (aE (af 4) (aE (cH T.Xo) (aE (f9 kH dc (af 5)) aY)))))))),?_⟩
  refine⟨_,z,dm,_,eE,_,_,z,aT,T.xf,T.RA,Uk,aQ,z,⟨_,bj.bM ek.oi⟩,fun D lH=>?_⟩;refine Ka (K:=K) (a:=aQ) (xs:=cR.map aa.ref) (fun j H'=>be H H'/\∃os:List Addr,os.length=j/\H' D=some (.ak (os.map aa.ref))/\D∉os/\Paired (fun o(u:Z.rm)=>pF H' o u.own) os ((N.take j).map (Z.C0 (Z.mG c)))) ?_ (fun j H' _ q=>bj.bM (q.1 _ _ ek.oi)) ?_ ?_
  .exact⟨cj (be.refl H) lH,[],z,aP,by simp,.nil⟩
  .rintro j y H' bQ ⟨g1,os,g2,g3,lg,hU⟩;rw[h8]at bQ;cases e:cR[j]? with
   |none=>rw[e]at bQ;cases bQ
   |some x=>
    rw[e]at bQ;cases bQ;obtain⟨aH,aq,yX⟩:=wH ef e;have lJ:j<N.length:=(gn.mp aq).1;have BW:=sO aH (jc aq);have X0:=yX.same g1;obtain⟨dx,nm,Y,_⟩:=id X0;refine⟨z,zB ⟨_,z,_,z,dm,_,eE,_,_,z,g1 _ _ aT,T.xf,T.Ct,Dk,_,z,x,_,dx,_,_,z,Y,T.gI,T.AK,Bs,bw,_,_,_,z,z,bj.bM (g1 _ _ ek.qX),lD (UX aH.bJ BW.rE),x,aH,Z.mG c aH.bJ,z,X0,BW.fin,fun a7 q bD a9 iR=>⟨os.map aa.ref,bD _ _ g3,by rw[cA,g2];omega,cj (g1.trans bD) lH,os++[q],by simp[g2],by rw[aP,gB];rfl,?_,?_⟩⟩⟩
    .intro I;rcases fN.mp I with I|I
     .exact lg I
     .simp at I;rw[<-I,g3]at a9;cases a9
    .rw[xY aq,gB];have J6:aV [D] a7 (V a7 D (.ak (os.map aa.ref++[.ref q]))):=aV.refl.V (.inl (by simp));have wl:=bD _ _ g3;have Kx:∀b∈[D],∀xs,a7 b≠some (.dD xs):=fun b ae xs e=>by simp at ae;subst ae;rw[wl]at e;cases e
     have RV:q≠D:=fun I=>by rw[I,g3]at a9;cases a9
     refine rV (xS hU fun o tW u ck=>(ck.same bD).keep J6 ?_ Kx) (iR.keep J6 (by simpa using RV) Kx);simp;exact fun I=>lg (by rw[<-I];exact tW)
  rintro aI ⟨aU,os,akN,JB,_,xT⟩;rw[cA,gv,Bm]at xT;have qh:=aU _ _ ek.qX;have JR:=aU _ _ aT;refine⟨_,z,dm,_,eE,_,_,z,JR,T.xf,T.RA,Uk,_,z,_,z,dm,_,eE,_,_,z,JR,T.xf,T.Ct,Dk,bw,_,z,.inl (bj.bM qh),aQ,D,cR,os,N.map (Z.C0 (Z.mG c)),_,z,aU _ _ ek.oi,?_,JB,xT,?_,?_,?_,fun a7 ff cV bD Jr iI qg R=>?_⟩
  .refine Sk (Z.C0 (Z.mG c)) (bF.Paired.nI (fun x aH Y=>?_) ef);obtain⟨dx,nm,e,_⟩:=Y.same aU;exact⟨dx,_,_,nm,e⟩
  .intro u ck;obtain⟨x,Y,rfl⟩:=vY.mp ck;have BW:=sO x Y;refine⟨by rw[MB];exact BW.rE,ao9 (fun e=>(BW.fin.Y3 e).1),BW.OW,fun aN=>?_⟩;have:=BW.zw aN;show(Z.vH (Z.mG c x.bJ) x).length<=1;unfold Z.vH;rw[bz (by omega),bz (by omega),bT this];exact jV _
  .rw[cA];omega
  .rw[MB];omega
  rw[<-h7,Z.apZ]at R;have R:yv a7 ff cV (Z.zz c):=R;rw[MB]at qg;have pS:=aU.trans bD;have QF:=pS _ _ aT;have Yj:=pS _ _ ek.qX;refine⟨_,z,_,z,dm,_,eE,_,_,z,QF,T.xf,T.Ct,Dk,ff,bw,_,_,z,bj.bM R.ak,bj.bM Yj,fun v5 wl=>?_⟩;have Pw:H v5=none:=pS.free wl;refine YR (K:=K) (a:=ff) (b:=bw) (xs:=cV.map aa.ref) (ys:=c8 (0::c.procs.map (·.takes))) (by rw[cA,qg,MB]) (fun j H'=>be a7 H'/\∃bx:List Addr,bx.length=j/\H' v5=some (.ak (bx.map aa.ref))/\(∀b∈bx,H b=none/\b≠v5)/\
   ∀(i:Nat)(bV:Addr),bx[i]?=some bV->∃(dK r:Addr),cV[i]?=some r/\H' bV=some (.au a.p9 dK (pA (.ref r) (.int ((2:Nat):Int)) (.int ((1+Z.mG c i:Nat):Int))))) ?_ (fun j H' _ q=>⟨bj.bM (q.1 _ _ R.ak),bj.bM (q.1 _ _ Yj)⟩) ?_ ?_
  .exact⟨cj (be.refl _) wl,[],z,aP,fun b h=>(by cases h),fun i bV e=>(by simp at e)⟩
  .rintro j TZ T3 H' jK Y bu ⟨g1,bx,g2,g3,hU,lg⟩ vA;rw[h8]at Y;cases e:cV[j]? with
   |none=>rw[e]at Y;cases Y
   |some r=>
    rw[e]at Y;cases Y;have bQ:j<c.procs.length+1:=by rw[<-qg];exact(gn.mp e).1
    rw[UX j bQ]at bu;cases bu;have pT:be H' (V H' jK (.dD [.ref r,aa.int (Z.mG c j:Nat)])):=cj (be.refl _) vA;have Ba:V H' jK (.dD [.ref r,aa.int (Z.mG c j:Nat)]) jK=some (.dD [.ref r,aa.int (Z.mG c j:Nat)]):=aP;generalize V H' jK (.dD [.ref r,aa.int (Z.mG c j:Nat)])=bI at pT Ba⊢;refine⟨jK,_,z,je.bM Ba,z,_,_,z,_,_,z,z,z,zB ?_⟩;refine⟨_,z,_,z,_,_,z,z,?_⟩;intro bV dK aq ay bB;have Px:H bV=none:=pS.free (g1.free (pT.free aq));refine⟨bV,dK,_,_,_,z,aP,z,bx.map aa.ref,?_,?_,?_⟩
    rotate_left
    .rw[cA,g2];omega
    .have KU:∀gE nN t9,be bI (V (V (V bI dK gE) bV nN) bV t9):=fun gE nN t9=>cj (cj (cj (be.refl _) ay) aq) aq;have Kr:bV≠v5:=fun I=>by
      have:=pT _ _ g3;rw[<-I,aq]at this;cases this
     refine⟨cj ((g1.trans pT).trans (KU _ _ _)) wl,bx++[bV],by simp[g2],by rw[aP,gB];rfl,fun b ae=>?_,fun i Dv iB=>?_⟩
     .rcases fN.mp ae with ae|ae
      .exact hU b ae
      .simp at ae;rw[ae];exact⟨Px,Kr⟩
     .by_cases aF:i<bx.length
      .rw[sd aF]at iB;obtain⟨HB,g7,aW,bf⟩:=lg i Dv iB;refine⟨HB,g7,aW,?_⟩;rw[aK (hU Dv (jc iB)).2];exact KU _ _ _ _ _ (pT _ _ bf)
      .rw[q3 (by omega)]at iB;have Qo:i -bx.length=0:=by
        rcases Nat.eq_zero_or_pos (i -bx.length)with q|q
        .exact q
        .rw[Fd (by simp;omega)]at iB;cases iB
       rw[Qo]at iB;simp at iB;subst iB;have JL:i=j:=by omega
       subst JL;refine⟨dK,r,e,?_⟩;rw[aK Kr,aP];show some (cI.au a.p9 dK (pA (aa.ref r) (aa.int 2) (aa.int ((1:Int)+(Z.mG c i:Nat)))))=_;rw[Fi];rfl
    .have:∀gE nN t9,be bI (V (V (V bI dK gE) bV nN) bV t9):=fun gE nN t9=>cj (cj (cj (be.refl _) ay) aq) aq;exact this _ _ _ _ _ (pT _ _ g3)
  .rintro bI ⟨b4,bx,mP,P6,RH,JH⟩;rw[cA,qg]at mP;refine k bI v5 bx (pS.trans b4) ⟨Pw,fun b ae=>(RH b ae).1,fun bV tV dK b7 b5 bL e=>?_⟩ ⟨P6,by rw[mP];unfold Z.uB;rw[cA,List.length_range],fun i bV b ay aq=>?_⟩
   .obtain⟨i,aF⟩:=vZ tV;obtain⟨HB,r,aW,bf⟩:=JH i bV aF;rw[e]at bf;have:=j7 bf;injection this with _ _ df
    unfold pA at df;injection df with e7 _
    have k6:=oA Prod.snd e7;injection k6 with oj
    rw[oj];exact aU.free (iI r (jc aW))
   .have aF:i<c.procs.length+1:=by rw[<-mP];exact(gn.mp ay).1
    rw[Z.OO aF]at aq;cases aq;obtain⟨dK,r,aW,bf⟩:=JH i bV ay;obtain⟨b8,fE,gQ⟩:=(R.at_ i r aW).same b4;exact⟨dK,r,b8,bf,fE,gQ⟩
end
end Cl
namespace Z
theorem nV.jn{aS:List gC}{s:eO}{L:m4}{e:Nat}(h:nV aS s L (.kP e)):2<=e:=by
 cases h<;>decide
theorem iF.LU{aS:List gC}{al:Nat}:∀{n:Nat}{code:List eO}{L:m4}{cs:List Fr}{k:Nat}{o:p6},iF aS al n code L cs k o->∀e,o=.kP e->2<=e
 |_,_,_,_,_,_,.lX _ _ _ h,e,I=>iF.LU h e I
 |_,_,_,_,_,_,.jn _ _ h,e,I=>by cases I;exact h.jn
 |_,_,_,_,_,_,.call _ _ _ _ _ h,e,I=>iF.LU h e I
 |_,_,_,_,_,_,.DE _,e,I=>by cases I;decide
 |_,_,_,_,_,_,.Al _,e,I=>by cases I;decide
 |_,_,_,_,_,_,.DC _ _ _,e,I=>by cases I;decide
 |_,_,_,_,_,_,.ret _ h,e,I=>iF.LU h e I
 |_,_,_,_,_,_,.done _,e,I=>by cases I
end Z
namespace Cl
open PySem PySem.Spec PyProof.Rows bF
section
variable{P:Program}{w:World}{K:Frag}{az:Str->Option Value}{base:Heap}{a:bU}
def wN(gq k c:Nat)(o:aa):List aa:=if gq=0 then[.int 0,o,.int (k:Int),.int (c:Int)]else if gq=1 then[.int 1,.int 0,.int (k:Int),.int (c:Int)]else[.int (gq:Int),.int 0,.int 0,.int 0]
def asi(a:bU):dj:=fun vs H Q _=>∃(ah a8 av:Addr)(al k c gq:Nat)(o:aa),vs=[.ref ah,.int (gq:Int)]/\H ah=some (j5 a a8 av al k c o)/\∀q,H q=none->Q (.ref q) (V H q (.ak (wN gq k c o)))
theorem aqV:dP ["worker","outcome"] ["worker","outcome"] (cT ab9):=by trivial
theorem aaq(T:Txt K az a):cZ P w K az base (cW P w) 1 a.IJ a.GR ["worker","outcome"] (asi a):=by
 refine T.PC.dZ aqV (fun vs H Q E h=>?_) (fun cJ A outer s H vs Q E aO h=>?_)
 .obtain⟨ah,a8,av,al,k,c,gq,o,rfl,_⟩:=h;rfl
 .obtain⟨ah,a8,av,al,k,c,gq,o,rfl,hw,jr⟩:=h;have l7:sizeLine=16777216:=gU;refine⟨_,bh (d7 (dN e9 (af 1) (cH T.L1) (dH _)) (bl (di (gx (aE (cH T.L1) (aE (bG (af 0) z) (aE (bG (af 0) z) (aE (bG (af 0) z) aY))))))) fH)
   (bh (d7 (dN e9 (af 1) (cH T.Jy) (dH _)) (bl (di (gx (aE (cH T.Jy) (aE dc (aE (bG (af 0) z) (aE (bG (af 0) z) aY))))))) fH)
   (bl (di (gx (aE (af 1) (aE dc (aE dc (aE dc aY)))))))),?_⟩
  refine⟨_,z,z,_,z,fi (fun cP=>?_) (fun cP=>?_)⟩
  .have e:gq=0:=by have:=gK cP;omega
   unfold wN at jr;rw[bT e]at jr;exact⟨_,z,ah,_,a8,_,_,z,hw,T.gX,T.wA,zU,_,z,ah,_,a8,_,_,z,hw,T.gX,T.AN,Fx,_,z,ah,_,a8,_,_,z,hw,T.gX,T.AO,Fy,(by show 4<=sizeLine;omega),jr⟩
  have o5:gq≠0:=fun I=>cP (by rw[I];rfl);refine⟨_,z,z,_,z,fi (fun ai=>?_) (fun ai=>?_)⟩
  .have e:gq=1:=by have:=gK ai;omega
   unfold wN at jr;rw[bz o5,bT e]at jr;exact⟨_,z,ah,_,a8,_,_,z,hw,T.gX,T.AN,Fx,_,z,ah,_,a8,_,_,z,hw,T.gX,T.AO,Fy,(by show 4<=sizeLine;omega),jr⟩
  have ed:gq≠1:=fun I=>ai (by rw[I];rfl);unfold wN at jr;rw[bz o5,bz ed]at jr;exact⟨_,z,(by show 4<=sizeLine;omega),jr⟩
def yn(a:bU)(aS:List Z.gC)(G H:aA)(ah a8 av:Addr)(bx:List Addr)(al gq:Nat):Cz.End->Prop
 |.ok x=>∃(bS:Z.eH)(k:Nat)(o:aa),H ah=some (j5 a a8 av al k x.2.cells o)/\k=al -x.2.calls/\pG a bx G o bS/\Z.pH aS x.1 bS/\gq=if bS.isFn=true then 1 else 0
 |.error c=>∃(k c':Nat),H ah=some (j5 a a8 av al k c' .b9)/\gq=c/\2<=c
theorem yn.adR{aS:List Z.gC}{G H:aA}{ah a8 av:Addr}{bx:List Addr}{al gq:Nat}{r:Cz.End}(h:yn a aS G H ah a8 av bx al gq r):∃(k c:Nat)(o:aa),H ah=some (j5 a a8 av al k c o)/\wN gq k c o=c8 (Cz.seenT al r):=by
 rcases r with c|⟨v,m⟩
 .obtain⟨k,c',ai,rfl,aj⟩:=h;refine⟨k,c',_,ai,?_⟩;unfold wN;rw[bz (by omega),bz (by omega)];rfl
 .obtain⟨bS,k,o,ai,rfl,aj,bN,rfl⟩:=h;refine⟨_,_,o,ai,?_⟩;cases bN with
  |num Y=>
   cases aj;rfl
  |fn=>rfl
theorem yn.same{aS:List Z.gC}{G H H':aA}{ah a8 av:Addr}{bx:List Addr}{al gq:Nat}{r:Cz.End}(h:yn a aS G H ah a8 av bx al gq r)(k:be H H'):yn a aS G H' ah a8 av bx al gq r:=by
 rcases r with c|⟨v,m⟩
 .obtain⟨fj,c',ai,aj⟩:=h;exact⟨fj,c',k _ _ ai,aj⟩
 .obtain⟨bS,fj,o,ai,aj⟩:=h;exact⟨bS,fj,o,k _ _ ai,aj⟩
theorem X8{aS:List Z.gC}{G H:aA}{ah a8 av:Addr}{bx:List Addr}{al:Nat}{code:List Z.eO}{st:List Z.eH}{c:Nat}{r:Cz.End}{Q:gc}(g:Z.zX (Z.pH aS) aS al code st c r)
  (k:∀(H' eg:aA)(gq:Nat),aV [ah] H H'->be G eg->rf H G eg->be eg H'->yn a aS eg H' ah a8 av bx al gq r->Q (.int (gq:Int)) H'):∃(n:Nat)(out:Z.p6),Z.iF aS al n code ⟨0,[],st,c⟩ [] 0 out/\Af a [ah] H G ah a8 av bx al out Q:=by
 rcases r with e|⟨v,m⟩
 .obtain⟨n,h⟩:=g;refine⟨n,_,h,fun H' eg x v fj c' aW bf df e7 k6 oj mW=>(by cases mW),fun H' c5 fj c' aW bf df e7=>?_⟩;have aj:=h.LU e z;cases e7;exact k H' G e aW (be.refl _) (fun b _ h=>h) bf ⟨fj,c',df,z,aj⟩
 .obtain⟨bS,n,ai,aj,bN⟩:=g;refine⟨n,_,bN,fun H' eg x EV fj c' aW bf df e7 k6 oj mW=>?_,fun H' c5 fj c' aW bf df e7=>(by cases e7)⟩;cases mW;have:=k H' eg (if bS.isFn=true then 1 else 0) aW bf df e7 ⟨bS,_,x,k6,z,oj,ai,z⟩;cases bq:bS.isFn with
  |true=>rw[bq]at this;exact this
  |false=>rw[bq]at this;exact this
theorem ap9{aS:List Z.gC}{G H:aA}{ah a8 av:Addr}{bx:List Addr}{al:Nat}{b0:Z.gC}{gr iu r6 ku:aa}{r:Cz.End}{Q:gc}{E:jQ}(g:Z.zX (Z.pH aS) aS al b0.cE [] 0 r)(s:be G H)(eF:q4 a G av bx aS)(lG:G ah=none)(hw:H ah=some (.au a.fK a8 (fX (.ref av) gr iu r6 ku)))(cP:aS[0]?=some b0)
  (k:∀(H' eg:aA)(gq:Nat),aV [ah] H H'->be G eg->rf H G eg->be eg H'->yn a aS eg H' ah a8 av bx al gq r->Q (.int (gq:Int)) H'):ade a [.ref ah,.int (al:Int)] H Q E:=by
 obtain⟨n,out,gY,CP⟩:=X8 g k;exact⟨G,ah,a8,av,bx,aS,b0,al,n,gr,iu,r6,ku,out,z,s,eF,lG,hw,cP,gY,CP⟩
theorem ags{aS:List Z.gC}{G H:aA}{ah a8 av:Addr}{bx:List Addr}{al c x:Nat}{gr iu ku:aa}{bS:Z.eH}{r:Cz.End}{Q:gc}{E:jQ}(g:Z.zX (Z.pH aS) aS al [(4,0)] [.num x,bS] c r)(s:be G H)(eF:q4 a G av bx aS)(lG:G ah=none)(hw:H ah=some (.au a.fK a8 (fX (.ref av) gr iu (.int (c:Int)) ku)))(a6:pG a bx G ku bS)
  (k:∀(H' eg:aA)(gq:Nat),aV [ah] H H'->be G eg->rf H G eg->be eg H'->yn a aS eg H' ah a8 av bx al gq r->Q (.int (gq:Int)) H'):ac9 a [.ref ah,.int (x:Int),.int (al:Int)] H Q E:=by
 obtain⟨n,out,gY,CP⟩:=X8 g k;exact⟨G,ah,a8,av,bx,aS,al,c,n,x,gr,iu,ku,bS,out,z,s,eF,lG,hw,a6,gY,CP⟩
theorem agg{t:Cz.Term}(w:Z.iw t 0):Z.nW (Z.Ai t) t 0 1:=by
 refine Z.rJ (ar:=Z.arB (Z.ic t)) (own:=Z.ownB (Z.ic t)) (T:=Z.oN t) (R:=Z.xU t) (L:=(Z.ic t).length) (fun i aF=>Z.OP aF) t 0 1 (Z.qo t 0 0 1 (Z.Lu t) (Z.OH t)) (Z.ap3 t) ?_;rw[FQ];omega
def Rm(H:aA)(jv:List Addr)(l:List (List Nat)):Prop:=Paired (fun q(x:List Nat)=>H q=some (.ak (c8 x))) jv l
def EJ(r:Cz.End)(ps:List (Nat×Nat)):List (List Nat):=match ps with
 |[]=>[]
 |(x,n)::l=>match r with
  |.ok (.fn self b e,m)=>Cz.playT n (Cz.applyT (.fn self b e) x ⟨n,m.cells⟩) l
  |_=>[]
theorem KH(al:Nat)(r:Cz.End)(ps:List (Nat×Nat)):Cz.playT al r ps=Cz.seenT al r::EJ r ps:=by
 cases ps with
 |nil=>rfl
 |cons p l=>
  obtain⟨x,n⟩:=p;rcases r with c|⟨v,m⟩
  .rfl
  .cases v<;>rfl
theorem aaG{x n:Nat}{l:List Nat}:Closurize.pairs (x::n::l)=(x,n)::Closurize.pairs l:=rfl
def arC(a:bU):dj:=fun vs H Q _=>∃(fR aQ av ns:Addr)(t:Cz.Term)(cR xs cg:List Addr)(al:Nat)(l:List Nat),vs=[.ref fR,.int (al:Int),.ref ns]/\Ad a H fR t aQ av cR xs cg/\Z.mU t/\H ns=some (.ak (c8 l))/\l.length<=100000/\(∀i x,l[2*i]?=some x->x<Cz.WORD)/\
 ∀H' q jv,be H H'->H q=none->H' q=some (.ak (jv.map aa.ref))->Rm H' jv (Cz.seenOf t al (Closurize.pairs l))->jv.length<=100000->Q (.ref q) H'
theorem CV:dP ["program","allowed","numbers","worker","outcome","ends","place"] ["program","allowed","numbers"] (cT acd):=by trivial
theorem aou(T:Txt K az a):cZ P w K az base (cW P w) 8 a.IK a.GS ["program","allowed","numbers"] (arC a):=by
 refine T.WE.dZ CV (fun vs H Q E h=>?_) (fun cJ A outer s H vs Q E aO h=>?_)
 .obtain⟨fR,aQ,av,ns,t,cR,xs,cg,al,l,rfl,_⟩:=h;rfl
 .obtain⟨fR,aQ,agf,ns,t,cR,xs,cg,al,l,rfl,ek,QE,D3,aD,QW,k⟩:=h;have l7:sizeLine=16777216:=gU;refine⟨_,bh (dU (i:=3) CV.aH z (Or.inl z) (mE T.ZA (aad T) aO.dw z T.Zm T.Va .nil bZ (aE (fU (aon T) aO.dw z T.am6 T.WX.cN T.af4 .nil bZ (aE (af 0) aY)) aY)))
   (bh (dU (i:=4) CV.aH z (Or.inl z) (qN (af 3) T.gX T.Za (aao T) aO T.Vc .nil bZ (aE (af 1) aY)))
   (bh (dU (i:=5) CV.aH z (Or.inl z) (gx (aE (fU (aaq T) aO.dw z T.Zn T.PC.cN T.Ve .nil bZ (aE (af 3) (aE (af 4) aY))) aY)))
   (bh (dU (i:=6) CV.aH z (Or.inl z) dc)
   (bh (A0 gT.own (Sz (dN e9 (af 4) (cH T.Jy) (dH _)) (SA (dN KD (f9 kH (af 6) dc) (j3 mu (by rfl) T.mC m3 (aE (af 2) aY)) (dH _)))).s9
    (bh (dU (i:=4) CV.aH z (Or.inl z) (qN (af 3) T.gX T.Y8 (aaf T) aO T.U9 .nil bZ (aE (mD nJ (af 2) (af 6) (fun _ _=>rfl)) (aE (mD nJ (af 2) (f9 kH (af 6) dc) (fun _ _=>rfl)) aY))))
    (bh (fD (jk gZ k7 lA kU (af 5) (aE (fU (aaq T) aO.dw z T.Zn T.PC.cN T.Ve .nil bZ (aE (af 3) (aE (af 4) aY))) aY)))
    (bl (dU (i:=6) CV.aH z (Or.inl z) (f9 kH (af 6) dc))))))
   (bl (di (af 5))))))),?_⟩
  refine⟨_,z,fR,aQ,agf,t,cR,xs,cg,z,ek,fun G av bx aU LC eF=>?_⟩;intro ah a8 aq ay bB;refine⟨ah,a8,_,z,aP,z,?_⟩;have bD:be G (V (V (V G a8 (.own ah)) ah (.au a.fK a8 [])) ah (.au a.fK a8 (fX (.ref av) (.int 0) (.int 0) (.int 0) .b9))):=cj (cj (cj (be.refl _) ay) aq) aq;have r7:(V (V (V G a8 (.own ah)) ah (.au a.fK a8 [])) ah (.au a.fK a8 (fX (.ref av) (.int 0) (.int 0) (.int 0) .b9))) ah=some (.au a.fK a8 (fX (.ref av) (.int 0) (.int 0) (.int 0) .b9)):=aP;generalize (V (V (V G a8 (.own ah)) ah (.au a.fK a8 [])) ah (.au a.fK a8 (fX (.ref av) (.int 0) (.int 0) (.int 0) .b9)))=a7 at bD r7⊢;have cP:(Z.Ai t)[0]?=some ⟨Z.xU t 0,Z.ownB (Z.ic t) 0,1+(Z.oN t 0).length⟩:=Z.OP (by rw[FQ];omega);have PP:=Z.ap8 (al:=al) ek.ah QE ek.eE (agg ek.ah);rw[<-Z.ap4]at PP;have Xc:H ah=none:=aU.free aq;refine⟨_,z,ah,a8,_,z,r7,Uz,_,z,ap9 (E:=E) (b0:=⟨Z.xU t 0,_,_⟩) PP bD eF aq r7 cP fun bI FA gq k3 j4 qn b4 aT=>?_⟩;have SX:be H bI:=fun b o e=>k3 _ _ (bD _ _ (aU _ _ e)) (by simp;exact fun I=>(by rw[I,Xc]at e;cases e));obtain⟨J7,rz,vG,nH,Yh⟩:=aT.adR;refine⟨_,z,_,z,ah,a8,av,al,J7,rz,gq,vG,z,nH,fun iL D6=>⟨(by show 1<=sizeLine;omega),fun gY qG=>?_⟩⟩;obtain⟨wF,Mc⟩:=e8 qG;have ajC:FA ah=none:=qn ah (by rw[r7];exact fun I=>(by cases I)) aq;have Wi:H gY=none:=SX.free Mc;have eo:be bI (V (V bI iL (.ak (wN gq J7 rz vG))) gY (.ak [.ref iL])):=cj (cj (be.refl _) D6) Mc;have BO:V (V bI iL (.ak (wN gq J7 rz vG))) gY (.ak [.ref iL]) gY=some (.ak ([iL].map aa.ref)):=aP;have e7:V (V bI iL (.ak (wN gq J7 rz vG))) gY (.ak [.ref iL]) iL=some (.ak (c8 (Cz.seenT al (Cz.evalT Cz.GAS 0 [] t ⟨al,0⟩)))):=by rw[aK (bC wF),aP,Yh]
  generalize V (V bI iL (.ak (wN gq J7 rz vG))) gY (.ak [.ref iL])=b6 at eo BO e7⊢;refine⟨fun m O H'=>∃(eg:aA)(ae6 gq i:Nat)(r:Cz.End)(jv:List Addr)(done:List (List Nat)),O=[some (.ref fR),some (.int (al:Int)),some (.ref ns),some (.ref ah),some (.int (gq:Int)),some (.ref gY),some (.int ((2*i:Nat):Int))]/\be H H'/\be eg H'/\q4 a eg av bx (Z.Ai t)/\eg ah=none/\eg gY=none/\
   yn a (Z.Ai t) eg H' ah a8 av bx ae6 gq r/\H' gY=some (.ak (jv.map aa.ref))/\gY∉jv/\Rm H' jv done/\Cz.seenOf t al (Closurize.pairs l)=done++EJ r (Closurize.pairs (l.drop (2*i)))/\jv.length=i+1/\2*i<=l.length/\m=l.length -2*i,
   ⟨_,FA,al,gq,0,_,[iL],[_],z,SX.trans eo,b4.trans eo,eF.same j4,ajC,b4.free Mc,aT.same eo,BO,by simpa using wF,.cons e7 .nil,?_,z,jV _,z⟩,?_⟩
  .unfold Cz.seenOf;rw[KH];rfl
  clear e7 BO eo Yh nH aT b4 qn j4 k3 PP r7 bD SX qG Mc wF D6;rintro m O H5 ⟨at3,aus,Z8,i,r,jv,done,rfl,nv,rX,Xv,lG,PS,aT,qG,ZO,ak,HH,Rk,aF,aM⟩;have QD:=nv _ _ D3;have fin:EJ r (Closurize.pairs (l.drop (2*i)))=[]->Q (.ref gY) H5:=fun e=>by
   rw[e,zI]at HH;exact k H5 gY jv nv Wi qG (by rw[HH];exact ak) (by omega)
  refine⟨_,z,z,_,z,fi (fun ai=>?_) (fun ai=>nt ⟨_,z,fin ?_⟩)⟩
  rotate_left
  .have ed:Z8≠1:=fun I=>ai (by rw[I];rfl);cases e:Closurize.pairs (l.drop (2*i))with
   |nil=>rfl
   |cons p ps=>
    obtain⟨x,n⟩:=p;rcases r with c|⟨v,m⟩
    .rfl
    .obtain⟨bS,_,_,_,_,_,a6,rfl⟩:=aT;cases a6 with
     |num=>rfl
     |fn=>exact absurd z ed
  have gE:Z8=1:=by have:=gK ai;omega
  subst gE;refine⟨_,z,_,_,z,z,_,z,ns,_,z,.inl (bj.bM QD),_,_,z,z,_,z,fi (fun aj=>?_) (fun aj=>⟨_,z,fin ?_⟩)⟩
  rotate_left
  .rw[jT]at aj;have aG:(l.drop (2*i)).length<=1:=by rw[oE];omega
   cases e:l.drop (2*i)with
   |nil=>cases r<;>rfl
   |cons x oh=>
    rw[e]at aG;have:oh=[]:=List.eq_nil_of_length_eq_zero (by rw[c9]at aG;omega);subst this;rfl
  rw[jT]at aj;have eY:2*i+1<l.length:=by omega
  have ex:l[2*i]?=some l[2*i]:=gA (by omega);have sJ:l[2*i+1]?=some l[2*i+1]:=gA eY;generalize xF:l[2*i]=x at ex;generalize akB:l[2*i+1]=n at sJ;have HF:l.drop (2*i)=x::n::l.drop (2*(i+1)):=by
   rw[List.drop_eq_getElem_cons (by omega),List.drop_eq_getElem_cons eY,xF,akB];rw[show 2*i+1+1=2*(i+1) by omega]
  have atI:=QW i x ex;rcases r with c|⟨v,uO⟩
  .obtain⟨_,_,_,I,aj⟩:=aT;omega
  obtain⟨bS,AF,vG,JZ,_,ak9,Yo,JS⟩:=aT;have qH:bS.isFn=true:=by
   cases h:bS.isFn with
   |true=>rfl
   |false=>rw[h]at JS;cases JS
  have Xe:=Z.afb (x:=x) (n:=n) (c:=uO.cells) Yo qH atI;have ahH:EJ (.ok (v,uO)) (Closurize.pairs (l.drop (2*i)))=Cz.playT n (Cz.applyT v x ⟨n,uO.cells⟩) (Closurize.pairs (l.drop (2*(i+1)))):=by
   rw[HF,aaG];cases Yo with
   |num=>cases qH
   |fn=>rfl
  rw[ahH,KH]at HH;generalize Cz.applyT v x ⟨n,uO.cells⟩=g7 at HH Xe;refine⟨_,fun _ _ h=>h,?_⟩;have JF:nE (c8 l) ((2*i:Nat):Int)=some (.int (x:Int)):=lD (by unfold c8;rw[h8,ex];rfl);have Qc:nE (c8 l) (((2*i:Nat):Int)+1)=some (.int (n:Int)):=by
   have:=lD (xs:=c8 l) (j:=2*i+1) (v:=.int (n:Int)) (by unfold c8;rw[h8,sJ];rfl);rw[Fi]at this;exact this
  refine⟨_,z,ah,a8,_,z,JZ,Uy,_,z,_,z,ns,_,_,_,z,z,bj.bM QD,JF,_,z,_,z,_,_,z,z,ns,_,_,_,z,z,bj.bM QD,Qc,ags (E:=E) Xe rX Xv lG JZ ak9 fun pZ On M2 Cn aq0 ZQ ol QG=>?_⟩;have abm:be H pZ:=fun b o e=>Cn _ _ (nv _ _ e) (by simp;exact fun I=>(by rw[I,Xc]at e;cases e));have TU:gY≠ah:=fQ qG JZ (by intro q;cases q);have Ql:=Cn _ _ qG (by simpa using TU);have ajB:On ah=none:=ZQ ah (by rw[JZ];exact fun I=>(by cases I)) lG;have Xh:On gY=none:=ZQ gY (by rw[qG];exact fun I=>(by cases I)) PS;have al9:Rm pZ jv done:=bF.Paired.nI (fun q y e=>Cn _ _ e (by simp;exact fQ e JZ (by intro q;cases q))) ak;obtain⟨YM,Vx,aaw,Yp,akZ⟩:=QG.adR;refine⟨_,z,.inl ⟨z,_,bj.bM Ql⟩,_,z,_,z,ah,a8,av,n,YM,Vx,M2,aaw,z,Yp,fun q a9=>?_⟩;have RW:gY≠q:=eI Ql a9;have au7:ah≠q:=eI Yp a9;refine⟨gY,_,_,z,z,(by rw[aK RW];exact Ql),(by rw[cA,Rk];omega),?_⟩;have LW:H q=none:=abm.free a9;refine⟨_,z,_,_,z,z,?_⟩;have Q9:∀b o,pZ b=some o->b≠gY->(V (V pZ q (.ak (wN M2 YM Vx aaw))) gY (.ak (jv.map aa.ref++[.ref q]))) b=some o:=fun b o e fB=>by
   rw[aK fB,aK (eI e a9)];exact e
  refine⟨l.length -2*(i+1),by omega,On,n,M2,i+1,g7,jv++[q],done++[Cz.seenT n g7],?_,cj (cj abm LW) Wi,qU (cj ol (ol.free a9)) Xh,Xv.same aq0,ajB,Xh,?_,by rw[aP,gB];rfl,?_,?_,?_,by simp[Rk],by omega,z⟩
  .show[some (aa.ref fR),some (aa.int (al:Int)),some (aa.ref ns),some (aa.ref ah),some (aa.int (M2:Int)),some (aa.ref gY),some (aa.int (((2*i:Nat):Int)+2))]=_;rw[show(((2*i:Nat):Int)+2)=((2*(i+1):Nat):Int) by omega]
  .rcases g7 with c|⟨EV,dB⟩
   .obtain⟨fj,c',ai,aj⟩:=QG;exact⟨fj,c',Q9 _ _ ai (bC TU),aj⟩
   .obtain⟨afm,fj,fm,ai,aj⟩:=QG;exact⟨afm,fj,fm,Q9 _ _ ai (bC TU),aj⟩
  .intro I;rcases fN.mp I with I|I
   .exact ZO I
   .simp at I;exact RW I
  .refine rV (xS al9 fun y bu I e=>Q9 _ _ e (fun q=>ZO (by rw[<-q];exact bu))) ?_;rw[aK (bC RW),aP,akZ]
  .rw[HH];simp
end
end Cl
namespace Z
theorem an3{aR:Cz.Bytes}{t:Cz.Term}(h:Cz.program aR=some t):mU t:=by
 unfold Cz.program at h;split at h
 .cases h
 .split at h
  .rename_i e;split at h
   .cases h;exact rT 32 0 aR _ _ e
   .cases h
  .cases h
end Z
namespace Cl
open PySem PySem.Spec PyProof.Rows bF
section
variable{P:Program}{w:World}{K:Frag}{az:Str->Option Value}{base:Heap}{a:bU}
theorem ac1(al:Nat)(r:Cz.End):(Cz.seenT al r).length=4:=by
 rcases r with c|⟨v,m⟩
 .rfl
 .cases v<;>rfl
theorem Ss:∀(ps:List (Nat×Nat))(al:Nat)(r:Cz.End),∀x∈Cz.playT al r ps,x.length=4
 |[],al,r,x,Y=>by
  simp[Cz.playT]at Y;rw[Y];exact ac1 _ _
 |(y,n)::l,al,r,x,Y=>by
  rw[KH]at Y;rcases dG.mp Y with rfl|Y
  .exact ac1 _ _
  .unfold EJ at Y;rcases r with c|⟨v,m⟩
   .simp at Y
   .cases v with
    |num=>simp at Y
    |fn self b e=>exact Ss l _ _ x Y
def arN(K:Frag)(a:bU):dj:=fun vs H Q E=>∃(aC ns:Addr)(aR:List UInt8)(al:Nat)(l:List Nat),vs=[.int (al:Int),.ref aC,.ref ns]/\H aC=some (.ak (gM aR))/\aR.length<=100000/\H ns=some (.ak (c8 l))/\l.length<=100000/\(∀i x,l[2*i]?=some x->x<Cz.WORD)/\
 (Cz.program aR=none->∀H',be H H'->E (.ref a.jD) none H')/\
 ∀t,Cz.program aR=some t->∀H' q,be H H'->H q=none->H' q=some (.ak (c8 ((Cz.seenOf t al (Closurize.pairs l)).length::(Cz.seenOf t al (Closurize.pairs l)).flatten)))->Q (.ref q) H'
theorem NE:dP ["allowed","data","numbers","ends","told","end"] ["allowed","data","numbers"] (cT acn):=by trivial
theorem aoD(T:Txt K az a):cZ P w K az base (cW P w) 9 a.IW a.G3 ["allowed","data","numbers"] (arN K a):=by
 refine T.WN.dZ NE (fun vs H Q E h=>?_) (fun cJ A outer s H vs Q E aO h=>?_)
 .obtain⟨aC,ns,aR,al,l,rfl,_⟩:=h;rfl
 .obtain⟨aC,ns,aR,al,l,rfl,aG,bR,D3,aD,QW,dM,k⟩:=h;have l7:sizeLine=16777216:=gU;refine⟨_,bh (dU (i:=3) NE.aH z (Or.inl z) (fU (aou T) aO z T.amP T.WE.cN T.afN .nil bZ (aE (fU (M5 T) aO.dw z T.MI T.Jm.cN T.LA .nil bZ (aE (af 1) aY)) (aE (af 0) (aE (af 2) aY)))))
   (bh (dU (i:=4) NE.aH z (Or.inl z) (gx (aE (j3 mu (by rfl) T.mC m3 (aE (af 3) aY)) aY)))
   (bh (vL gT.own z (wI (af 3)) (mF (i:=5) NE.aH z (Or.inl z)) (bl (fD (jk gZ Fb Lf Eo (af 4) (aE (af 5) aY)))))
   (bl (di (af 4))))),?_⟩
  refine⟨_,z,aC,aR,z,.inl aG,bR,dM,fun t nF aI fR aQ av cR xs cg aU ek=>?_⟩;refine⟨_,z,_,z,fR,aQ,av,ns,t,cR,xs,cg,al,l,z,ek,Z.an3 nF,aU _ _ D3,aD,QW,fun a7 q jv bD a9 Ml ak Rk=>?_⟩;have vN:=aU.trans bD;have qk:∀x∈Cz.seenOf t al (Closurize.pairs l),x.length=4:=fun x Y=>Ss _ _ _ x Y;have Po:jv.length=(Cz.seenOf t al (Closurize.pairs l)).length:=kX ak;have fj:=k t nF;generalize Cz.seenOf t al (Closurize.pairs l)=S at fj ak qk Po;refine⟨_,z,q,_,z,.inl (bj.bM Ml),(by show 1<=sizeLine;omega),fun bw qh=>?_⟩;have BS:H bw=none:=vN.free qh;have wF:q≠bw:=eI Ml qh;refine⟨_,z,q,z,⟨_,bj.bM (by rw[aK wF];exact Ml)⟩,?_⟩;refine DN (K:=K) (a:=q) (xs:=jv.map aa.ref) (fun j O H'=>∃v:Option aa,O=[some (.int (al:Int)),some (.ref aC),some (.ref ns),some (.ref q),some (.ref bw),v]/\aV [bw] a7 H'/\H' bw=some (.ak (c8 (S.length::(S.take j).flatten)))) ?_ ?_ ?_ ?_
  .refine⟨none,z,aV.refl.V (.inl (by simp)),?_⟩;rw[aP,cA,Po];rfl
  .rintro j O H' _ ⟨v,rfl,g1,_⟩;exact bj.bM (g1 _ _ Ml (by simpa using wF))
  .rintro j x O H' bQ ⟨v,rfl,g1,g2⟩;rw[h8]at bQ;cases e:jv[j]? with
   |none=>rw[e]at bQ;cases bQ
   |some y=>
    rw[e]at bQ;cases bQ;obtain⟨I,BP,bu⟩:=wH ak e;have an4:y≠bw:=eI bu qh;have xG:=g1 _ _ bu (by simpa using an4);have lJ:j<S.length:=(gn.mp BP).1;have avs:=qk I (jc BP);have i6:(S.take j).flatten.length<=4*S.length:=by
     have:∀(L:List (List Nat)),(∀x∈L,x.length=4)->L.flatten.length=4*L.length:=fun L=>by
      induction L with
      |nil=>intro _;rfl
      |cons x L eL=>intro h;rw[List.flatten_cons,g8,eL (fun y bu=>h y (gz _ bu)),h x iO,c9];omega
     rw[this _ (fun x Y=>qk x (List.mem_of_mem_take Y)),u0];omega
    refine⟨_,z,.inl ⟨z,_,bj.bM g2⟩,_,z,bw,y,_,_,z,z,g2,xG,?_,?_⟩
    .rw[jT,jT,c9];omega
    .refine⟨_,z,g1.V (.inl (by simp)),?_⟩;rw[aP,xY BP,List.flatten_append,<-AP];simp
  .rintro O H' ⟨v,rfl,g1,g2⟩;rw[cA,Po,Bm]at g2;exact⟨_,z,fj H' bw (fun b o e=>g1 _ _ (vN _ _ e) (by simp;exact fun I=>(by rw[I,BS]at e;cases e))) BS g2⟩
def Up(a:bU)(c:Cz.Code)(G H:aA)(ah a8 av:Addr)(bx:List Addr)(k ce:Nat):Option Cz.CVal->Prop
 |none=>∃(gr iu r6:aa),H ah=some (.au a.fK a8 (fX (.ref av) gr iu r6 .b9))
 |some v=>∃(bS:Z.eH)(al:Nat)(o:aa),H ah=some (j5 a a8 av al k ce o)/\pG a bx G o bS/\Z.mo c v bS
inductive jm(a:bU)(H:aA)(bc:Addr)(M:List Addr):Addr->Closurize.State->Prop
 |mV {ah fW:Addr}:H bc=some (.au a.g9 fW (i4 .b9 .b9))->jm a H bc M ah none
 |kG {ah fW a8 av dm j0 aQ bw:Addr} {G:aA} {bx:List Addr} {s:Closurize.Machine}:H bc=some (.au a.g9 fW (i4 (.ref dm) (.ref ah)))->be G H->(∀b∈M,G b=none)->G bc=none->G ah=none->G dm=some (.au a.tO j0 (w4 (.ref aQ) (.ref bw)))->G bw=some (.ak (c8 (0::s.code.procs.map (·.takes))))->
   q4 a G av bx (Z.uB s.code)->Z.zN s.code->Up a s.code G H ah a8 av bx s.calls s.cells s.last->jm a H bc M ah (some s)
theorem abj{c:Cz.Code}(F:Z.zN c):Z.Lr c (Z.uB c):=by
 refine⟨fun p q e=>?_,F.Sv⟩;have aN:p<c.procs.length:=(gn.mp e).1;rw[Z.OO (by omega),Z.ap1 c e];have nF:Z.mG c (p+1)=q.takes:=by
  unfold Z.mG;rw[List.getD_cons_succ,mZ,h8,e];rfl
 rw[nF]
end
section
variable{P:Program}{w:World}{K:Frag}{az:Str->Option Value}{base:Heap}{a:bU}
theorem jm.keep{H H':aA}{bc ah:Addr}{M N:List Addr}{st:Closurize.State}(h:jm a H bc M ah st)(k:aV N H H')(h7:∀b∈N,b∈M)(ai:bc∉N)(aj:st≠none->ah∉N):jm a H' bc M ah st:=by
 cases h with
 |mV h=>exact .mV (k _ _ h ai)
 |@kG fW a8 av dm j0 aQ bw G bx s ay aq bB dQ f7 lV lW jF jg kO=>
  have hw:=aj (by intro I;cases I);refine .kG (a8:=a8) (k _ _ ay ai) (fun b o e=>k _ _ (aq _ _ e) (fun I=>by rw[bB b (h7 b I)]at e;cases e)) bB dQ f7 lV lW jF jg ?_;cases aD:s.last with
  |none=>
   rw[aD]at kO;obtain⟨gr,iu,r6,q⟩:=kO;exact⟨gr,iu,r6,k _ _ q hw⟩
  |some v=>
   rw[aD]at kO;obtain⟨bS,al,o,aW,bf⟩:=kO;exact⟨bS,al,o,k _ _ aW hw,bf⟩
theorem jm.same{H H':aA}{bc ah:Addr}{M:List Addr}{st:Closurize.State}(h:jm a H bc M ah st)(k:be H H'):jm a H' bc M ah st:=h.keep (N:=[]) (fun b o e _=>k b o e) (fun b ae=>(by cases ae)) (by simp) (fun _=>by simp)
def arM(a:bU):dj:=fun vs H Q E=>∃(bc ah:Addr)(M:List Addr)(st:Closurize.State),vs=[.ref bc]/\jm a H bc M ah st/\(st=none->E (.ref a.tP) none H)/\(st≠none->Q .b9 H)
theorem aqJ:dP ["self"] ["self"] (cT abC):=by trivial
theorem M3(T:Txt K az a):cZ P w K az base (cW P w) 1 a.HW a.Gg ["self"] (arM a):=by
 refine T.aip.dZ aqJ (fun vs H Q E h=>?_) (fun cJ A outer s H vs Q E aO h=>?_)
 .obtain⟨bc,ah,M,st,rfl,_⟩:=h;rfl
 .obtain⟨bc,ah,M,st,rfl,aM,dM,jr⟩:=h;refine⟨_,bl (d7 (dN aay (bG (af 0) z) EF (dH _)) (bl (qQ gT z T.Zg T.Pq)) fH),?_⟩;cases aM with
  |mV h=>exact⟨_,z,bc,_,_,_,_,z,h,T.jE,T.Cu,Ft,z,_,z,lZ z (dM z)⟩
  |kG ay=>exact⟨_,z,bc,_,_,_,_,z,ay,T.jE,T.Cu,Ft,z,_,z,cu (by intro I;cases I) (jr (by intro I;cases I))⟩
def arP(a:bU):dj:=fun vs H Q E=>∃(bc ah:Addr)(M:List Addr)(st:Closurize.State),vs=[.ref bc]/\jm a H bc M ah st/\(st=none->E (.ref a.tP) none H)/\(∀s,st=some s->(s.last=none->E (.ref a.xd) none H)/\(s.last≠none->Q .b9 H))
theorem aqK:dP ["self"] ["self"] (cT abD):=by trivial
theorem M4(T:Txt K az a):cZ P w K az base (cW P w) 2 a.HX a.Gh ["self"] (arP a):=by
 refine T.aiq.dZ aqK (fun vs H Q E h=>?_) (fun cJ A outer s H vs Q E aO h=>?_)
 .obtain⟨bc,ah,M,st,rfl,_⟩:=h;rfl
 .obtain⟨bc,ah,M,st,rfl,aM,dM,jr⟩:=h;refine⟨_,bh (fD (iC (af 0) T.jE T.ME (M3 T) aO T.Ly .nil bZ))
   (bl (d7 (dN aay (bG (bG (af 0) z) z) EF (dH _)) (bl (qQ gT z T.Zj T.Pv)) fH)),?_⟩
  cases aM with
  |mV h=>exact⟨_,z,bc,_,_,z,h,z8,bc,ah,M,none,z,.mV h,dM,fun I=>absurd z I⟩
  |@kG fW a8 av dm j0 aQ bw G bx s ay aq bB dQ f7 lV lW jF jg kO=>
   refine⟨_,z,bc,_,_,z,ay,z8,bc,ah,M,some s,z,.kG ay aq bB dQ f7 lV lW jF jg kO,fun I=>(by cases I),fun _=>?_⟩;obtain⟨k1,k2⟩:=jr s z;cases aD:s.last with
   |none=>
    rw[aD]at kO;obtain⟨gr,iu,r6,q⟩:=kO;exact⟨_,z,bc,_,_,_,_,z,ay,T.jE,T.wz,yj,ah,_,a8,_,_,z,q,T.gX,T.wA,zU,z,_,z,lZ z (k1 aD)⟩
   |some v=>
    rw[aD]at kO;obtain⟨bS,al,o,aW,bf,df⟩:=kO;refine⟨_,z,bc,_,_,_,_,z,ay,T.jE,T.wz,yj,ah,_,a8,_,_,z,aW,T.gX,T.wA,zU,z,_,z,cu (fun I=>?_) (k2 (by rw[aD];intro I;cases I))⟩;cases bf<;>cases I
def ar5(a:bU):dj:=fun vs H Q E=>∃(bc ah:Addr)(M:List Addr)(st:Closurize.State),vs=[.ref bc]/\jm a H bc M ah st/\(st=none->E (.ref a.tP) none H)/\(∀s,st=some s->∀q,H q=none->Q (.ref q) (V H q (.ak [.int (s.code.procs.length:Int)])))
theorem aqR:dP ["self"] ["self"] (cT abE):=by trivial
theorem aoQ(T:Txt K az a):cZ P w K az base (cW P w) 2 a.HY a.Gi ["self"] (ar5 a):=by
 refine T.air.dZ aqR (fun vs H Q E h=>?_) (fun cJ A outer s H vs Q E aO h=>?_)
 .obtain⟨bc,ah,M,st,rfl,_⟩:=h;rfl
 .obtain⟨bc,ah,M,st,rfl,aM,dM,jr⟩:=h;have l7:sizeLine=16777216:=gU;refine⟨_,bh (fD (iC (af 0) T.jE T.ME (M3 T) aO T.Ly .nil bZ))
   (bl (di (gx (aE (f9 uc (j3 mu (by rfl) T.mC m3 (aE (bG (bG (af 0) z) z) aY)) dc) aY)))),?_⟩
  cases aM with
  |mV h=>exact⟨_,z,bc,_,_,z,h,z8,bc,ah,M,none,z,.mV h,dM,fun I=>absurd z I⟩
  |@kG fW a8 av dm j0 aQ bw G bx s ay aq bB dQ f7 lV lW jF jg kO=>
   refine⟨_,z,bc,_,_,z,ay,z8,bc,ah,M,some s,z,.kG ay aq bB dQ f7 lV lW jF jg kO,fun I=>(by cases I),fun _=>?_⟩;have lI:=aq _ _ lV;have qh:=aq _ _ lW;refine⟨_,z,bc,_,_,_,_,z,ay,T.jE,T.Cu,Ft,dm,_,j0,_,_,z,lI,T.xf,T.Ct,Dk,bw,_,z,.inl (bj.bM qh),_,_,z,z,(by show 1<=sizeLine;omega),fun q a9=>?_⟩;have:=jr s z q a9;show Q (.ref q) (V H q (.ak [.int (((c8 (0::s.code.procs.map (·.takes))).length:Nat) -1)]));rw[jT,c9,cA,show(((s.code.procs.length+1:Nat):Int) -1)=(s.code.procs.length:Int) by omega];exact this
def arS(a:bU):dj:=fun vs H Q E=>∃(bc ah:Addr)(M:List Addr)(st:Closurize.State)(p:Nat),vs=[.ref bc,.int (p:Int)]/\jm a H bc M ah st/\(st=none->E (.ref a.tP) none H)/\
 (∀s,st=some s->(s.code.procs[p]?=none->E (.ref a.BI) none H)/\∀fC,s.code.procs[p]?=some fC->∀q,H q=none->Q (.ref q) (V H q (.ak [.int (fC.takes:Int)])))
theorem aqN:dP ["self","procedure"] ["self","procedure"] (cT abH):=by trivial
theorem aoH(T:Txt K az a):cZ P w K az base (cW P w) 2 a.H7 a.Gl ["self","procedure"] (arS a):=by
 refine T.aiu.dZ aqN (fun vs H Q E h=>?_) (fun cJ A outer s H vs Q E aO h=>?_)
 .obtain⟨bc,ah,M,st,p,rfl,_⟩:=h;rfl
 .obtain⟨bc,ah,M,st,p,rfl,aM,dM,jr⟩:=h;have l7:sizeLine=16777216:=gU;refine⟨_,bh (fD (iC (af 0) T.jE T.ME (M3 T) aO T.Ly .nil bZ))
   (bh (d7 (dN CH (f9 kH (af 1) dc) (j3 mu (by rfl) T.mC m3 (aE (bG (bG (af 0) z) z) aY)) (dH _)) (bl (qQ gT z T.Zi T.Pu)) fH)
   (bl (di (gx (aE (mD nJ (bG (bG (af 0) z) z) (f9 kH (af 1) dc) (fun _ _=>rfl)) aY))))),?_⟩
  cases aM with
  |mV h=>exact⟨_,z,bc,_,_,z,h,z8,bc,ah,M,none,z,.mV h,dM,fun I=>absurd z I⟩
  |@kG fW a8 av dm j0 aQ bw G bx s ay aq bB dQ f7 lV lW jF jg kO=>
   refine⟨_,z,bc,_,_,z,ay,z8,bc,ah,M,some s,z,.kG ay aq bB dQ f7 lV lW jF jg kO,fun I=>(by cases I),fun _=>?_⟩;have lI:=aq _ _ lV;have qh:=aq _ _ lW;obtain⟨k1,k2⟩:=jr s z;refine⟨_,z,_,_,z,z,_,z,bc,_,_,_,_,z,ay,T.jE,T.Cu,Ft,dm,_,j0,_,_,z,lI,T.xf,T.Ct,Dk,bw,_,z,.inl (bj.bM qh),_,_,z,z,_,z,fi (fun aN=>?_) (fun aN=>?_)⟩
   .rw[jT,c9,cA]at aN;exact k1 (Fd (by omega))
   .rw[jT,c9,cA]at aN;have eY:p<s.code.procs.length:=by omega
    have ig:s.code.procs[p]?=some s.code.procs[p]:=gA eY;have uJ:nE (c8 (0::s.code.procs.map (·.takes))) ((p:Int)+1)=some (.int (s.code.procs[p].takes:Int)):=by
     have:=lD (xs:=c8 (0::s.code.procs.map (·.takes))) (j:=p+1) (v:=.int (s.code.procs[p].takes:Int)) (by unfold c8;rw[h8,List.getElem?_cons_succ,h8,ig];rfl);rw[Fi]at this;exact this
    exact⟨_,z,bc,_,_,_,_,z,ay,T.jE,T.Cu,Ft,dm,_,j0,_,_,z,lI,T.xf,T.Ct,Dk,_,z,_,_,z,z,bw,_,_,_,z,z,bj.bM qh,uJ,(by show 1<=sizeLine;omega),k2 _ ig⟩
end
section
variable{P:Program}{w:World}{K:Frag}{az:Str->Option Value}{base:Heap}{a:bU}
theorem Y0{H G:aA}{bc ah fW a8 av dm j0 aQ bw:Addr}{bx M:List Addr}{s:Closurize.Machine}{al ce:Nat}{code:List Z.eO}{iN:List Z.eH}{r:Cz.CEnd}{Q:gc}(oU:∀b∈M,H b≠none)(ay:H bc=some (.au a.g9 fW (i4 (.ref dm) (.ref ah))))(D0:bc≠ah)
  (bB:∀b∈M,G b=none)(dQ:G bc=none)(f7:G ah=none)(rI:H ah≠none)(lV:G dm=some (.au a.tO j0 (w4 (.ref aQ) (.ref bw))))(lW:G bw=some (.ak (c8 (0::s.code.procs.map (·.takes)))))(jF:q4 a G av bx (Z.uB s.code))(jg:Z.zN s.code)
  (g:Z.zX (Z.mo s.code) (Z.uB s.code) al code iN ce r)(k:∀H',aV [ah] H H'->jm a H' bc M ah (Closurize.ends s al r).1->Q (.int (Closurize.ends s al r).2.ret) H'):
  ∃(n:Nat)(out:Z.p6),Z.iF (Z.uB s.code) al n code ⟨0,[],iN,ce⟩ [] 0 out/\Af a [ah] H G ah a8 av bx al out Q:=by
 rcases r with e|⟨v,m⟩
 .obtain⟨n,h⟩:=g;refine⟨n,_,h,fun H' eg x v fj c' aW bf df e7 k6 oj mW=>(by cases mW),fun H' c5 fj c' aW bf df e7=>?_⟩;cases e7;exact k H' aW (.kG (s:=⟨s.code,none,0,0⟩) (aW _ _ ay (by simpa using D0)) bf bB dQ f7 lV lW jF jg ⟨_,_,_,df⟩)
 .obtain⟨bS,n,ai,aj,bN⟩:=g;refine⟨n,_,bN,fun H' eg x EV fj c' aW bf df e7 k6 oj mW=>?_,fun H' c5 fj c' aW bf df e7=>(by cases e7)⟩;cases mW;have base:∀vV,Z.mo s.code vV bS->jm a H' bc M ah (some ⟨s.code,some vV,al -m.calls,m.cells⟩):=fun vV a6=>
   .kG (s:=⟨s.code,some vV,al -m.calls,m.cells⟩) (aW _ _ ay (by simpa using D0)) e7 (fun b ae=>df b (oU b ae) (bB b ae)) (df bc (by rw[ay];exact fun I=>(by cases I)) dQ) (df ah rI f7) (bf _ _ lV) (bf _ _ lW) (jF.same bf) jg ⟨bS,al,x,k6,oj,a6⟩
  cases ai with
  |num Y=>exact k H' aW (base _ (.num Y))
  |fn o7 l6 ud=>exact k H' aW (base _ (.fn o7 l6 ud))
def arR(a:bU):dj:=fun vs H Q E=>∃(bc ah:Addr)(M:List Addr)(st:Closurize.State)(n:Nat),vs=[.ref bc,.int (n:Int)]/\jm a H bc M ah st/\(∀b∈M,H b≠none)/\(st=none->E (.ref a.tP) none H)/\
 (∀s,st=some s->∀H' q,aV [ah] H H'->jm a H' bc M ah (Closurize.ends s n (Cz.evalC s.code Cz.GAS 0 Cz.mainPlace s.code.main ⟨n,0⟩)).1->H q=none->H' q=some (.ak [.int (Closurize.ends s n (Cz.evalC s.code Cz.GAS 0 Cz.mainPlace s.code.main ⟨n,0⟩)).2.ret])->Q (.ref q) H')
theorem aqM:dP ["self","allowed"] ["self","allowed"] (cT abG):=by trivial
theorem K9{H:aA}{ah a8 av:Addr}{bx:List Addr}{G:aA}{c:Cz.Code}{k ce:Nat}{l:Option Cz.CVal}(h:Up a c G H ah a8 av bx k ce l):∃gr iu r6 ku,H ah=some (.au a.fK a8 (fX (.ref av) gr iu r6 ku)):=by
 cases l with
 |none=>obtain⟨gr,iu,r6,q⟩:=h;exact⟨_,_,_,_,q⟩
 |some v=>obtain⟨bS,al,o,q,_⟩:=h;exact⟨_,_,_,_,q⟩
theorem Rn(T:Txt K az a){H:aA}{bc ah fW a8:Addr}{f1 f2:List (Str×aa)}(ai:H bc=some (.au a.g9 fW f1))(aj:H ah=some (.au a.fK a8 f2)):bc≠ah:=fun I=>by
 rw[I,aj]at ai;have:=j7 ai;injection this with q _ _
 exact jZ T.aH 11 16 (by decide) z z q
theorem aoG(T:Txt K az a):cZ P w K az base (cW P w) 8 a.H6 a.Gk ["self","allowed"] (arR a):=by
 refine T.ait.dZ aqM (fun vs H Q E h=>?_) (fun cJ A outer s H vs Q E aO h=>?_)
 .obtain⟨bc,ah,M,st,n,rfl,_⟩:=h;rfl
 .obtain⟨bc,ah,M,st,n,rfl,aM,oU,dM,jr⟩:=h;have l7:sizeLine=16777216:=gU;refine⟨_,bh (fD (iC (af 0) T.jE T.ME (M3 T) aO.dw T.Ly .nil bZ))
   (bl (di (gx (aE (qN (bG (af 0) z) T.gX T.Za (aao T) aO T.Vc .nil bZ (aE (af 1) aY)) aY)))),?_⟩
  cases aM with
  |mV h=>exact⟨_,z,bc,_,_,z,h,z8,bc,ah,M,none,z,.mV h,dM,fun I=>absurd z I⟩
  |@kG fW a8 av dm j0 aQ bw G bx s ay aq bB dQ f7 lV lW jF jg kO=>
   refine⟨_,z,bc,_,_,z,ay,z8,bc,ah,M,some s,z,.kG ay aq bB dQ f7 lV lW jF jg kO,fun I=>(by cases I),fun _=>?_⟩;obtain⟨gr,iu,r6,ku,hw⟩:=K9 kO;have D0:=Rn T ay hw;refine⟨_,z,bc,_,_,_,_,z,ay,T.jE,T.wz,yj,ah,a8,_,z,hw,Uz,_,z,?_⟩;have cP:(Z.uB s.code)[0]?=some ⟨Z.zz s.code 0,2,1+Z.mG s.code 0⟩:=Z.OO (by omega);have g:=Z.ap7 (al:=n) jg (abj jg);rw[<-Z.ap0]at g;have k2:=jr s z;generalize Cz.evalC s.code Cz.GAS 0 Cz.mainPlace s.code.main ⟨n,0⟩=r at g k2;obtain⟨cF,out,gY,CP⟩:=Y0 (a8:=a8) (Q:=fun v H'=>1<=sizeLine/\∀p,H' p=none->Q (.ref p) (V H' p (.ak [v]))) oU ay D0 bB dQ f7 (by rw[hw];exact fun I=>(by cases I)) lV lW jF jg g (fun H' k1 fz=>⟨by omega,fun q a9=>k2 _ q (k1.trans (aV.refl.V (.inr a9))) (fz.same (cj (be.refl _) a9)) (k1.fresh a9 (fun c aB=>by
    simp at aB;subst aB;have auO:=aq;cases amc:H' c with
    |some o=>exact⟨o,z⟩
    |none=>exact absurd amc (by
     generalize iR:(Closurize.ends s n r).1=qV at fz;cases fz with
     |mV _=>
      rcases r with e|⟨v,m⟩
      .cases iR
      .cases v<;>cases iR
     |kG _ _ _ _ _ _ _ _ _ I=>
      obtain⟨_,_,_,_,q⟩:=K9 I;rw[q];exact fun I=>(by cases I)))) aP⟩)
   exact⟨G,ah,a8,av,bx,Z.uB s.code,_,n,cF,gr,iu,r6,ku,out,z,aq,jF,f7,hw,cP,gY,CP⟩
end
section
variable{P:Program}{w:World}{K:Frag}{az:Str->Option Value}{base:Heap}{a:bU}
theorem ahB{H':aA}{bc ah:Addr}{M:List Addr}{s:Closurize.Machine}{n:Nat}{r:Cz.CEnd}(fz:jm a H' bc M ah (Closurize.ends s n r).1):∃o,H' ah=some o:=by
 generalize iR:(Closurize.ends s n r).1=qV at fz;cases fz with
 |mV _=>
  rcases r with e|⟨v,m⟩
  .cases iR
  .cases v<;>cases iR
 |kG _ _ _ _ _ _ _ _ _ I=>
  obtain⟨_,_,_,_,q⟩:=K9 I;exact⟨_,q⟩
def arL(a:bU):dj:=fun vs H Q E=>∃(bc ah:Addr)(M:List Addr)(st:Closurize.State)(x n:Nat),vs=[.ref bc,.int (x:Int),.int (n:Int)]/\jm a H bc M ah st/\(∀b∈M,H b≠none)/\x<Cz.WORD/\(st=none->E (.ref a.tP) none H)/\
 (∀s,st=some s->(s.last=none->E (.ref a.xd) none H)/\(∀y,s.last=some (.num y)->E (.ref a.BH) none H)/\∀p l,s.last=some (.fn p l)->
  ∀H' q,aV [ah] H H'->jm a H' bc M ah (Closurize.ends s n (Cz.applyC s.code (.fn p l) x ⟨n,s.cells⟩)).1->H q=none->H' q=some (.ak [.int (Closurize.ends s n (Cz.applyC s.code (.fn p l) x ⟨n,s.cells⟩)).2.ret])->Q (.ref q) H')
theorem aqG:dP ["self","number","allowed"] ["self","number","allowed"] (cT abx):=by trivial
theorem aoA(T:Txt K az a):cZ P w K az base (cW P w) 8 a.HR a.Gb ["self","number","allowed"] (arL a):=by
 refine T.aik.dZ aqG (fun vs H Q E h=>?_) (fun cJ A outer s H vs Q E aO h=>?_)
 .obtain⟨bc,ah,M,st,x,n,rfl,_⟩:=h;rfl
 .obtain⟨bc,ah,M,st,x,n,rfl,aM,oU,Y,dM,jr⟩:=h;have l7:sizeLine=16777216:=gU;refine⟨_,bh (fD (iC (af 0) T.jE T.MF (M4 T) aO.dw T.Lz .nil bZ))
   (bh (d7 (vM (j3 (BJ T.Cj T.uC) (by rfl) T.Cx BF (aE (bG (bG (af 0) z) z) (aE (CI (v:=.jx "int") (by rfl) T.Cw BE z) aY)))) (bl (qQ gT z T.Zh T.Pr)) fH)
   (bl (di (gx (aE (qN (bG (af 0) z) T.gX T.Y8 (aaf T) aO T.U9 .nil bZ (aE (af 1) (aE (af 2) aY))) aY))))),?_⟩
  cases aM with
  |mV h=>exact⟨_,z,bc,_,_,z,h,z9,bc,ah,M,none,z,.mV h,dM,fun s I=>(by cases I)⟩
  |@kG fW a8 av dm j0 aQ bw G bx s ay aq bB dQ f7 lV lW jF jg kO=>
   obtain⟨k1,k2,k3⟩:=jr s z;refine⟨_,z,bc,_,_,z,ay,z9,bc,ah,M,some s,z,.kG ay aq bB dQ f7 lV lW jF jg kO,fun I=>(by cases I),fun aZ I=>?_⟩;cases I;refine⟨k1,fun ki=>?_⟩;cases aD:s.last with
   |none=>exact absurd aD ki
   |some v=>
    have sQ:=kO;rw[aD]at sQ;obtain⟨bS,al,o,aW,bf,df⟩:=sQ;refine⟨_,z,bc,_,_,_,_,z,ay,T.jE,T.wz,yj,ah,_,a8,_,_,z,aW,T.gX,T.wA,zU,o,!bS.isFn,z,bf.sX aq,_,z,?_⟩;have D0:=Rn T ay aW;cases df with
    |num bu=>exact lY (k2 _ aD)
    |@fn p fC l uA o7 l6 ud=>
     refine nt ⟨_,z,bc,_,_,_,_,z,ay,T.jE,T.wz,yj,ah,a8,_,z,aW,Uy,_,z,_,z,?_⟩;have g:=Z.afa (x:=x) (n:=n) (ce:=s.cells) jg (abj jg) (.fn o7 l6 ud) z Y;have jh:=k3 p l aD;generalize Cz.applyC s.code (.fn p l) x ⟨n,s.cells⟩=r at g jh;obtain⟨cF,out,gY,CP⟩:=Y0 (a8:=a8) (Q:=fun v H'=>1<=sizeLine/\∀p,H' p=none->Q (.ref p) (V H' p (.ak [v]))) oU ay D0 bB dQ f7 (by rw[aW];exact fun I=>(by cases I)) lV lW jF jg g (fun H' fT fz=>⟨by omega,fun q a9=>jh _ q (fT.trans (aV.refl.V (.inr a9))) (fz.same (cj (be.refl _) a9)) (fT.fresh a9 (fun c aB=>by simp at aB;subst aB;exact ahB fz)) aP⟩);exact⟨G,ah,a8,av,bx,Z.uB s.code,n,s.cells,cF,x,_,_,_,_,out,z,aq,jF,f7,aW,bf,gY,CP⟩
def arQ(a:bU):dj:=fun vs H Q E=>∃(bc ah:Addr)(M:List Addr)(st:Closurize.State),vs=[.ref bc]/\jm a H bc M ah st/\(st=none->E (.ref a.tP) none H)/\
 (∀s,st=some s->(s.last=none->E (.ref a.xd) none H)/\(∀y,s.last=some (.num y)->∀q,H q=none->Q (.ref q) (V H q (.ak [.int 0,.int (y:Int)])))/\∀p l,s.last=some (.fn p l)->∀q,H q=none->Q (.ref q) (V H q (.ak [.int 1])))
theorem aqL:dP ["self"] ["self"] (cT abF):=by trivial
theorem aoF(T:Txt K az a):cZ P w K az base (cW P w) 3 a.HZ a.Gj ["self"] (arQ a):=by
 refine T.ais.dZ aqL (fun vs H Q E h=>?_) (fun cJ A outer s H vs Q E aO h=>?_)
 .obtain⟨bc,ah,M,st,rfl,_⟩:=h;rfl
 .obtain⟨bc,ah,M,st,rfl,aM,dM,jr⟩:=h;have l7:sizeLine=16777216:=gU;refine⟨_,bh (fD (iC (af 0) T.jE T.MF (M4 T) aO.dw T.Lz .nil bZ))
   (bh (d7 (vM (j3 (BJ T.Cj T.uC) (by rfl) T.Cx BF (aE (bG (bG (af 0) z) z) (aE (CI (v:=.jx "int") (by rfl) T.Cw BE z) aY)))) (bl (di (gx (aE (cH T.L1) (aE (bG (bG (af 0) z) z) aY))))) fH)
   (bl (di (gx (aE (cH T.Jy) aY))))),?_⟩
  cases aM with
  |mV h=>exact⟨_,z,bc,_,_,z,h,z9,bc,ah,M,none,z,.mV h,dM,fun s I=>(by cases I)⟩
  |@kG fW a8 av dm j0 aQ bw G bx s ay aq bB dQ f7 lV lW jF jg kO=>
   obtain⟨k1,k2,k3⟩:=jr s z;refine⟨_,z,bc,_,_,z,ay,z9,bc,ah,M,some s,z,.kG ay aq bB dQ f7 lV lW jF jg kO,fun I=>(by cases I),fun aZ I=>?_⟩;cases I;refine⟨k1,fun ki=>?_⟩;cases aD:s.last with
   |none=>exact absurd aD ki
   |some v=>
    have sQ:=kO;rw[aD]at sQ;obtain⟨bS,al,o,aW,bf,df⟩:=sQ;refine⟨_,z,bc,_,_,_,_,z,ay,T.jE,T.wz,yj,ah,_,a8,_,_,z,aW,T.gX,T.wA,zU,o,!bS.isFn,z,bf.sX aq,_,z,?_⟩;cases df with
    |num bu=>
     cases bf;exact lY ⟨_,z,bc,_,_,_,_,z,ay,T.jE,T.wz,yj,ah,_,a8,_,_,z,aW,T.gX,T.wA,zU,(by show 2<=sizeLine;omega),k2 _ aD⟩
    |fn o7 l6 ud=>exact nt ⟨(by show 1<=sizeLine;omega),k3 _ _ aD⟩
def adb(a:bU)(f:Closurize.Machine->Nat):dj:=fun vs H Q E=>∃(bc ah:Addr)(M:List Addr)(st:Closurize.State),vs=[.ref bc]/\jm a H bc M ah st/\(st=none->E (.ref a.tP) none H)/\
 (∀s,st=some s->(s.last=none->E (.ref a.xd) none H)/\(s.last≠none->∀q,H q=none->Q (.ref q) (V H q (.ak [.int (f s:Int)]))))
theorem aqH:dP ["self"] ["self"] (cT aby):=by trivial
theorem aoB(T:Txt K az a):cZ P w K az base (cW P w) 3 a.HS a.Gc ["self"] (adb a (·.calls)):=by
 refine T.ail.dZ aqH (fun vs H Q E h=>?_) (fun cJ A outer s H vs Q E aO h=>?_)
 .obtain⟨bc,ah,M,st,rfl,_⟩:=h;rfl
 .obtain⟨bc,ah,M,st,rfl,aM,dM,jr⟩:=h;have l7:sizeLine=16777216:=gU;refine⟨_,bh (fD (iC (af 0) T.jE T.MF (M4 T) aO.dw T.Lz .nil bZ))
   (bl (di (gx (aE (bG (bG (af 0) z) z) aY)))),?_⟩
  cases aM with
  |mV h=>exact⟨_,z,bc,_,_,z,h,z9,bc,ah,M,none,z,.mV h,dM,fun s I=>(by cases I)⟩
  |@kG fW a8 av dm j0 aQ bw G bx s ay aq bB dQ f7 lV lW jF jg kO=>
   obtain⟨k1,k2⟩:=jr s z;refine⟨_,z,bc,_,_,z,ay,z9,bc,ah,M,some s,z,.kG ay aq bB dQ f7 lV lW jF jg kO,fun I=>(by cases I),fun aZ I=>?_⟩;cases I;refine⟨k1,fun ki=>?_⟩;cases aD:s.last with
   |none=>exact absurd aD ki
   |some v=>
    have sQ:=kO;rw[aD]at sQ;obtain⟨bS,al,o,aW,bf,df⟩:=sQ;exact⟨_,z,bc,_,_,_,_,z,ay,T.jE,T.wz,yj,ah,_,a8,_,_,z,aW,T.gX,T.AN,Fx,(by show 1<=sizeLine;omega),k2 ki⟩
theorem aqI:dP ["self"] ["self"] (cT abz):=by trivial
theorem aoC(T:Txt K az a):cZ P w K az base (cW P w) 3 a.HT a.Gd ["self"] (adb a (·.cells)):=by
 refine T.aim.dZ aqI (fun vs H Q E h=>?_) (fun cJ A outer s H vs Q E aO h=>?_)
 .obtain⟨bc,ah,M,st,rfl,_⟩:=h;rfl
 .obtain⟨bc,ah,M,st,rfl,aM,dM,jr⟩:=h;have l7:sizeLine=16777216:=gU;refine⟨_,bh (fD (iC (af 0) T.jE T.MF (M4 T) aO.dw T.Lz .nil bZ))
   (bl (di (gx (aE (bG (bG (af 0) z) z) aY)))),?_⟩
  cases aM with
  |mV h=>exact⟨_,z,bc,_,_,z,h,z9,bc,ah,M,none,z,.mV h,dM,fun s I=>(by cases I)⟩
  |@kG fW a8 av dm j0 aQ bw G bx s ay aq bB dQ f7 lV lW jF jg kO=>
   obtain⟨k1,k2⟩:=jr s z;refine⟨_,z,bc,_,_,z,ay,z9,bc,ah,M,some s,z,.kG ay aq bB dQ f7 lV lW jF jg kO,fun I=>(by cases I),fun aZ I=>?_⟩;cases I;refine⟨k1,fun ki=>?_⟩;cases aD:s.last with
   |none=>exact absurd aD ki
   |some v=>
    have sQ:=kO;rw[aD]at sQ;obtain⟨bS,al,o,aW,bf,df⟩:=sQ;exact⟨_,z,bc,_,_,_,_,z,ay,T.jE,T.wz,yj,ah,_,a8,_,_,z,aW,T.gX,T.AO,Fy,(by show 1<=sizeLine;omega),k2 ki⟩
end
section
variable{P:Program}{w:World}{K:Frag}{az:Str->Option Value}{base:Heap}{a:bU}
def minus(H:aA)(M:List Addr):aA:=fun b=>if b∈M then none else H b
theorem MJ{H:aA}{M:List Addr}{b:Addr}(h:b∈M):minus H M b=none:=bT h
theorem Cq{H:aA}{M:List Addr}{b:Addr}(h:b∉M):minus H M b=H b:=bz h
theorem Rv{H:aA}{M:List Addr}:be (minus H M) H:=fun b o e=>by
 by_cases h:b∈M
 .rw[MJ h]at e;cases e
 .rw[Cq h]at e;exact e
def yr(a:bU)(H:aA)(M:List Addr):Prop:=∀b∈M,(∃xs,H b=some (.ak xs))\/(∃dx bA,H b=some (.au a.m8 dx bA))\/∃dx bA,H b=some (.au a.g9 dx bA)
theorem yr.some{H:aA}{M:List Addr}(h:yr a H M):∀b∈M,H b≠none:=fun b ae I=>by
 rcases h b ae with⟨xs,q⟩|⟨dx,bA,q⟩|⟨dx,bA,q⟩<;>rw[I]at q<;>cases q
def arO(K:Frag)(a:bU):dj:=fun vs H Q E=>∃(bc fW aC:Addr)(b5 bL:aa)(M:List Addr)(aR:List UInt8),vs=[.ref bc,.ref aC]/\H bc=some (.au a.g9 fW (i4 b5 bL))/\yr a H M/\H aC=some (.ak (gM aR))/\aR.length<=100000/\
 (Cz.code aR=none->∀H',be H H'->E (.ref a.jD) none H')/\∀c,Cz.code aR=some c->∀H' q ah,aV [bc] H H'->jm a H' bc M ah (some ⟨c,none,0,0⟩)->H q=none->H' q=some (.ak [.int 0])->Q (.ref q) H'
theorem acP:dP ["self","data","code"] ["self","data"] (cT abB):=by trivial
theorem aaT{bg bk:aa}:(i4 bg bk).length<1000:=by show 2<1000;decide
theorem aoE(T:Txt K az a):cZ P w K az base (cW P w) 7 a.HV a.Gf ["self","data"] (arO K a):=by
 refine T.aio.dZ acP (fun vs H Q E h=>?_) (fun cJ A outer s H vs Q E aO h=>?_)
 .obtain⟨bc,fW,aC,b5,bL,M,aR,rfl,_⟩:=h;rfl
 .obtain⟨bc,fW,aC,b5,bL,M,aR,rfl,aM,rD,aG,bR,dM,k⟩:=h;have l7:sizeLine=16777216:=gU;refine⟨_,bh (dU (i:=2) acP.aH z (Or.inl z) (fU (aoR T) aO z T.am7 T.WY.cN T.af5 .nil bZ (aE (af 1) aY)))
   (bh (f5 (af 0) (af 2) z)
   (bh (f5 (af 0) (mE T.ZA (aad T) aO.dw z T.Zm T.Va .nil bZ (aE (fU (aom T) aO.dw z T.amM T.WB.cN T.afK .nil bZ (aE (af 2) aY)) aY)) z)
   (bl (di (gx (aE dc aY)))))),?_⟩
  refine⟨_,z,aC,aR,z,.inl aG,bR,dM,fun c vp aI dm aQ bw cR aU BS DA=>?_⟩;have F:=Z.VN vp;obtain⟨j0,lI⟩:=DA.obj;have JN:=aU _ _ aM;have au5:bc≠dm:=fun I=>by
   rw[I,lI]at JN;have:=j7 JN;injection this with q _ _
   exact jZ T.aH 12 16 (by decide) z z q
  refine⟨_,z,_,z,bc,_,fW,_,z,JN,T.jE,T.Cu,aaT,?_⟩;rw[aeI];have Q5:aV [bc] aI (V aI bc (.au a.g9 fW (i4 (.ref dm) bL))):=aV.refl.V (.inl (by simp));have nk:V aI bc (.au a.g9 fW (i4 (.ref dm) bL)) bc=some (.au a.g9 fW (i4 (.ref dm) bL)):=aP;have nm:∀(b:Addr)(o:cI),aI b=some o->(∀d f,o≠.au a.g9 d f)->V aI bc (.au a.g9 fW (i4 (.ref dm) bL)) b=some o:=fun b o e fB=>by
   rw[aK (fun I=>by rw[I,JN]at e;cases e;exact fB _ _ z)];exact e
  have LF:Od a (V aI bc (.au a.g9 fW (i4 (.ref dm) bL))) dm c aQ bw cR:=by
   refine⟨⟨j0,nm _ _ lI (fun d f I=>by injection I with q _ _;exact jZ T.aH 12 16 (by decide) z z q)⟩,nm _ _ DA.oi (fun d f I=>by cases I),bF.Paired.nI (fun y aH bu=>?_) DA.ef,nm _ _ DA.qX (fun d f I=>by cases I),DA.YA,DA.cF⟩;obtain⟨dx,anN,e,q⟩:=bu;refine⟨dx,anN,nm _ _ e (fun d f I=>by injection I with q _ _;exact jZ T.aH 2 16 (by decide) z z q),fun aJ=>?_⟩;obtain⟨l,b8,aW,bf,df,e7⟩:=q aJ;exact⟨l,b8,aW,bf,nm _ _ df (fun d f I=>by cases I),bF.Paired.nI (fun t y e=>nm _ _ e (fun d f I=>by cases I)) e7⟩
  have Jp:∀b,V aI bc (.au a.g9 fW (i4 (.ref dm) bL)) b=none->aI b=none:=fun b e=>(e8 e).2;generalize V aI bc (.au a.g9 fW (i4 (.ref dm) bL))=a7 at Q5 nk LF Jp⊢;refine⟨_,z,dm,aQ,bw,c,cR,z,LF,fun bI av bx b4 LC eF=>?_⟩;intro ah a8 aq ay bB;refine⟨ah,a8,_,z,aP,z,?_⟩;have eo:be bI (V (V (V bI a8 (.own ah)) ah (.au a.fK a8 [])) ah (.au a.fK a8 (fX (.ref av) (.int 0) (.int 0) (.int 0) .b9))):=cj (cj (cj (be.refl _) ay) aq) aq;have Bf:(V (V (V bI a8 (.own ah)) ah (.au a.fK a8 [])) ah (.au a.fK a8 (fX (.ref av) (.int 0) (.int 0) (.int 0) .b9))) ah=some (.au a.fK a8 (fX (.ref av) (.int 0) (.int 0) (.int 0) .b9)):=aP;generalize (V (V (V bI a8 (.own ah)) ah (.au a.fK a8 [])) ah (.au a.fK a8 (fX (.ref av) (.int 0) (.int 0) (.int 0) .b9)))=b6 at eo Bf⊢;have XY:=eo _ _ (b4 _ _ nk);have anO:=Rn T XY Bf;refine⟨_,z,bc,_,fW,_,z,XY,T.jE,T.wz,aaT,?_⟩;rw[aeJ];refine⟨(by show 1<=sizeLine;omega),fun q a9=>?_⟩;obtain⟨wF,Cf⟩:=e8 a9;have aW:aI q=none:=Jp _ (b4.free (eo.free Cf));have ajL:∀b∈bc::M,aI b≠none:=fun b ae I=>by
   rcases dG.mp ae with rfl|ae
   .rw[JN]at I;cases I
   .exact rD.some b ae (aU.free I)
  have Jq:∀b,a7 b=none->b∉bc::M:=fun b e I=>ajL b I (Jp b e);have ZZ:∀(b:Addr)(o:cI),bI b=some o->(∀xs,o≠.ak xs)->(∀d f,o≠.au a.m8 d f)->(∀d f,o≠.au a.g9 d f)->b∉bc::M:=fun b o e ai aj bN I=>by
   rcases dG.mp I with rfl|ae
   .rw[b4 _ _ nk]at e;cases e;exact bN _ _ z
   .have anC:b≠bc:=fun y=>by rw[y,b4 _ _ nk]at e;cases e;exact bN _ _ z
    have up:∀fm,H b=some fm->bI b=some fm:=fun fm q=>b4 _ _ (Q5 _ _ (aU _ _ q) (by simpa using anC));rcases rD b ae with⟨xs,q⟩|⟨dx,bA,q⟩|⟨dx,bA,q⟩
    .rw[up _ q]at e;cases e;exact ai _ z
    .rw[up _ q]at e;cases e;exact aj _ _ z
    .rw[up _ q]at e;cases e;exact bN _ _ z
  have XI:=b4 _ _ (LF.obj.choose_spec);have QO:=b4 _ _ LF.qX;have as7:bw∉bc::M:=fun I=>by
   rcases dG.mp I with rfl|ae
   .rw[b4 _ _ nk]at QO;cases QO
   .exact rD.some bw ae BS
  have agu:dm∉bc::M:=ZZ dm _ XI (fun xs I=>by cases I) (fun d f I=>by injection I with q _ _;exact jZ T.aH 12 15 (by decide) z z q) (fun d f I=>by injection I with q _ _;exact jZ T.aH 12 16 (by decide) z z q);have ajF:q4 a (minus bI (bc::M)) av bx (Z.uB c):=by
   refine⟨by rw[Cq (Jq av LC.1)];exact eF.ak,eF.len,fun i bV b ej c6=>?_⟩;obtain⟨dK,b7,b8,ai,aj,bN⟩:=eF.at_ i bV b ej c6;have tV:=jc ej;refine⟨dK,b7,b8,by rw[Cq (Jq bV (LC.2.1 bV tV))];exact ai,by rw[Cq (Jq b7 (LC.2.2 bV tV dK b7 _ _ ai))];exact aj,bF.Paired.nI (fun t y e=>?_) bN⟩;rw[Cq (ZZ t _ e (fun xs I=>by cases I) (fun d f I=>by cases I) (fun d f I=>by cases I))];exact e
  have aqf:be (minus bI (bc::M)) (V (V b6 bc (.au a.g9 fW (i4 (.ref dm) (.ref ah)))) q (.ak [.int 0])):=by
   refine cj (qU (fun b o e=>eo _ _ (Rv _ _ e)) (MJ iO)) ?_;cases I:minus bI (bc::M) q with
   |none=>rfl
   |some o=>have:=Rv _ _ I;rw[eo.free Cf]at this;cases this
  refine k c vp _ q ah ?_ (.kG (s:=⟨c,none,0,0⟩) (fW:=fW) (a8:=a8) (G:=minus bI (bc::M)) ?_ aqf (fun b ae=>MJ (gz _ ae)) (MJ iO) ?_ (by rw[Cq agu];exact XI) (by rw[Cq as7];exact QO) ajF F ⟨.int 0,.int 0,.int 0,?_⟩) (aU.free aW) aP
  .intro b o e qm;simp at qm;have dQ:=eo _ _ (b4 _ _ (Q5 _ _ (aU _ _ e) (by simpa using qm)));rw[aK (eI dQ Cf),aK qm];exact dQ
  .rw[aK (bC wF),aP]
  .have:minus bI (bc::M) ah=none:=by
    cases I:minus bI (bc::M) ah with
    |none=>rfl
    |some o=>have:=Rv _ _ I;rw[aq]at this;cases this
   exact this
  .rw[aK (eI Bf Cf),aK (bC anO)];exact Bf
end
def Bu(K:Frag)(aC:Addr)(xs:List aa):Prop:=∃(o:Obj)(bK:Array Value)(n:Nat),K.lookup aC=some o/\o.cls=.type "list"/\o.dict=none/\o.data=.seq bK n/\bK.size<=sizeLine/\eS xs bK.toList
theorem NO{K:Frag}{H:aA}{aC p:Addr}{xs:List aa}{o:cI}(h:bj K H aC xs)(n:aC≠p\/Bu K aC xs):bj K (V H p o) aC xs:=by
 rcases n with n|n
 .rcases h with(I|⟨o,I⟩)|I
  .exact .inl (.inl (by rw[aK n];exact I))
  .exact .inl (.inr ⟨o,by rw[aK n];exact I⟩)
  .exact .inr I
 .exact .inr n
section
variable{P:Program}{w:World}{K:Frag}{az:Str->Option Value}{base:Heap}{a:bU}
def asf(K:Frag)(a:bU):dj:=fun vs H Q _=>∃(p dx aC:Addr)(l:List Int)(i n:Nat),vs=[.ref p]/\H p=some (eA a dx aC i)/\(aC≠p\/Bu K aC (au l))/\bj K H aC (au l)/\l[i]?=some (n:Int)/\i+1+n<=l.length/\
 ∀q,H q=none->Q (.ref q) (V (V H p (eA a dx aC (i+1+n))) q (.ak (au ((l.drop (i+1)).take n))))
theorem EB(T:Txt K az a):cZ P w K az base (cW P w) 2 a.HQ a.Ga ["self"] (asf K a):=by
 refine T.aij.dZ S9 (fun vs H Q E h=>?_) (fun cJ A outer s H vs Q E aO h=>?_)
 .obtain⟨p,dx,aC,l,i,n,rfl,_⟩:=h;rfl
 .obtain⟨p,dx,aC,l,i,n,rfl,aN,wg,aG,br,aD,k⟩:=h;refine⟨_,bh (dU (i:=1) S9.aH z (Or.inl z) (iC (af 0) T.lU T.Co (CD T) aO T.BC .nil bZ))
   (bh (dU (i:=2) S9.aH z (Or.inl z) (bG (af 0) z))
   (bh (f5 (af 0) (f9 kH (af 2) (af 1)) z)
   (bl (di (Na NK (bG (af 0) z) (KI (af 2)) (KI (bG (af 0) z))))))),?_⟩
  refine⟨_,z,p,dx,_,z,aN,v9,p,dx,aC,l,i,n,z,aN,aG,br,?_⟩;refine⟨_,z,p,_,dx,_,_,z,aP,T.lU,T.AJ,Fq,?_⟩;refine⟨_,z,_,z,_,_,z,z,_,z,p,_,dx,_,z,aP,T.lU,T.AJ,(by show 2<1000;decide),?_⟩;rw[jz,UF];have ay:((i+1:Nat):Int)+(n:Int)=((i+1+n:Nat):Int):=by omega
  have aq:V H p (cI.au a.m8 dx (sj (aa.ref aC) ((fun i j=>aa.int (i+j)) ((i+1:Nat):Int) (n:Int))))=V H p (eA a dx aC (i+1+n)):=by
   show V H p (cI.au a.m8 dx (sj (aa.ref aC) (aa.int (((i+1:Nat):Int)+(n:Int)))))=_;rw[ay]
  rw[aq];refine⟨_,z,p,_,dx,_,_,z,aP,T.lU,T.ML,Of,_,z,_,z,_,z,p,_,dx,_,_,z,aP,T.lU,T.AJ,Fq,_,z,aC,au l,z,?_,fun q a9=>?_⟩
  .exact NO aG wg
  .obtain⟨_,bf⟩:=e8 a9;rw[ag5 (au l) (by rw[J3];exact aD)];have:=k q bf;unfold au at this⊢;rw[List.map_take,List.map_drop]at this;exact this
end
theorem J2{l:List Int}(h:l.all (fun I=>CzNeutral.natural I 8)=true):au l=gM (CzNeutral.text l):=by
 unfold au gM CzNeutral.text;rw[map_map];refine List.map_congr_left fun I bR=>?_;have:=zJ.mp h I bR;unfold CzNeutral.natural at this;simp only[jA,tB]at this;obtain⟨ai,aj⟩:=this
 have bN:I.toNat<256:=by have:(2:Int)^8=256:=by decide
                         omega
 show aa.int I=aa.int ((UInt8.ofNat I.toNat).toNat:Nat);rw[Z.u8 bN]
 congr 1
 omega
theorem K1(l:List Int):(CzNeutral.text l).length=l.length:=by unfold CzNeutral.text;rw[cA]
theorem alz{l:List Int}(h:∀I∈l,0<=I):au l=c8 (CzNeutral.nats l):=by
 unfold au c8 CzNeutral.nats;rw[map_map];refine List.map_congr_left fun I bR=>?_;have:=h I bR;show aa.int I=aa.int (I.toNat:Nat)
 congr 1
 omega
theorem tQ{l r:List Int}{j:Nat}{x:Int}(h:l.drop j=x::r):l[j]?=some x/\l.drop (j+1)=r/\j<l.length:=by
 have bQ:j<l.length:=by
  rcases Ff j l.length with q|q
  .exact q
  .rw[List.drop_eq_nil_of_le q]at h;cases h
 rw[List.drop_eq_getElem_cons bQ]at h;injection h with ai aj
 exact⟨by rw[gA bQ,ai],aj,bQ⟩
section
variable{P:Program}{w:World}{K:Frag}{az:Str->Option Value}{base:Heap}{a:bU}
def nC(a:bU):List Addr:=[a.jD,a.tP,a.BI,a.xd,a.BH]
def sC(a:bU)(H:aA)(ah:Addr):Prop:=∃dx bA,H ah=some (.au a.fK dx bA)\/H ah=some (.au a.g9 dx bA)
structure T8(a:bU)(H:aA)(bc ah bE aC b3:Addr)(M:List Addr)(st:Closurize.State)(y:Closurize.State×List Int)(e:Nat)(Q:gc)(E:jQ):Prop where
 ok:∀H' q gm,aV [bE,bc,ah] H H'->H' bE=some (eA a b3 aC e)->jm a H' bc M gm y.1->sC a H' gm->H q=none->H' q=some (.ak (au y.2))->Q (.ref q) H'
 no:y=(st,[-1])->∀C∈nC a,∀H',aV [bE,bc,ah] H H'->H' bE=some (eA a b3 aC e)->jm a H' bc M ah st->sC a H' ah->E (.ref C) none H'
theorem jm.obj{H:aA}{bc ah:Addr}{M:List Addr}{st:Closurize.State}(h:jm a H bc M ah st):∃fW b5 bL,H bc=some (.au a.g9 fW (i4 b5 bL)):=by
 cases h with
 |mV h=>exact⟨_,_,_,h⟩
 |kG h=>exact⟨_,_,_,h⟩
theorem SO(s:Closurize.Machine)(al:Nat)(r:Cz.CEnd):CzNeutral.rowOf (Closurize.ends s al r).2=[(Closurize.ends s al r).2.ret]:=by
 rcases r with e|⟨v,m⟩
 .rfl
 .cases v<;>rfl
theorem V9{H':aA}{bc ah:Addr}{M:List Addr}{s:Closurize.Machine}{n:Nat}{r:Cz.CEnd}(fz:jm a H' bc M ah (Closurize.ends s n r).1):sC a H' ah:=by
 generalize iR:(Closurize.ends s n r).1=qV at fz;cases fz with
 |mV _=>
  rcases r with e|⟨v,m⟩
  .cases iR
  .cases v<;>cases iR
 |kG _ _ _ _ _ _ _ _ _ I=>
  obtain⟨_,_,_,_,q⟩:=K9 I;exact⟨_,_,.inl q⟩
def ac8(K:Frag)(a:bU):dj:=fun vs H Q E=>∃(bc ah bE aC b3:Addr)(M:List Addr)(st:Closurize.State)(l t:List Int)(j:Nat)(p:Int)(c:List (List Int)),vs=[.ref bc,.int p,.ref bE]/\jm a H bc M ah st/\sC a H ah/\yr a H M/\bE∈M/\bc∉M/\H bE=some (eA a b3 aC j)/\(aC≠bE\/Bu K aC (au l))/\bj K H aC (au l)/\l.length<=100000/\j<=l.length/\
 Z.nA (p::l.drop j) c t/\5<=p/\CzNeutral.asked1 c=true/\T8 a H bc ah bE aC b3 M st (CzNeutral.step st c) (l.length -t.length) Q E
theorem acK:dP ["machine","call","line","number"] ["machine","call","line"] (cT ab3):=by trivial
theorem aoi(T:Txt K az a):cZ P w K az base (cW P w) 9 a.IA a.GK ["machine","call","line"] (ac8 K a):=by
 refine T.Ww.dZ acK (fun vs H Q E h=>?_) (fun cJ A outer s H vs Q E aO h=>?_)
 .obtain⟨bc,ah,bE,aC,b3,M,st,l,t,j,p,c,rfl,_⟩:=h;rfl
 .obtain⟨bc,ah,bE,aC,b3,M,st,l,t,j,p,c,rfl,aM,hw,rD,Av,DZ,jH,tL,aG,aD,lJ,B9,aN,has,se⟩:=h;have l7:sizeLine=16777216:=gU;refine⟨_,(bh (d7 (dN e9 (af 1) (cH T.ajb) (dH _)) (bl (di (qN (af 0) T.jE T.amr (aoE T) aO.dw T.afu .nil bZ (aE (iC (af 2) T.lU T.Em (EB T) aO.dw T.Dy .nil bZ) aY)))) fH)
   (bh (d7 (dN e9 (af 1) (cH T.ajo) (dH _)) (bl (di (iC (af 0) T.jE T.ams (aoQ T) aO.dw T.afv .nil bZ))) fH)
   (bh (d7 (dN e9 (af 1) (cH T.ajt) (dH _)) (bl (di (qN (af 0) T.jE T.amv (aoH T) aO.dw T.afy .nil bZ (aE (iC (af 2) T.lU T.Co (CD T) aO.dw T.BC .nil bZ) aY)))) fH)
   (bh (d7 (dN e9 (af 1) (cH T.ajq) (dH _)) (bl (di (qN (af 0) T.jE T.amu (aoG T) aO.dw T.afx .nil bZ (aE (iC (af 2) T.lU T.Co (CD T) aO.dw T.BC .nil bZ) aY)))) fH)
   (bh (d7 (dN e9 (af 1) (cH T.ai4) (dH _)) (bh (dU (i:=3) acK.aH z (Or.inl z) (iC (af 2) T.lU T.Co (CD T) aO.dw T.BC .nil bZ)) (bl (di (qN (af 0) T.jE T.amn (aoA T) aO.dw T.afq .nil bZ (aE (af 3) (aE (iC (af 2) T.lU T.Co (CD T) aO.dw T.BC .nil bZ) aY)))))) fH)
   (bh (d7 (dN e9 (af 1) (cH T.ajp) (dH _)) (bl (di (iC (af 0) T.jE T.amt (aoF T) aO.dw T.afw .nil bZ))) fH)
   (bh (d7 (dN e9 (af 1) (cH T.ai5) (dH _)) (bl (di (iC (af 0) T.jE T.amo (aoB T) aO.dw T.afr .nil bZ))) fH)
   (bh (d7 (dN e9 (af 1) (cH T.ai6) (dH _)) (bl (di (iC (af 0) T.jE T.amq (aoC T) aO.dw T.afs .nil bZ))) fH)
   (bl (qQ gT z T.amD T.ahM)))))))))),?_⟩
  obtain⟨fW,b5,bL,yW⟩:=aM.obj;have Cv:bc≠bE:=fun I=>DZ (by rw[I];exact Av);have CB:ah≠bE:=fun I=>by
   obtain⟨dx,bA,q|q⟩:=hw
   .rw[I,jH]at q;have:=j7 q;injection this with q _ _
    exact jZ T.aH 15 11 (by decide) z z q
   .rw[I,jH]at q;have:=j7 q;injection this with q _ _
    exact jZ T.aH 15 16 (by decide) z z q
  have xM:∀i,jm a (V H bE (eA a b3 aC i)) bc M ah st:=fun i=>aM.keep (N:=[bE]) (aV.refl.V (.inl (by simp))) (fun b ae=>by simp at ae;rw[ae];exact Av) (by simpa using Cv) (fun _=>by simpa using CB);have ZC:∀i,V H bE (eA a b3 aC i) bc=some (.au a.g9 fW (i4 b5 bL)):=fun i=>by rw[aK Cv];exact yW
  have C7:∀i,sC a (V H bE (eA a b3 aC i)) ah:=fun i=>by
   obtain⟨dx,bA,q⟩:=hw;exact⟨dx,bA,by rw[aK CB];exact q⟩
  have vG:∀i,yr a (V H bE (eA a b3 aC i)) M:=fun i b ae=>by
   by_cases I:b=bE
   .exact .inr (.inl ⟨_,_,by rw[I];exact aP⟩)
   .rw[aK I];exact rD b ae
  have xH:∀i,aV [bE,bc,ah] H (V H bE (eA a b3 aC i)):=fun i=>aV.refl.V (.inl (by simp));have EI:∀(i:Nat),i=l.length -t.length->CzNeutral.step st c=(st,[-1])->∀C∈nC a,E (.ref C) none (V H bE (eA a b3 aC i)):=fun i aF bu C li=>se.no bu C li _ (xH i) (by rw[<-aF];exact aP) (xM i) (C7 i);have CO:j=l.length -t.length->CzNeutral.step st c=(st,[-1])->∀C∈nC a,E (.ref C) none H:=fun bQ bu C li=>se.no bu C li H aV.refl (by rw[<-bQ];exact jH) aM hw;generalize mz:l.drop j=rest at B9;have Ej:rest.length=l.length -j:=by rw[<-mz,oE]
  cases B9 with
  |@mean=>exact absurd aN (by decide)
  |@row _ n r ai aj bN=>
   have f7:p=5:=by omega
   subst f7;obtain⟨br,xA,XT⟩:=tQ mz;obtain⟨cF,rfl⟩:∃cF:Nat,n=(cF:Int):=⟨n.toNat,by omega⟩;rw[uq]at*;rw[c9]at Ej;have kQ:j+1+cF<=l.length:=by omega
   have i8:j+1+cF=l.length -(r.drop cF).length:=by rw[oE];omega
   refine⟨_,z,z,_,z,lZ z ⟨_,z,bc,fW,_,z,yW,aeA,_,z,bE,b3,_,z,jH,Dq,bE,b3,aC,l,j,cF,z,jH,tL,aG,br,kQ,fun q a9=>?_⟩⟩;rw[xA];have Az:V H bE (eA a b3 aC (j+1+cF)) q=none:=by rw[aK (bC (eI jH a9))];exact a9
   have yO:(r.take cF).all (fun I=>CzNeutral.natural I 8)=true:=has;rw[J2 yO];have iD:be (V H bE (eA a b3 aC (j+1+cF))) (V (V H bE (eA a b3 aC (j+1+cF))) q (.ak (gM (CzNeutral.text (r.take cF))))):=cj (be.refl _) Az;have Ay:V (V H bE (eA a b3 aC (j+1+cF))) q (.ak (gM (CzNeutral.text (r.take cF)))) q=some (.ak (gM (CzNeutral.text (r.take cF)))):=aP;have MA:aV [bE,bc,ah] H (V (V H bE (eA a b3 aC (j+1+cF))) q (.ak (gM (CzNeutral.text (r.take cF))))):=(xH _).trans (aV.refl.V (.inr Az));have JM:=iD _ _ (show V H bE (eA a b3 aC (j+1+cF)) bE=some (eA a b3 aC (j+1+cF))from aP);have ZD:=(xM (j+1+cF)).same iD;have QB:=iD _ _ (ZC (j+1+cF));have TY:sC a (V (V H bE (eA a b3 aC (j+1+cF))) q (.ak (gM (CzNeutral.text (r.take cF))))) ah:=by
    obtain⟨dx,bA,I|I⟩:=C7 (j+1+cF)
    .exact⟨dx,bA,.inl (iD _ _ I)⟩
    .exact⟨dx,bA,.inr (iD _ _ I)⟩
   have aaA:yr a (V (V H bE (eA a b3 aC (j+1+cF))) q (.ak (gM (CzNeutral.text (r.take cF))))) M:=fun b ae=>by
    rcases vG (j+1+cF) b ae with⟨xs,I⟩|⟨dx,bA,I⟩|⟨dx,bA,I⟩
    .exact .inl ⟨xs,iD _ _ I⟩
    .exact .inr (.inl ⟨dx,bA,iD _ _ I⟩)
    .exact .inr (.inr ⟨dx,bA,iD _ _ I⟩)
   generalize V (V H bE (eA a b3 aC (j+1+cF))) q (.ak (gM (CzNeutral.text (r.take cF))))=aI at iD Ay MA JM ZD QB TY aaA⊢;rw[i8]at JM;refine⟨bc,fW,q,b5,bL,M,CzNeutral.text (r.take cF),z,QB,aaA,Ay,(by rw[K1,u0];omega),fun vp H' nv=>?_,fun rz vp H' eW gm gh xJ qJ c5=>?_⟩
   .have bu:CzNeutral.step st [[5],r.take cF]=(st,[-1]):=by
     unfold CzNeutral.step;simp only[CzNeutral.callOf,Closurize.step,vp];rfl
    refine se.no bu a.jD (by simp[nC]) H' (MA.trans nv.gh) (nv _ _ JM) (ZD.same nv) ?_;obtain⟨dx,bA,I|I⟩:=TY
    .exact⟨dx,bA,.inl (nv _ _ I)⟩
    .exact⟨dx,bA,.inr (nv _ _ I)⟩
   .have bu:CzNeutral.step st [[5],r.take cF]=(some ⟨rz,none,0,0⟩,[0]):=by
     unfold CzNeutral.step;simp only[CzNeutral.callOf,Closurize.step,vp];rfl
    have ok:=se.ok;rw[bu]at ok;have anK:bE∉[bc]:=by simpa using bC Cv
    refine ok H' eW gm (MA.trans (gh.c7 (by simp))) (gh _ _ JM anK) xJ ?_ (MA.fresh qJ (fun b ae=>?_)) c5
    .cases xJ with
     |kG _ _ _ _ _ _ _ _ _ I=>
      obtain⟨_,_,_,_,I⟩:=K9 I;exact⟨_,_,.inl I⟩
    .simp at ae;rcases ae with rfl|rfl|rfl
     .exact⟨_,JM⟩
     .exact⟨_,QB⟩
     .obtain⟨dx,bA,I|I⟩:=TY
      .exact⟨_,I⟩
      .exact⟨_,I⟩
  |@plain _ _ ai=>
   have i8:j=l.length -t.length:=by omega
   have fin:∀(v:List aa)(q:Addr),H q=none->(CzNeutral.step st [[p]]).1=st->v=au (CzNeutral.step st [[p]]).2->Q (.ref q) (V H q (.ak v)):=fun v q a9 ay aq=>by
    have iD:be H (V H q (.ak v)):=cj (be.refl _) a9;refine se.ok _ q ah iD.gh (by rw[<-i8];exact iD _ _ jH) (by rw[ay];exact aM.same iD) ?_ a9 (by rw[aP,aq]);obtain⟨dx,bA,I|I⟩:=hw
    .exact⟨dx,bA,.inl (iD _ _ I)⟩
    .exact⟨dx,bA,.inr (iD _ _ I)⟩
   rcases ai with rfl|rfl|rfl|rfl
   .refine⟨_,z,z,_,z,cu (cK (by decide)) ⟨_,z,z,_,z,lZ z ⟨_,z,bc,fW,_,z,yW,aeB,bc,ah,M,st,z,aM,fun e=>?_,fun aZ e q a9=>?_⟩⟩⟩
    .subst e;exact CO i8 z _ (by simp[nC])
    .subst e;exact fin _ q a9 z z
   .refine⟨_,z,z,_,z,cu (cK (by decide)) ⟨_,z,z,_,z,cu (cK (by decide)) ⟨_,z,z,_,z,cu (cK (by decide)) ⟨_,z,z,_,z,cu (cK (by decide)) ⟨_,z,z,_,z,cu (cK (by decide)) ⟨_,z,z,_,z,lZ z ⟨_,z,bc,fW,_,z,yW,aeC,bc,ah,M,st,z,aM,fun e=>?_,fun aZ e=>?_⟩⟩⟩⟩⟩⟩⟩
    .subst e;exact CO i8 z _ (by simp[nC])
    .subst e;refine⟨fun aD=>CO i8 ?_ _ (by simp[nC]),fun y aD q a9=>fin _ q a9 z ?_,fun p l aD q a9=>fin _ q a9 z ?_⟩
     .unfold CzNeutral.step;simp only[CzNeutral.callOf,Closurize.step,Closurize.onMachine,aD];rfl
     .unfold CzNeutral.step;simp only[CzNeutral.callOf,Closurize.step,Closurize.onMachine,aD];rfl
     .unfold CzNeutral.step;simp only[CzNeutral.callOf,Closurize.step,Closurize.onMachine,aD];rfl
   .refine⟨_,z,z,_,z,cu (cK (by decide)) ⟨_,z,z,_,z,cu (cK (by decide)) ⟨_,z,z,_,z,cu (cK (by decide)) ⟨_,z,z,_,z,cu (cK (by decide)) ⟨_,z,z,_,z,cu (cK (by decide)) ⟨_,z,z,_,z,cu (cK (by decide)) ⟨_,z,z,_,z,lZ z ⟨_,z,bc,fW,_,z,yW,aey,bc,ah,M,st,z,aM,fun e=>?_,fun aZ e=>?_⟩⟩⟩⟩⟩⟩⟩⟩
    .subst e;exact CO i8 z _ (by simp[nC])
    .subst e;refine⟨fun aD=>CO i8 ?_ _ (by simp[nC]),fun aD q a9=>fin _ q a9 z ?_⟩
     .unfold CzNeutral.step;simp only[CzNeutral.callOf,Closurize.step,Closurize.onMachine,aD];rfl
     .have:aZ.last.isSome=true:=by cases I:aZ.last with
       |none=>exact absurd I aD
       |some _=>rfl
      unfold CzNeutral.step;simp only[CzNeutral.callOf,Closurize.step,Closurize.onMachine,this];rfl
   .refine⟨_,z,z,_,z,cu (cK (by decide)) ⟨_,z,z,_,z,cu (cK (by decide)) ⟨_,z,z,_,z,cu (cK (by decide)) ⟨_,z,z,_,z,cu (cK (by decide)) ⟨_,z,z,_,z,cu (cK (by decide)) ⟨_,z,z,_,z,cu (cK (by decide)) ⟨_,z,z,_,z,cu (cK (by decide)) ⟨_,z,z,_,z,lZ z ⟨_,z,bc,fW,_,z,yW,aez,bc,ah,M,st,z,aM,fun e=>?_,fun aZ e=>?_⟩⟩⟩⟩⟩⟩⟩⟩⟩
    .subst e;exact CO i8 z _ (by simp[nC])
    .subst e;refine⟨fun aD=>CO i8 ?_ _ (by simp[nC]),fun aD q a9=>fin _ q a9 z ?_⟩
     .unfold CzNeutral.step;simp only[CzNeutral.callOf,Closurize.step,Closurize.onMachine,aD];rfl
     .have:aZ.last.isSome=true:=by cases I:aZ.last with
       |none=>exact absurd I aD
       |some _=>rfl
      unfold CzNeutral.step;simp only[CzNeutral.callOf,Closurize.step,Closurize.onMachine,this];rfl
  |@pQ _ x r ai=>
   obtain⟨Y,xA,XT⟩:=tQ mz;rw[c9]at Ej;have i8:j+1=l.length -t.length:=by omega
   have bg:0<=x:=by
    rcases ai with rfl|rfl
    .have:CzNeutral.natural x 32=true:=has;unfold CzNeutral.natural at this;simp only[jA,tB]at this;exact this.1
    .have:(decide (0<=x)&&decide (x<=2000))=true:=has;simp only[jA,tB]at this;exact this.1
   obtain⟨n,rfl⟩:∃n:Nat,x=(n:Int):=⟨x.toNat,by omega⟩;have Au:V H bE (eA a b3 aC (j+1)) bE=some (eA a b3 aC (j+1)):=aP;have LY:∀q,V H bE (eA a b3 aC (j+1)) q=none->H q=none:=fun q e=>(e8 e).2;rcases ai with rfl|rfl
   .refine⟨_,z,z,_,z,cu (cK (by decide)) ⟨_,z,z,_,z,cu (cK (by decide)) ⟨_,z,z,_,z,lZ z ⟨_,z,bc,fW,_,z,yW,aeE,_,z,bE,b3,_,z,jH,v9,bE,b3,aC,l,j,_,z,jH,aG,Y,bc,ah,M,st,n,z,xM _,fun e=>?_,fun aZ e=>?_⟩⟩⟩⟩
    .subst e;exact EI (j+1) i8 z _ (by simp[nC])
    .subst e;refine⟨fun aN=>EI (j+1) i8 ?_ _ (by simp[nC]),fun fC aN q a9=>?_⟩
     .unfold CzNeutral.step;simp only[CzNeutral.callOf,Closurize.step,Closurize.onMachine,uq,aN];rfl
     .have bu:CzNeutral.step (some aZ) [[7,(n:Int)]]=(some aZ,[(fC.takes:Int)]):=by
       unfold CzNeutral.step;simp only[CzNeutral.callOf,Closurize.step,Closurize.onMachine,uq,aN];rfl
      have ok:=se.ok;rw[bu]at ok;have iD:be (V H bE (eA a b3 aC (j+1))) (V (V H bE (eA a b3 aC (j+1))) q (.ak [.int (fC.takes:Int)])):=cj (be.refl _) a9;refine ok _ q ah ((xH _).trans iD.gh) (by rw[<-i8];exact iD _ _ Au) ((xM _).same iD) ?_ (LY q a9) aP;obtain⟨dx,bA,I|I⟩:=C7 (j+1)
      .exact⟨dx,bA,.inl (iD _ _ I)⟩
      .exact⟨dx,bA,.inr (iD _ _ I)⟩
   .refine⟨_,z,z,_,z,cu (cK (by decide)) ⟨_,z,z,_,z,cu (cK (by decide)) ⟨_,z,z,_,z,cu (cK (by decide)) ⟨_,z,z,_,z,lZ z ⟨_,z,bc,fW,_,z,yW,aeD,_,z,bE,b3,_,z,jH,v9,bE,b3,aC,l,j,_,z,jH,aG,Y,bc,ah,M,st,n,z,xM _,(vG _).some,fun e=>?_,fun aZ e H' q gh xJ a9 c5=>?_⟩⟩⟩⟩⟩
    .subst e;exact EI (j+1) i8 z _ (by simp[nC])
    .subst e;have bu:CzNeutral.step (some aZ) [[8,(n:Int)]]=((Closurize.ends aZ n (Cz.evalC aZ.code Cz.GAS 0 Cz.mainPlace aZ.code.main ⟨n,0⟩)).1,[(Closurize.ends aZ n (Cz.evalC aZ.code Cz.GAS 0 Cz.mainPlace aZ.code.main ⟨n,0⟩)).2.ret]):=by
      unfold CzNeutral.step;simp only[CzNeutral.callOf,Closurize.step,Closurize.onMachine,uq];rw[SO]
     have ok:=se.ok;rw[bu]at ok;have kF:bE∉[ah]:=by simpa using bC CB
     refine ok H' q ah ((xH _).trans (gh.c7 (by simp))) (by rw[<-i8];exact gh _ _ Au kF) xJ (V9 xJ) (LY q a9) c5
  |@fS x y r=>
   obtain⟨Y,xA,XT⟩:=tQ mz;obtain⟨alh,Qk,auJ⟩:=tQ xA;rw[c9,c9]at Ej;have i8:j+2=l.length -t.length:=by omega
   have ae:0<=x/\x<2^32/\0<=y:=by
    have:(CzNeutral.natural x 32&&decide (0<=y)&&decide (y<=2000))=true:=has;unfold CzNeutral.natural at this;simp only[jA,tB]at this;exact⟨this.1.1.1,this.1.1.2,this.1.2⟩
   obtain⟨n,rfl⟩:∃n:Nat,x=(n:Int):=⟨x.toNat,by omega⟩;obtain⟨m,rfl⟩:∃m:Nat,y=(m:Int):=⟨y.toNat,by omega⟩;have akC:n<Cz.WORD:=by
    have aj:=ae.2.1;have:(2:Int)^32=4294967296:=by decide
    rw[this]at aj;show n<4294967296;omega
   have Bd:V (V H bE (eA a b3 aC (j+1))) bE (eA a b3 aC (j+1+1))=V H bE (eA a b3 aC (j+2)):=jz;have Au:V H bE (eA a b3 aC (j+2)) bE=some (eA a b3 aC (j+2)):=aP;have LY:∀q,V H bE (eA a b3 aC (j+2)) q=none->H q=none:=fun q e=>(e8 e).2;have oW:bj K (V H bE (eA a b3 aC (j+1))) aC (au l):=NO aG tL;refine⟨_,z,z,_,z,cu (cK (by decide)) ⟨_,z,z,_,z,cu (cK (by decide)) ⟨_,z,z,_,z,cu (cK (by decide)) ⟨_,z,z,_,z,cu (cK (by decide)) ⟨_,z,z,_,z,lZ z ⟨_,z,bE,b3,_,z,jH,v9,bE,b3,aC,l,j,_,z,jH,aG,Y,_,z,bc,fW,_,z,ZC _,aex,_,z,_,z,bE,b3,_,z,aP,v9,bE,b3,aC,l,j+1,_,z,aP,oW,alh,?_⟩⟩⟩⟩⟩⟩;rw[Bd];refine⟨bc,ah,M,st,n,m,z,xM _,(vG _).some,akC,fun e=>?_,fun aZ e=>?_⟩
   .subst e;exact EI (j+2) i8 z _ (by simp[nC])
   .subst e;refine⟨fun aD=>EI (j+2) i8 ?_ _ (by simp[nC]),fun y aD=>EI (j+2) i8 ?_ _ (by simp[nC]),fun p oh aD H' q gh xJ a9 c5=>?_⟩
    .unfold CzNeutral.step;simp only[CzNeutral.callOf,Closurize.step,Closurize.onMachine,aD];rfl
    .unfold CzNeutral.step;simp only[CzNeutral.callOf,Closurize.step,Closurize.onMachine,aD];rfl
    .have bu:CzNeutral.step (some aZ) [[9,(n:Int),(m:Int)]]=((Closurize.ends aZ m (Cz.applyC aZ.code (.fn p oh) n ⟨m,aZ.cells⟩)).1,[(Closurize.ends aZ m (Cz.applyC aZ.code (.fn p oh) n ⟨m,aZ.cells⟩)).2.ret]):=by
      unfold CzNeutral.step;simp only[CzNeutral.callOf,Closurize.step,Closurize.onMachine,uq,aD];rw[SO]
     have ok:=se.ok;rw[bu]at ok;have kF:bE∉[ah]:=by simpa using bC CB
     exact ok H' q ah ((xH _).trans (gh.c7 (by simp))) (by rw[<-i8];exact gh _ _ Au kF) xJ (V9 xJ) (LY q a9) c5
end
section
variable{P:Program}{w:World}{K:Frag}{az:Str->Option Value}{base:Heap}{a:bU}
theorem sC.same{H H':aA}{ah:Addr}(h:sC a H ah)(s:be H H'):sC a H' ah:=by
 obtain⟨dx,bA,I|I⟩:=h
 .exact⟨dx,bA,.inl (s _ _ I)⟩
 .exact⟨dx,bA,.inr (s _ _ I)⟩
theorem Q2(l:List Nat):au (l.map fun(n:Nat)=>(n:Int))=c8 l:=by
 unfold au c8;rw[map_map];rfl
theorem apW(t:Cz.Term):CzNeutral.rowOf ⟨((Cz.compiled t).bytes.length:Int),[],(Cz.compiled t).bytes⟩=((xh t).length::xh t).map fun(n:Nat)=>(n:Int):=by
 unfold CzNeutral.rowOf xh Z.nums;simp
theorem apX(t:Cz.Term):CzNeutral.rowOf (Closurize.tells ((Cz.compiled t).procs.map fun p=>p.takes).length ((Cz.compiled t).procs.map fun p=>p.takes))=((nQ t).length::nQ t).map fun(n:Nat)=>(n:Int):=by
 have e:((Cz.compiled t).procs.map fun p=>p.takes)=nQ t:=Z.qY t [] 0 0;rw[e];unfold CzNeutral.rowOf Closurize.tells;simp
theorem abc(S:List (List Nat)):CzNeutral.rowOf (Closurize.tells S.length S.flatten)=(S.length::S.flatten).map fun(n:Nat)=>(n:Int):=by
 unfold CzNeutral.rowOf Closurize.tells;simp
def aro(K:Frag)(a:bU):dj:=fun vs H Q E=>∃(bc ah bE aC b3:Addr)(M:List Addr)(st:Closurize.State)(l t:List Int)(j:Nat)(c:List (List Int)),vs=[.ref bc,.ref bE]/\jm a H bc M ah st/\sC a H ah/\yr a H M/\bE∈M/\bc∉M/\H bE=some (eA a b3 aC j)/\(aC≠bE\/Bu K aC (au l))/\bj K H aC (au l)/\l.length<=100000/\j<=l.length/\
 Z.nA (l.drop j) c t/\CzNeutral.asked1 c=true/\T8 a H bc ah bE aC b3 M st (CzNeutral.step st c) (l.length -t.length) Q E
theorem NC:dP ["machine","line","call","allowed","data"] ["machine","line"] (cT ab2):=by trivial
theorem aoh(T:Txt K az a):cZ P w K az base (cW P w) 10 a.Iz a.GJ ["machine","line"] (aro K a):=by
 refine T.Wv.dZ NC (fun vs H Q E h=>?_) (fun cJ A outer s H vs Q E aO h=>?_)
 .obtain⟨bc,ah,bE,aC,b3,M,st,l,t,j,c,rfl,_⟩:=h;rfl
 .obtain⟨bc,ah,bE,aC,b3,M,st,l,t,j,c,rfl,aM,hw,rD,Av,DZ,jH,tL,aG,aD,lJ,B9,has,se⟩:=h;have l7:sizeLine=16777216:=gU;refine⟨_,bh (dU (i:=2) NC.aH z (Or.inl z) (iC (af 1) T.lU T.Co (CD T) aO.dw T.BC .nil bZ))
   (bh (d7 (dN e9 (af 2) (cH T.ai7) (dH _)) (bl (di (fU (aoo T) aO.dw z T.amL T.WA.cN T.afJ .nil bZ (aE (iC (af 1) T.lU T.Em (EB T) aO.dw T.Dy .nil bZ) aY)))) fH)
   (bh (d7 (dN e9 (af 2) (cH T.ai9) (dH _)) (bl (di (fU (aor T) aO.dw z T.amO T.WD.cN T.afM .nil bZ (aE (iC (af 1) T.lU T.Em (EB T) aO.dw T.Dy .nil bZ) aY)))) fH)
   (bh (d7 (dN e9 (af 2) (cH T.aju) (dH _)) (bl (di (fU (aoZ T) aO.dw z T.ane T.W4.cN T.agb .nil bZ (aE (iC (af 1) T.lU T.Em (EB T) aO.dw T.Dy .nil bZ) aY)))) fH)
   (bh (d7 (dN e9 (af 2) (cH T.ajc) (dH _))
    (bh (dU (i:=3) NC.aH z (Or.inl z) (iC (af 1) T.lU T.Co (CD T) aO.dw T.BC .nil bZ))
    (bh (dU (i:=4) NC.aH z (Or.inl z) (iC (af 1) T.lU T.Em (EB T) aO.dw T.Dy .nil bZ))
    (bl (di (fU (aoD T) aO z T.amX T.WN.cN T.afV .nil bZ (aE (af 3) (aE (af 4) (aE (iC (af 1) T.lU T.Em (EB T) aO.dw T.Dy .nil bZ) aY)))))))) fH)
   (bl (di (fU (aoi T) aO z T.amH T.Ww.cN T.afG .nil bZ (aE (af 0) (aE (af 2) (aE (af 1) aY)))))))))),?_⟩
  obtain⟨fW,b5,bL,yW⟩:=aM.obj;have Cv:bc≠bE:=fun I=>DZ (by rw[I];exact Av);have CB:ah≠bE:=fun I=>by
   obtain⟨dx,bA,q|q⟩:=hw
   .rw[I,jH]at q;have:=j7 q;injection this with q _ _
    exact jZ T.aH 15 11 (by decide) z z q
   .rw[I,jH]at q;have:=j7 q;injection this with q _ _
    exact jZ T.aH 15 16 (by decide) z z q
  have xM:∀i,jm a (V H bE (eA a b3 aC i)) bc M ah st:=fun i=>aM.keep (N:=[bE]) (aV.refl.V (.inl (by simp))) (fun b ae=>by simp at ae;rw[ae];exact Av) (by simpa using Cv) (fun _=>by simpa using CB);have C7:∀i,sC a (V H bE (eA a b3 aC i)) ah:=fun i=>by
   obtain⟨dx,bA,q⟩:=hw;exact⟨dx,bA,by rw[aK CB];exact q⟩
  have vG:∀i,yr a (V H bE (eA a b3 aC i)) M:=fun i b ae=>by
   by_cases I:b=bE
   .exact .inr (.inl ⟨_,_,by rw[I];exact aP⟩)
   .rw[aK I];exact rD b ae
  have xH:∀i,aV [bE,bc,ah] H (V H bE (eA a b3 aC i)):=fun i=>aV.refl.V (.inl (by simp));have Cb:∀i,bj K (V H bE (eA a b3 aC i)) aC (au l):=fun i=>NO aG tL;have fin:∀(e:Nat)(aI H':aA)(q:Addr)(v:List aa),e=l.length -t.length->be (V H bE (eA a b3 aC e)) aI->be aI H'->aI q=none->H' q=some (.ak v)->(CzNeutral.step st c).1=st->v=au (CzNeutral.step st c).2->Q (.ref q) H':=fun e aI H' q v cz aU bD a9 a6 ay aq=>by
   have pS:=aU.trans bD;refine se.ok H' q ah ((xH e).trans pS.gh) (by rw[<-cz];exact pS _ _ aP) (by rw[ay];exact(xM e).same pS) ((C7 e).same pS) (e8 (aU.free a9)).2 (by rw[a6,aq])
  have ref:∀(e:Nat)(H':aA),e=l.length -t.length->be (V H bE (eA a b3 aC e)) H'->CzNeutral.step st c=(st,[-1])->E (.ref a.jD) none H':=fun e H' cz aU bu=>
   se.no bu _ (by simp[nC]) H' ((xH e).trans aU.gh) (by rw[<-cz];exact aU _ _ aP) ((xM e).same aU) ((C7 e).same aU)
  generalize mz:l.drop j=rest at B9;have Ej:rest.length=l.length -j:=by rw[<-mz,oE]
  have Bd:∀i dX,V (V H bE (eA a b3 aC i)) bE (eA a b3 aC dX)=V H bE (eA a b3 aC dX):=fun i dX=>jz;have MD:∀(p:Int)(r:List Int),l.drop j=p::r->5<=p->Z.nA (p::r) c t->ac8 K a [.ref bc,.int p,.ref bE] (V H bE (eA a b3 aC (j+1))) Q E:=fun p r ay aq bB=>by
   obtain⟨_,dQ,f7⟩:=tQ ay;refine⟨bc,ah,bE,aC,b3,M,st,l,t,j+1,p,c,z,xM _,C7 _,vG _,Av,DZ,aP,tL,Cb _,aD,f7,by rw[dQ];exact bB,aq,has,⟨fun H' q gm aW bf df e7 k6 oj=>se.ok H' q gm ((xH _).trans aW) bf df e7 (e8 k6).2 oj,fun bu C li H' aW bf df e7=>se.no bu C li H' ((xH _).trans aW) bf df e7⟩⟩
  have iN:∀(p:Int),5<=p->aa.int p≠aa.int 1/\aa.int p≠aa.int 2/\aa.int p≠aa.int 3/\aa.int p≠aa.int 4:=fun p h=>⟨cK (by omega),cK (by omega),cK (by omega),cK (by omega)⟩;cases B9 with
  |@row p n r ai aj bN=>
   obtain⟨qf,DT,_⟩:=tQ mz;obtain⟨br,xA,auH⟩:=tQ DT;obtain⟨cF,rfl⟩:∃cF:Nat,n=(cF:Int):=⟨n.toNat,by omega⟩;rw[uq]at*;rw[c9,c9]at Ej;have kQ:j+1+1+cF<=l.length:=by omega
   have i8:j+1+1+cF=l.length -(r.drop cF).length:=by rw[oE];omega
   refine⟨_,z,bE,b3,_,z,jH,v9,bE,b3,aC,l,j,p,z,jH,aG,qf,?_⟩;rcases ai with rfl|rfl|rfl|rfl
   .have yO:(r.take cF).all (fun I=>CzNeutral.natural I 8)=true:=has;refine⟨_,z,z,_,z,lZ z ⟨_,z,bE,b3,_,z,aP,Dq,bE,b3,aC,l,j+1,cF,z,aP,tL,Cb _,br,kQ,fun q a9=>?_⟩⟩;rw[Bd,xA,J2 yO];have Az:V H bE (eA a b3 aC (j+1+1+cF)) q=none:=by rw[aK (bC (eI (show V H bE (eA a b3 aC (j+1)) bE=some _ from aP) a9))];exact(e8 a9).2
    have iD:be (V H bE (eA a b3 aC (j+1+1+cF))) (V (V H bE (eA a b3 aC (j+1+1+cF))) q (.ak (gM (CzNeutral.text (r.take cF))))):=cj (be.refl _) Az;have bw:(CzNeutral.text (r.take cF)).length<=100000:=by rw[K1,u0];omega
    refine⟨q,CzNeutral.text (r.take cF),z,aP,bw,fun H' eW nv qJ c5=>fin _ _ H' eW _ i8 iD nv qJ c5 z ?_⟩;unfold CzNeutral.step;simp only[CzNeutral.callOf,Closurize.step];by_cases aL:(Cz.program (CzNeutral.text (r.take cF))).isSome=true
    .rw[bT aL,bT aL];rfl
    .rw[bz aL,bz aL];rfl
   .have yO:(r.take cF).all (fun I=>CzNeutral.natural I 8)=true:=has;refine⟨_,z,z,_,z,cu (cK (by decide)) ⟨_,z,z,_,z,lZ z ⟨_,z,bE,b3,_,z,aP,Dq,bE,b3,aC,l,j+1,cF,z,aP,tL,Cb _,br,kQ,fun q a9=>?_⟩⟩⟩;rw[Bd,xA,J2 yO];have Az:V H bE (eA a b3 aC (j+1+1+cF)) q=none:=by rw[aK (bC (eI (show V H bE (eA a b3 aC (j+1)) bE=some _ from aP) a9))];exact(e8 a9).2
    have iD:be (V H bE (eA a b3 aC (j+1+1+cF))) (V (V H bE (eA a b3 aC (j+1+1+cF))) q (.ak (gM (CzNeutral.text (r.take cF))))):=cj (be.refl _) Az;have bw:(CzNeutral.text (r.take cF)).length<=100000:=by rw[K1,u0];omega
    refine⟨q,CzNeutral.text (r.take cF),z,aP,bw,fun ig H' nv=>ref _ H' i8 (iD.trans nv) ?_,fun kI nF H' eW nv qJ c5=>fin _ _ H' eW _ i8 iD nv qJ c5 ?_ ?_⟩
    .unfold CzNeutral.step;simp only[CzNeutral.callOf,Closurize.step,Closurize.ofProgram,ig];rfl
    .rfl
    .unfold CzNeutral.step;simp only[CzNeutral.callOf,Closurize.step,Closurize.ofProgram,nF];rw[apW,Q2]
   .have yO:(r.take cF).all (fun I=>CzNeutral.natural I 8)=true:=has;refine⟨_,z,z,_,z,cu (cK (by decide)) ⟨_,z,z,_,z,cu (cK (by decide)) ⟨_,z,z,_,z,lZ z ⟨_,z,bE,b3,_,z,aP,Dq,bE,b3,aC,l,j+1,cF,z,aP,tL,Cb _,br,kQ,fun q a9=>?_⟩⟩⟩⟩;rw[Bd,xA,J2 yO];have Az:V H bE (eA a b3 aC (j+1+1+cF)) q=none:=by rw[aK (bC (eI (show V H bE (eA a b3 aC (j+1)) bE=some _ from aP) a9))];exact(e8 a9).2
    have iD:be (V H bE (eA a b3 aC (j+1+1+cF))) (V (V H bE (eA a b3 aC (j+1+1+cF))) q (.ak (gM (CzNeutral.text (r.take cF))))):=cj (be.refl _) Az;have bw:(CzNeutral.text (r.take cF)).length<=100000:=by rw[K1,u0];omega
    refine⟨q,CzNeutral.text (r.take cF),z,aP,bw,fun ig H' nv=>ref _ H' i8 (iD.trans nv) ?_,fun kI nF H' eW nv qJ c5=>fin _ _ H' eW _ i8 iD nv qJ c5 ?_ ?_⟩
    .unfold CzNeutral.step;simp only[CzNeutral.callOf,Closurize.step,Closurize.ofProgram,ig];rfl
    .rfl
    .unfold CzNeutral.step;simp only[CzNeutral.callOf,Closurize.step,Closurize.ofProgram,nF];rw[apX,Q2]
   .have agm:Z.nA (5::(cF:Int)::r) [[5],r.take cF] (r.drop cF):=by
     have I:=Z.nA.row (p:=5) (n:=(cF:Int)) (r:=r) (.inr (.inr (.inr z))) (by omega) (by rw[uq];exact bN);rwa[uq]at I
    refine⟨_,z,z,_,z,cu (cK (by decide)) ⟨_,z,z,_,z,cu (cK (by decide)) ⟨_,z,z,_,z,cu (cK (by decide)) ⟨_,z,z,_,z,cu (cK (by decide)) ⟨_,z,_,z,_,z,MD 5 _ mz (by decide) agm⟩⟩⟩⟩⟩
  |@plain p r ai=>
   obtain⟨qf,DT,_⟩:=tQ mz;have Ax:5<=p:=by omega
   obtain⟨k1,k2,k3,jh⟩:=iN p Ax;exact⟨_,z,bE,b3,_,z,jH,v9,bE,b3,aC,l,j,p,z,jH,aG,qf,_,z,z,_,z,cu k1 ⟨_,z,z,_,z,cu k2 ⟨_,z,z,_,z,cu k3 ⟨_,z,z,_,z,cu jh ⟨_,z,_,z,_,z,MD p _ mz Ax (.plain ai)⟩⟩⟩⟩⟩
  |@pQ p x r ai=>
   obtain⟨qf,DT,_⟩:=tQ mz;have Ax:5<=p:=by omega
   obtain⟨k1,k2,k3,jh⟩:=iN p Ax;exact⟨_,z,bE,b3,_,z,jH,v9,bE,b3,aC,l,j,p,z,jH,aG,qf,_,z,z,_,z,cu k1 ⟨_,z,z,_,z,cu k2 ⟨_,z,z,_,z,cu k3 ⟨_,z,z,_,z,cu jh ⟨_,z,_,z,_,z,MD p _ mz Ax (.pQ ai)⟩⟩⟩⟩⟩
  |@fS x y r=>
   obtain⟨qf,DT,_⟩:=tQ mz;obtain⟨k1,k2,k3,jh⟩:=iN 9 (by decide);exact⟨_,z,bE,b3,_,z,jH,v9,bE,b3,aC,l,j,9,z,jH,aG,qf,_,z,z,_,z,cu k1 ⟨_,z,z,_,z,cu k2 ⟨_,z,z,_,z,cu k3 ⟨_,z,z,_,z,cu jh ⟨_,z,_,z,_,z,MD 9 _ mz (by decide) .fS⟩⟩⟩⟩⟩
  |@mean x n m r bf ai aj bN ez i7=>
   obtain⟨qf,DT,_⟩:=tQ mz;obtain⟨xF,xA,_⟩:=tQ DT;obtain⟨br,Qk,_⟩:=tQ xA;obtain⟨cF,rfl⟩:∃cF:Nat,n=(cF:Int):=⟨n.toNat,by omega⟩;obtain⟨mR,rfl⟩:∃mR:Nat,m=(mR:Int):=⟨m.toNat,by omega⟩;rw[uq,uq]at*;rw[c9,c9,c9]at Ej;have aj7:l.drop (j+1+1+1+cF)=(mR:Int)::bf:=by rw[<-drop_drop,Qk];exact bN
   obtain⟨aku,XN,auI⟩:=tQ aj7;have auX:bf.length=l.length -(j+1+1+1+cF) -1:=by rw[<-XN,oE];omega
   have kQ:j+1+1+1+cF<=l.length:=by omega
   have akq:j+1+1+1+cF+1+mR<=l.length:=by omega
   have i8:j+1+1+1+cF+1+mR=l.length -(bf.drop mR).length:=by rw[oE];omega
   have JE:(decide (0<=x)&&decide (x<=2000)&&(r.take cF).all (fun(I:Int)=>CzNeutral.natural I 8)&&decide ((bf.take mR).length<=16)&&decide ((bf.take mR).length%2=0)&&(bf.take mR).all (fun(I:Int)=>CzNeutral.natural I 32)&&(bf.take mR).zipIdx.all fun(x:Int×Nat)=>x.2%2==0||decide (x.1<=2000))=true:=has;simp only[jA,tB]at JE;obtain⟨⟨⟨⟨⟨⟨iG,_⟩,yO⟩,m5⟩,_⟩,ae0⟩,_⟩:=JE;obtain⟨al,rfl⟩:∃al:Nat,x=(al:Int):=⟨x.toNat,by omega⟩;have ZW:∀I∈bf.take mR,0<=I/\I<4294967296:=fun I bR=>by
    have:=zJ.mp ae0 I bR;unfold CzNeutral.natural at this;simp only[jA,tB]at this;have e:(2:Int)^32=4294967296:=by decide
    rw[e]at this;exact this
   refine⟨_,z,bE,b3,_,z,jH,v9,bE,b3,aC,l,j,4,z,jH,aG,qf,?_⟩;refine⟨_,z,z,_,z,cu (cK (by decide)) ⟨_,z,z,_,z,cu (cK (by decide)) ⟨_,z,z,_,z,cu (cK (by decide)) ⟨_,z,z,_,z,lZ z ⟨_,z,bE,b3,_,z,aP,v9,bE,b3,aC,l,j+1,_,z,aP,Cb _,xF,?_⟩⟩⟩⟩⟩;rw[Bd];refine⟨_,z,bE,b3,_,z,aP,Dq,bE,b3,aC,l,j+1+1,cF,z,aP,tL,Cb _,br,kQ,fun q a9=>?_⟩;rw[Bd,Qk,J2 yO];have M0:q≠bE:=bC (eI (show V H bE (eA a b3 aC (j+1+1)) bE=some _ from aP) a9);have D6:H q=none:=(e8 a9).2;have aur:aC≠q\/True:=.inr trivial;have XX:∀i v,V (V H bE (eA a b3 aC i)) q v bE=some (eA a b3 aC i):=fun i v=>by rw[aK (bC M0),aP]
   have aj6:∀i v,bj K (V (V H bE (eA a b3 aC i)) q v) aC (au l):=fun i v=>by
    rcases Cb i with(I|⟨o,I⟩)|I
    .exact .inl (.inl (by rw[aK (eI I (by rw[aK M0];exact D6))];exact I))
    .exact .inl (.inr ⟨o,by rw[aK (eI I (by rw[aK M0];exact D6))];exact I⟩)
    .exact .inr I
   refine⟨_,z,_,z,_,z,bE,b3,_,z,XX _ _,Dq,bE,b3,aC,l,j+1+1+1+cF,mR,z,XX _ _,tL,aj6 _ _,aku,akq,fun eW qJ=>?_⟩;rw[XN,alz (fun I bR=>(ZW I bR).1)];obtain⟨ed,akV⟩:=e8 qJ;obtain⟨fc,akW⟩:=e8 akV;have iD:be (V H bE (eA a b3 aC (j+1+1+1+cF+1+mR))) (V (V (V (V H bE (eA a b3 aC (j+1+1+1+cF))) q (.ak (gM (CzNeutral.text (r.take cF))))) bE (eA a b3 aC (j+1+1+1+cF+1+mR))) eW (.ak (c8 (CzNeutral.nats (bf.take mR))))):=by
    refine cj (fun b o e=>?_) (by rw[aK fc];exact akW);by_cases I:b=bE
    .rw[I,aP]at e⊢;exact e
    .rw[aK I]at e⊢;rw[aK (eI e D6),aK I];exact e
   have Xs:(V (V (V (V H bE (eA a b3 aC (j+1+1+1+cF))) q (.ak (gM (CzNeutral.text (r.take cF))))) bE (eA a b3 aC (j+1+1+1+cF+1+mR))) eW (.ak (c8 (CzNeutral.nats (bf.take mR))))) q=some (.ak (gM (CzNeutral.text (r.take cF)))):=by
    rw[aK (bC ed),aK M0,aP]
   have Xu:(V (V (V (V H bE (eA a b3 aC (j+1+1+1+cF))) q (.ak (gM (CzNeutral.text (r.take cF))))) bE (eA a b3 aC (j+1+1+1+cF+1+mR))) eW (.ak (c8 (CzNeutral.nats (bf.take mR))))) eW=some (.ak (c8 (CzNeutral.nats (bf.take mR)))):=aP;generalize (V (V (V (V H bE (eA a b3 aC (j+1+1+1+cF))) q (.ak (gM (CzNeutral.text (r.take cF))))) bE (eA a b3 aC (j+1+1+1+cF+1+mR))) eW (.ak (c8 (CzNeutral.nats (bf.take mR)))))=aI at iD Xs Xu⊢;refine⟨q,eW,CzNeutral.text (r.take cF),al,CzNeutral.nats (bf.take mR),z,Xs,(by rw[K1,u0];omega),Xu,?_,fun i x Y=>?_,fun ig H' nv=>ref _ H' i8 (iD.trans nv) ?_,fun kI nF H' apq nv akU c5=>fin _ _ H' apq _ i8 iD nv akU c5 z ?_⟩
   .unfold CzNeutral.nats;rw[cA];omega
   .unfold CzNeutral.nats at Y;rw[h8]at Y;cases BP:(bf.take mR)[2*i]? with
    |none=>rw[BP]at Y;cases Y
    |some I=>
     rw[BP]at Y;cases Y;have:=ZW I (jc BP);show I.toNat<4294967296;omega
   .unfold CzNeutral.step;simp only[CzNeutral.callOf,Closurize.step,Closurize.ofProgram,ig];rfl
   .unfold CzNeutral.step;simp only[CzNeutral.callOf,Closurize.step,Closurize.ofProgram,nF,uq];rw[abc,Q2]
end
section
variable{P:Program}{w:World}{K:Frag}{az:Str->Option Value}{base:Heap}{a:bU}
def arp(K:Frag)(a:bU):dj:=fun vs H Q _=>∃(bc ah bE aC b3:Addr)(M:List Addr)(st:Closurize.State)(l t:List Int)(j:Nat)(c:List (List Int)),vs=[.ref bc,.ref bE]/\jm a H bc M ah st/\sC a H ah/\yr a H M/\bE∈M/\bc∉M/\H bE=some (eA a b3 aC j)/\(aC≠bE\/Bu K aC (au l))/\bj K H aC (au l)/\l.length<=100000/\j<=l.length/\
 Z.nA (l.drop j) c t/\CzNeutral.asked1 c=true/\∀H' q gm,aV [bE,bc,ah] H H'->H' bE=some (eA a b3 aC (l.length -t.length))->jm a H' bc M gm (CzNeutral.step st c).1->sC a H' gm->H q=none->H' q=some (.ak (au (CzNeutral.step st c).2))->Q (.ref q) H'
theorem aqw:dP ["machine","line"] ["machine","line"] (cT ab4):=by trivial
theorem apR(T:Txt K az a):∀C∈nC a,∃i,lQ K C i:=fun C li=>by
 simp only[nC,dG,List.not_mem_nil,or_false]at li;rcases li with rfl|rfl|rfl|rfl|rfl
 .exact⟨_,T.rB⟩
 .exact⟨_,T.Pq⟩
 .exact⟨_,T.Pu⟩
 .exact⟨_,T.Pv⟩
 .exact⟨_,T.Pr⟩
theorem aok(T:Txt K az a):cZ P w K az base (cW P w) 11 a.IB a.GL ["machine","line"] (arp K a):=by
 refine T.Wx.dZ aqw (fun vs H Q E h=>?_) (fun cJ A outer s H vs Q E aO h=>?_)
 .obtain⟨bc,ah,bE,aC,b3,M,st,l,t,j,c,rfl,_⟩:=h;rfl
 .obtain⟨bc,ah,bE,aC,b3,M,st,l,t,j,c,rfl,aM,hw,rD,Av,DZ,jH,tL,aG,aD,lJ,B9,has,ok⟩:=h;have l7:sizeLine=16777216:=gU;refine⟨_,bl (Sw gT (fun eK pl Fo Y=>bl (di (fU (aoh T) aO z T.amG T.Wv.cN T.afF .nil Y (aE (af 0) (aE (af 1) aY)))))
   (apj (jB:=nC a) (.cons z T.t6 T.rB (.cons z T.Zg T.Pq (.cons z T.Zi T.Pu (.cons z T.Zj T.Pv (.cons z T.Zh T.Pr .nil))))) (by show 5<=100;decide) (fun x=>bl (di (gx (aE (aaM adI dc) aY)))) Sp)),?_⟩
  refine⟨fun rz d H'=>∃C∈nC a,rz=.ref C/\d=none/\CzNeutral.step st c=(st,[-1])/\aV [bE,bc,ah] H H'/\H' bE=some (eA a b3 aC (l.length -t.length))/\jm a H' bc M ah st/\sC a H' ah,?_,?_⟩
  .exact⟨_,z,_,z,bc,ah,bE,aC,b3,M,st,l,t,j,c,z,aM,hw,rD,Av,DZ,jH,tL,aG,aD,lJ,B9,has,⟨ok,fun bu C li H' aW bf df e7=>⟨C,li,z,z,bu,aW,bf,df,e7⟩⟩⟩
  .rintro rz d H' ⟨C,li,rfl,rfl,bu,aW,bf,df,e7⟩;obtain⟨i,ex⟩:=apR T C li;refine⟨C,i,z,ex,fun cB aD=>?_⟩;unfold TA;rw[bT li];refine⟨_,z,(by show 1<=sizeLine;omega),fun q a9=>?_⟩;have iD:be H' (V H' q (.ak [.int (-1)])):=cj (be.refl _) a9;rw[bu]at ok;refine ok _ q ah (aW.trans iD.gh) (iD _ _ bf) (df.same iD) (e7.same iD) (aW.fresh a9 (fun b ae=>?_)) aP;simp at ae;rcases ae with rfl|rfl|rfl
   .exact⟨_,bf⟩
   .obtain⟨_,_,_,I⟩:=df.obj;exact⟨_,I⟩
   .obtain⟨dx,bA,I|I⟩:=e7
    .exact⟨_,I⟩
    .exact⟨_,I⟩
end
theorem aaW:∀(ps:List (Nat×Nat))(al:Nat)(r:Cz.End),(Cz.playT al r ps).length<=ps.length+1
 |[],al,r=>by rw[KH];exact dW _
 |(y,n)::l,al,r=>by
  rw[KH,c9,c9];unfold EJ;rcases r with c|⟨v,m⟩
  .exact succ_le_succ (jV _)
  .cases v with
   |num=>exact succ_le_succ (jV _)
   |fn self b e=>exact succ_le_succ (aaW l _ _)
theorem aaF:∀l:List Nat,(Closurize.pairs l).length<=l.length
 |[]=>dW _
 |[_]=>jV _
 |x::n::l=>by
  rw[aaG,c9,c9,c9];have:=aaF l;omega
theorem Wq:∀(L:List (List Nat)),(∀x∈L,x.length=4)->L.flatten.length=4*L.length
 |[],_=>rfl
 |x::L,h=>by rw[List.flatten_cons,g8,Wq L (fun y bu=>h y (gz _ bu)),h x iO,c9];omega
theorem asy{l t:List Int}{c:List (List Int)}(h:Z.nA l c t)(has:CzNeutral.asked1 c=true)(st:Closurize.State):(CzNeutral.step st c).2.length<=150000:=by
 have sG:(CzNeutral.rowOf Closurize.BAD).length<=150000:=by show 1<=150000;decide
 have says:∀n,(CzNeutral.rowOf (Closurize.says n)).length<=150000:=fun n=>by show 1<=150000;decide
 have CF:∀(f:Closurize.Machine->Closurize.State×Closurize.Answer),(∀s,(CzNeutral.rowOf (f s).2).length<=150000)->(CzNeutral.rowOf (Closurize.onMachine st f).2).length<=150000:=fun f bq=>by
  cases st with
  |none=>exact sG
  |some s=>exact bq s
 have ends:∀s al r,(CzNeutral.rowOf (Closurize.ends s al r).2).length<=150000:=fun s al r=>by rw[SO];show 1<=150000;decide
 cases h with
 |@row p n r ai aj bN=>
  rcases ai with rfl|rfl|rfl|rfl
  .exact says _
  .show(CzNeutral.rowOf (Closurize.ofProgram _ _)).length<=_;unfold Closurize.ofProgram;cases e:Cz.program (CzNeutral.text (r.take n.toNat))with
   |none=>exact sG
   |some t=>
    have:=(Z.VP e).1;show(CzNeutral.rowOf ⟨((Cz.compiled t).bytes.length:Int),[],(Cz.compiled t).bytes⟩).length<=_;unfold CzNeutral.rowOf;simp;omega
  .show(CzNeutral.rowOf (Closurize.ofProgram _ _)).length<=_;unfold Closurize.ofProgram;cases e:Cz.program (CzNeutral.text (r.take n.toNat))with
   |none=>exact sG
   |some t=>
    have:=(Z.VP e).2;show(CzNeutral.rowOf (Closurize.tells _ _)).length<=_;unfold CzNeutral.rowOf Closurize.tells;simp;omega
  .show(CzNeutral.rowOf (match Cz.code _ with|none=>(st,Closurize.BAD)|some c=>(some ⟨c,none,0,0⟩,Closurize.says 0)).2).length<=_;cases Cz.code (CzNeutral.text (r.take n.toNat))with
   |none=>exact sG
   |some c=>exact says 0
 |@mean x n m r q ai aj bN ez i7=>
  show(CzNeutral.rowOf (Closurize.ofProgram _ _)).length<=_;unfold Closurize.ofProgram;cases e:Cz.program (CzNeutral.text (r.take n.toNat))with
  |none=>exact sG
  |some t=>
   show(CzNeutral.rowOf (Closurize.tells _ _)).length<=_;have JE:(decide (0<=x)&&decide (x<=2000)&&(r.take n.toNat).all (fun(I:Int)=>CzNeutral.natural I 8)&&decide ((q.take m.toNat).length<=16)&&decide ((q.take m.toNat).length%2=0)&&(q.take m.toNat).all (fun(I:Int)=>CzNeutral.natural I 32)&&(q.take m.toNat).zipIdx.all fun(x:Int×Nat)=>x.2%2==0||decide (x.1<=2000))=true:=has;simp only[jA,tB]at JE;have auB:=JE.1.1.1.2;have o7:=aaF (CzNeutral.nats (q.take m.toNat));have l6:(CzNeutral.nats (q.take m.toNat)).length=(q.take m.toNat).length:=by unfold CzNeutral.nats;rw[cA]
   have ud:(Cz.seenOf t x.toNat (Closurize.pairs (CzNeutral.nats (q.take m.toNat)))).length<=_:=aaW _ _ _;have aaC:=Wq (Cz.seenOf t x.toNat (Closurize.pairs (CzNeutral.nats (q.take m.toNat)))) (fun y bu=>Ss _ _ _ y bu);rw[abc,cA,c9];omega
 |@plain p r ai=>
  rcases ai with rfl|rfl|rfl|rfl
  .exact CF _ fun s=>says _
  .refine CF _ fun s=>?_;dsimp only;cases s.last with
   |none=>exact sG
   |some v=>cases v with
    |num x=>show 2<=150000;decide
    |fn p l=>exact says _
  .refine CF _ fun s=>?_;dsimp only;split
   .exact says _
   .exact sG
  .refine CF _ fun s=>?_;dsimp only;split
   .exact says _
   .exact sG
 |@pQ p x r ai=>
  rcases ai with rfl|rfl
  .refine CF _ fun s=>?_;dsimp only;cases s.code.procs[x.toNat]? with
   |none=>exact sG
   |some q=>exact says _
  .exact CF _ fun s=>ends _ _ _
 |@fS x y r=>
  refine CF _ fun s=>?_;cases s.last with
  |none=>exact sG
  |some v=>cases v with
   |num x=>exact sG
   |fn p l=>exact ends _ _ _
theorem agt{l t:List Int}{c:List (List Int)}(h:Z.nA l c t):∃k,t=l.drop k:=by
 cases h with
 |@row p n r ai aj bN=>exact⟨n.toNat+2,z⟩
 |@mean x n m r q ai aj bN ez i7=>
  refine⟨m.toNat+1+n.toNat+3,?_⟩;show q.drop m.toNat=r.drop (m.toNat+1+n.toNat);rw[add_comm (m.toNat+1) n.toNat,<-drop_drop,bN];rfl
 |plain _=>exact⟨1,z⟩
 |pQ _=>exact⟨2,z⟩
 |fS=>exact⟨3,z⟩
theorem ahp{l t:List Int}{k:Nat}(h:t=l.drop k):l.drop (l.length -t.length)=t:=by
 rcases Nat.le_total k l.length with q|q
 .have:l.length -t.length=k:=by rw[h,oE];omega
  rw[this,h]
 .have e:t=[]:=by rw[h];exact List.drop_eq_nil_of_le q
  rw[e];simp
theorem adC(l:List (List Int))(x:List Int):PyFlat.told (l++[x])=PyFlat.told l++((x.length:Int)::x):=by
 unfold PyFlat.told;simp
theorem aly(l m:List Int):au (l++m)=au l++au m:=by unfold au;rw[gB]
section
variable{P:Program}{w:World}{K:Frag}{az:Str->Option Value}{base:Heap}{a:bU}
def To(K:Frag):dj:=fun vs H Q _=>∃(aC:Addr)(l:List Int),vs=[.ref aC]/\bj K H aC (au l)/\l.length<=100000/\PyWqawaj.answers_asked l=true/\∀H' q,H' q=some (.ak (au (PyWqawaj.answers l)))->Q (.ref q) H'
theorem KX:dP ["calls","line","machine","told","answer"] ["calls"] (cT ab5):=by trivial
theorem aoj(T:Txt K az a):cZ P w K az base (cW P w) 12 a.IC a.DG ["calls"] (To K):=by
 refine T.Wy.dZ KX (fun vs H Q E h=>?_) (fun cJ A outer s H vs Q E aO h=>?_)
 .obtain⟨aC,l,rfl,_⟩:=h;rfl
 .obtain⟨aC,l,rfl,yR,aD,Qa,k⟩:=h;have l7:sizeLine=16777216:=gU;obtain⟨cs,ad3,qF,auC,ahu⟩:=Z.afk Qa;refine⟨_,bh (dU (i:=1) KX.aH z (Or.inl z) (mE T.ank (aoc T) aO.dw z T.amA T.afp .nil bZ (aE (af 0) aY)))
   (bh (dU (i:=2) KX.aH z (Or.inl z) (apd T.anl (aod T) aO.dw z T.amB T.aft .nil bZ))
   (bh (dU (i:=3) KX.aH z (Or.inl z) (gx aY))
   (bh (A0 gT.own (Nh (vM (iC (af 1) T.lU T.amm (aot T) aO.dw T.afo .nil bZ)))
    (bh (dU (i:=4) KX.aH z (Or.inl z) (fU (aok T) aO z T.amI T.Wx.cN T.afH .nil bZ (aE (af 2) (aE (af 1) aY))))
    (bh (fD (jk gZ k7 lA kU (af 3) (aE (j3 mu (by rfl) T.mC m3 (aE (af 4) aY)) aY)))
    (bl (fD (jk gZ Fb Lf Eo (af 3) (aE (af 4) aY)))))))
   (bl (di (af 3)))))),?_⟩
  refine⟨_,z,?_⟩;intro bE b3 aq ay bB;refine⟨bE,b3,_,z,aP,z,?_⟩;have aU:be H (V (V (V H b3 (.own bE)) bE (.au a.m8 b3 [])) bE (.au a.m8 b3 (sj (.ref aC) (.int 0)))):=cj (cj (cj (be.refl _) ay) aq) aq;have fL:(V (V (V H b3 (.own bE)) bE (.au a.m8 b3 [])) bE (.au a.m8 b3 (sj (.ref aC) (.int 0)))) bE=some (eA a b3 aC 0):=aP;generalize (V (V (V H b3 (.own bE)) bE (.au a.m8 b3 [])) bE (.au a.m8 b3 (sj (.ref aC) (.int 0))))=aI at aU fL⊢;intro bc fW f2 f1 jG;refine⟨bc,fW,z,aP,z,?_⟩;have bD:be aI (V (V (V aI fW (.own bc)) bc (.au a.g9 fW [])) bc (.au a.g9 fW (i4 .b9 .b9))):=cj (cj (cj (be.refl _) f1) f2) f2;have gw:(V (V (V aI fW (.own bc)) bc (.au a.g9 fW [])) bc (.au a.g9 fW (i4 .b9 .b9))) bc=some (.au a.g9 fW (i4 .b9 .b9)):=aP;generalize (V (V (V aI fW (.own bc)) bc (.au a.g9 fW [])) bc (.au a.g9 fW (i4 .b9 .b9)))=a7 at bD gw⊢;refine⟨jV _,fun jJ yY=>?_⟩;have b4:be a7 (V a7 jJ (.ak [])):=cj (be.refl _) yY;have vQ:V a7 jJ (.ak []) jJ=some (.ak (au [])):=aP;generalize V a7 jJ (.ak [])=bI at b4 vQ⊢;have wL:=(aU.trans bD).trans b4;have Wu:H bE=none:=aq;have auy:H bc=none:=aU.free f2;have Xb:H jJ=none:=(aU.trans bD).free yY;have tL:aC≠bE\/Bu K aC (au l):=by
   rcases yR with(I|⟨o,I⟩)|I
   .exact .inl (eI I Wu)
   .exact .inl (eI I Wu)
   .exact .inr I
  have ae5:aC≠jJ\/Bu K aC (au l):=by
   rcases yR with(I|⟨o,I⟩)|I
   .exact .inl (eI I Xb)
   .exact .inl (eI I Xb)
   .exact .inr I
  have tY:=b4 _ _ (bD _ _ fL);have vD:=b4 _ _ gw;have Cv:bc≠bE:=fun I=>by rw[I,fL]at f2;cases f2
  have RM:bc≠jJ:=fQ vD vQ (by intro q;cases q);have ZU:bE≠jJ:=fQ tY vQ (by intro q;cases q);refine⟨fun m O H'=>∃(i:Nat)(rest:List (List (List Int)))(done:List (List Int))(st:Closurize.State)(ah:Addr)(dI:Option aa),O=[some (.ref aC),some (.ref bE),some (.ref bc),some (.ref jJ),dI]/\bj K H' aC (au l)/\H' bE=some (eA a b3 aC i)/\jm a H' bc [bE,jJ] ah st/\sC a H' ah/\H' jJ=some (.ak (au (PyFlat.told done)))/\
   i<=l.length/\Z.zO (l.drop i) rest/\(∀c∈rest,CzNeutral.asked1 c=true)/\PyWqawaj.answers l=PyFlat.told (done++PyFlat.played CzNeutral.step st rest)/\(PyFlat.told done).length+150001*rest.length<=9000060/\m=rest.length,
   ⟨_,0,cs,[],CzNeutral.start,bc,_,z,wL.seq yR,tY,.mV vD,⟨_,_,.inr vD⟩,vQ,jV _,ad3,qF,ahu,by show 0+_<=_;omega,z⟩,?_⟩
  clear b4 vQ wL tY vD bD gw aU fL yY;rintro m O b6 ⟨i,rest,done,st,ah,dI,rfl,Qh,jH,aM,hw,yY,aF,Ub,P9,V5,gv,akz⟩;refine⟨_,z,bE,b3,_,z,jH,aew,bE,b3,aC,l,i,z,jH,Qh,_,z,?_⟩;have as5:jJ∉[bE,bc,ah]:=by
   have:jJ≠ah:=fun I=>by
    obtain⟨dx,bA,q|q⟩:=hw<;>rw[<-I,yY]at q<;>cases q
   simp[bC ZU,bC RM,this]
  have aj2:∀H5,aV [bE,bc,ah] b6 H5->bj K H5 aC (au l):=fun H5 gh=>by
   have nm:∀o,b6 aC=some o->(∀C d f,o≠.au C d f)->aC∉[bE,bc,ah]:=fun o e fB I=>by
    simp at I;rcases I with I|I|I
    .rw[I,jH]at e;cases e;exact fB _ _ _ z
    .obtain⟨_,_,_,q⟩:=aM.obj;rw[I,q]at e;cases e;exact fB _ _ _ z
    .obtain⟨dx,bA,q|q⟩:=hw<;>rw[I,q]at e<;>cases e<;>exact fB _ _ _ z
   rcases Qh with(I|⟨o,I⟩)|I
   .exact .inl (.inl (gh _ _ I (nm _ I (fun C d f q=>by cases q))))
   .exact .inl (.inr ⟨o,gh _ _ I (nm _ I (fun C d f q=>by cases q))⟩)
   .exact .inr I
  generalize mz:l.drop i=eU at Ub;cases Ub with
  |nil=>
   have Yx:i=l.length:=by
    have:=oA List.length mz;rw[oE,yh]at this;omega
   rw[Bl (by rw[Yx])];refine nt ⟨_,z,k b6 jJ ?_⟩;rw[yY,V5];show _=some (cI.ak (au (PyFlat.told (done++[]))));rw[zI]
  |@cons _ t c BL ai aj=>
   have avj:=ai.aq1;have Yx:i<l.length:=by
    have:=oA List.length mz;rw[oE]at this;omega
   rw[ye (fun I=>by have:=gK I;omega)];refine lY ⟨_,fun _ _ h=>h,?_⟩;have b7:=asy ai (P9 c iO) st;rw[c9]at gv akz;refine⟨_,z,_,z,bc,ah,bE,aC,b3,[bE,jJ],st,l,t,i,c,z,aM,hw,fun b ae=>?_,by simp,by simp[Cv,RM],jH,tL,Qh,aD,aF,by rw[mz];exact ai,P9 c iO,fun H5 q gm gh alX YY E5 a9 k6=>?_⟩
   .rcases tZ ae with rfl|rfl
    .exact .inr (.inl ⟨_,_,jH⟩)
    .exact .inl ⟨_,yY⟩
   have TH:=gh _ _ yY as5;have K2:q≠jJ:=fun I=>by rw[I,yY]at a9;cases a9
   have lt:(au (PyFlat.told done)).length=(PyFlat.told done).length:=J3 _;refine⟨_,z,.inl ⟨z,_,bj.bM TH⟩,_,z,q,_,z,.inl (bj.bM k6),jJ,_,_,z,z,TH,(by rw[lt];omega),?_⟩;have adz:V H5 jJ (.ak (au (PyFlat.told done)++[.int ((au (CzNeutral.step st c).2).length:Nat)])) jJ=some (.ak (au (PyFlat.told done)++[.int ((au (CzNeutral.step st c).2).length:Nat)])):=aP;refine⟨_,z,.inl ⟨z,_,bj.bM adz⟩,_,z,jJ,q,_,_,z,z,adz,(by rw[aK K2];exact k6),(by rw[g8,lt,J3];show _+1+_<=_;omega),?_⟩;rw[jz];obtain⟨AF,nF⟩:=agt ai;have ahK:t=l.drop (i+AF):=by rw[nF,<-mz,drop_drop]
   have Rd:aV [jJ] H5 (V H5 jJ (.ak (au (PyFlat.told done)++[.int ((au (CzNeutral.step st c).2).length:Nat)]++au (CzNeutral.step st c).2))):=aV.refl.V (.inl (by simp));have adS:gm≠jJ:=fun I=>by
    obtain⟨dx,bA,eW|eW⟩:=E5<;>rw[I,TH]at eW<;>cases eW
   refine⟨BL.length,by omega,l.length -t.length,BL,done++[(CzNeutral.step st c).2],(CzNeutral.step st c).1,gm,_,z,NO (aj2 H5 gh) ae5,?_,YY.keep Rd (by simp) (by simpa using RM) (fun _=>by simpa using adS),?_,?_,Nat.sub_le _ _,?_,fun c' DR=>P9 c' (gz _ DR),?_,?_,z⟩
   .rw[aK ZU];exact alX
   .obtain⟨dx,bA,eW⟩:=E5;exact⟨dx,bA,by rw[aK adS];exact eW⟩
   .rw[aP,adC,aly,J3];show _=some (cI.ak (au (PyFlat.told done)++(aa.int _::au _)));simp
   .rw[ahp ahK];exact aj
   .rw[V5,Fe];rfl
   .rw[adC,g8,c9];omega
end
end Cl
namespace bF
open PySem PySem.Spec PyProof.Rows
open PySem.W (WData Codec OpenSpec Well WellAll ReadsW ReadsAllW)
theorem atE{r:OpenSpec}{k:Nat}{q:Program}{Rj:List Str}{OD:(Str->Option Value)->Heap->Prop}{BA:World->Heap->Prop}{d:DefRec}{K:Params->Frag}{g4:World->u5}{ps:List Str}{sp:Frag->dj}
  (QV:r.wellSaid=true)(XM:d.params.defaults=[])(gv:r.args.length=ps.length)(aO:kM k callerA)
  (JC:∀(w:World)(h:Heap),BA w h->(K w.params).In h)
  (F:∀(w:World)(az:Str->Option Value)(tT:Addr)(h:Heap),BA w h->(K w.params).In h->h.Ns mainGlobals az->az d.name=some (.ref tT)->
   ∃gO:FuncData,(∀(s:Shared)(us:List Value),us.length=ps.length->BindsTo s gO ⟨us,[]⟩ (ps.zip us))/\
    ∀base:Heap,(K w.params).In base->base.Ns mainGlobals az->cZ r.prog w (K w.params) az base (g4 w) k tT gO ps (sp (K w.params)))
  (xD:∀(K:Frag)(H:aA)(xs:List aa)(a:Codec.denoteAll r.args),FF H->Codec.withinAll r.args a=true->Codec.app r.args r.asked a=true->u6 K H xs (Codec.encAll r.args a)->
   sp K xs H (fun v H'=>nT K H' v (r.ret.enc (Codec.app r.args r.f a))) fun _ _ _=>False)
  (JA:∀(w:World)(H:aA)(s:Shared)(e:Value)(aZ:Shared),g4 w [] H s (fun _ _ _=>False) e aZ->False):
  WalkOS q Rj OD BA r d [] (fun f vs=>PySem.call f vs):=
 atD (K:=K) (g4:=g4) (sp:=fun w=>sp (K w.params)) QV XM gv aO JC F (fun w H xs a ai aj bN ez=>xD (K w.params) H xs a ai aj bN ez) JA
theorem ag8(P:Program):∀(w:World)(H:aA)(s:Shared)(e:Value)(aZ:Shared),cW P w [] H s (fun _ _ _=>False) e aZ->False:=fun _ _ _ _ _ h=>by
 obtain⟨_,_,_,_,_,_,_,_,h⟩:=h;exact h
end bF
namespace Cl
open PySem PySem.Spec PyProof.Rows bF
theorem ae8{P:Program}{w:World}{K:Frag}{az:Str->Option Value}{a:bU}{tT:Addr}(aka:az "answers"=some (.ref tT))(T:Txt K az a):∃gO:FuncData,(∀(s:Shared)(us:List Value),us.length=(["calls"]:List Str).length->BindsTo s gO ⟨us,[]⟩ ((["calls"]:List Str).zip us))/\
  ∀base:Heap,K.In base->base.Ns mainGlobals az->cZ P w K az base (cW P w) 12 tT gO ["calls"] (To K):=by
 have e:=aka.symm.trans T.amJ;cases e;refine⟨a.DG,fun s us ck=>?_,fun base _ _=>aoj T⟩;obtain⟨gq,iX,oZ,doc,s8,tN,cJ,k9,zq,e,lk,lI⟩:=T.Wy.ex;rw[e]
 match us,ck with
 |[_],_=>exact .of_eq z
end Cl
namespace PySem.W.Fast
def tw4371503323387625452:=0
def tw7795493105243856971:=0
def tw17602182013020978021:=0
def tw4879534524053973453:=0
def tw4150175540150892746:=0
def tw14240954795780027621:=0
def tw11117089291969088681:=0
def tw16816638828320726396:=0
def tw5281803939781865675:=0
def tw15734402999350938459:=0
def tw17882061151434752677:=0
def tw14126904645969901496:=0
def tw13104556474330252894:=0
def tw6591468468890793265:=0
def tw4384764615466710190:=0
def tw15675505414388043315:=0
def tw7774485561351794872:=0
def tw10393998708559202760:=0
def tw819849191470994825:=0
def tw12554396969655926130:=0
def tw15598746660389240216:=0
def tw16259626103563635756:=0
def tw545294084714367530:=0
def tw8500167648359138211:=0
def tw4911545669452567627:=0
def tw16753460527625714830:=0
def tw4663060338053718776:=0
def tw7717737910285820753:=0
def tw2542210929200268210:=0
def tw6264331458102837762:=0
def tw9794384222886997781:=0
def tw8605667561654629396:=0
def tw6789793846019886249:=0
def tw15143852327823149469:=0
def tw11727737574647319402:=0
def tw513514391380713106:=0
def tw4078780434752811453:=0
def tw11148722520848543920:=0
def tw2382661131077049593:=0
def tw18322658798007276876:=0
def tw2448884105019501372:=0
def tw10758617414311763448:=0
def tw18193744356386779349:=0
def tw12554941180961974564:=0
def tw7205918215764430559:=0
def tw15966730406908380299:=0
def tw6713810058218117553:=0
def tw18408517105116198423:=0
def tw2293214108261527925:=0
def tw263862431604450749:=0
def tw8889527004075850285:=0
def tw9630401575259047707:=0
def tw16164094036457566732:=0
def tw13737907919999621143:=0
def tw17411669403052554272:=0
def tw524972843639697781:=0
def tw9223441184493601354:=0
def tw3379084904046364241:=0
def tw7169957632389750522:=0
def tw17609786268997836072:=0
def tw6460953541367090686:=0
def tw1422907008529613339:=0
def tw13210048865605232213:=0
def tw12471751641061394682:=0
def tw15699687971862943298:=0
def tw16292791783453600009:=0
def tw8571331771983595669:=0
def tw4663418099616409647:=0
def tw7900306642888288032:=0
def tw1248167702590126974:=0
def tw17550142136741232559:=0
def tw12841611009092209521:=0
def tw4465227419889629822:=0
def tw13043914793969680707:=0
def tw353878713821997548:=0
def tw9794841790981366399:=0
def tw14666478094394982240:=0
def tw16564920828902694309:=0
def tw8648020143405698839:=0
def tw16220941006461442245:=0
def tw14695945303156447374:=0
def tw13461883694348827249:=0
def tw12114238098491733431:=0
def tw677959557546757543:=0
def tw10843107707353722610:=0
def tw12009824813942424272:=0
def tw2578975882408873996:=0
def tw469470654894714676:=0
def tw12866355993658053223:=0
def tw14465560031013595259:=0
def tw14926644822851465308:=0
def tw16030393126781025942:=0
def tw4867283153995673806:=0
def tw4492883324169870187:=0
def tw15701192136947845047:=0
def tw2533932648926603016:=0
def tw8792074392786561787:=0
def tw4085745388457550990:=0
def tw18132348810742065450:=0
def tw10475010973025107275:=0
def tw7583356678840837673:=0
def tw6074295760550634216:=0
def tw15539825869207263010:=0
def tw12545205635901550431:=0
def tw4900772742968011813:=0
def tw9605123205138714448:=0
def tw1207558268127436193:=0
def tw17861035799178724527:=0
def tw415875572803836864:=0
def tw8946425911151255434:=0
def tw15257246729371212681:=0
def tw3195122093371030235:=0
def tw17841934295284366605:=0
def tw10217023404497279004:=0
def tw420163298482257401:=0
def tw13183175199551226423:=0
def tw10045706151044845513:=0
def tw10632287736744556819:=0
def tw18155081520404138442:=0
def tw744945468661616784:=0
def tw11249860914332723477:=0
def tw16206724424160833890:=0
def tw3607985136907240287:=0
def tw18411806702241405331:=0
def tw15456911222719468032:=0
def tw15525209623637949742:=0
def tw17788888165847038299:=0
def tw18359527195953732242:=0
def tw8776175766838780457:=0
def tw8772482382672485256:=0
end PySem.W.Fast
open PySem PySem.W PyProof.Rows
set_option maxRecDepth 100000 in
set_option maxHeartbeats 0 in
theorem PySem.Challenge.cw_closurize_s01_answers_holds : PySem.Challenge.rw_closurize_s01_answers.Holds := by
  w_on; k_headS; (case hw => exact ⟨[.list [.int 6]], by decide +kernel, by decide +kernel⟩)
  k_fillS
  refine bF.atE (r := PySem.Challenge.rw_closurize_s01_answers) (k := 12) (g4 := fun w => bF.cW PySem.Challenge.rw_closurize_s01_answers.prog w) (ps := ["calls"]) (sp := Cl.To) (by decide +kernel) rfl rfl ⟨rfl, by decide, by decide⟩ (fun w h eK => kIn_of eK) ?F ?S (bF.ag8 _)
  case F =>
    intro w az tT h eK i5 G QA
    refine' Cl.ae8 (a := Cl.UR) QA ?t
    case t =>
      constructor
      all_goals try dsimp only [Cl.UR]
      all_goals first
        | (refine' mg_of i5 G ?_; k_is)
        | (apply bF.aiW <;> k_is)
        | (apply bF.Binds.all; intro us aD; rcases us with _ | ⟨_, _ | ⟨_, _ | ⟨_, _ | ⟨_, _ | ⟨_, _ | ⟨_, _⟩⟩⟩⟩⟩⟩ <;> first | rfl | simp at aD)
        | (apply Exists.intro; refine' mg_of i5 G ?_; k_is)
        | k_is
        | (unfold bF.gD; k_is)
        | (constructor <;> first | k_is | kit_is)
        | (refine PySem.W.mg_none_of i5 G ?_; k_is)
        | (apply bF.Wg; k_is; kernel_rfl; k_is)
        | (constructor; (apply bF.Wg; k_is; kernel_rfl; k_is); all_goals first | k_is | (unfold bF.gD; k_is))
        | decide
        | (refine' bF.ahm ?P ?L (kvs := [(4, 2), (5, 2), (6, 2), (7, 2), (8, 3), (9, 2)]) ?E ?D; (case L => k_is); (case P => kernel_rfl); (case E => kernel_rfl); (case D => decide))
  case S =>
    intro K H xs a rD Mr Qa Y
    cases Y with
    | cons ai aj =>
      cases aj
      cases ai with
      | ak aL cC =>
        have e := bF.Yz a.1 _ cC
        subst e
        have q : ((Codec.inLen 0 30000 a.1 && a.1.all (Codec.inInt 0 4294967295)) && true) = true := Mr
        rw [jA, jA] at q
        have aD := (Codec.inNat_iff.mp q.1.1).2
        exact ⟨_, a.1, rfl, aL, i3 aD (by decide), Qa, fun H' p aN => .ak (bF.bj.bM aN) (bF.V2 _)⟩
