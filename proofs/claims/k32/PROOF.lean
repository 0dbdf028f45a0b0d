import PyProof.Rows.All
import Wide.All
import OpenK.AllK
import Wide.FinOn
import Lean
import PyProof.EqAt
import PyProof.EqKinds
import PyProof.TupleCall
import PyProof.NeKinds
import PyProof.SliceMore
import PyProof.AutoListH
import PyProof.WalksEnum
import PyProof.EnumMake
import PyProof.ZipIter
import PyProof.ConsumeS
import PyProof.WalkInts
import PyProof.ListRange
import PyProof.Rows.SortRev
import PyProof.Rows.SortWalk
import PyProof.Rows.CallKwBuiltin
import PyProof.Rows.RuleN_abs
import PyProof.Rows.FactsN_abs
import Open.Boot
import Open.Tree
import Open.FastT9
import PyProof.Rows.SetFrom
import PyProof.CollectWalk
import PyProof.ForAny
import PyProof.EnumIter
import KE.KRevIter
import KE.KSortTup
import KE.KLam
import KE.KNestM
import PySem.Challenge.RW_groupcost_k32_best_base
set_option Elab.async false
set_option linter.all false
set_option maxRecDepth 100000
def aK6 := @Option.some.inj
def aK7 := @List.getD_eq_getElem?_getD
def aK8 := @List.getElem?_eq_getElem
def aK9 := @List.mem_cons_of_mem
def aKa := @List.mem_cons_self
def aKb := @List.getElem?_eq_some_iff
def aKc := @List.all_eq_true
def aKd := @List.mem_range
def aKe := @Nat.lt_of_lt_of_le
def aKf := @List.size_toArray
def aKg := @List.getElem?_set_ne
def aKh := @PySem.Heap.get?_push_of_some
def aKi := @List.mem_cons
def aKj := @Array.getElem?_eq_getElem
def aKm := @Array.length_toList
def aKn := @Bool.and_eq_true
def aKo := @Bool.and_eq_true_iff
def aKp := @Bool.eq_iff_iff
def aKq := @Bool.false_eq_true
def aKr := @Bool.false_ne_true
def aKs := @Bool.not_true
def aKt := @Bool.or_eq_true
def aKu := @PySem.Heap.get?_push_size
def aKx := @PySem.Heap.lt_size
def aKy := @PySem.Heap.size_push
def aKz := @Int.emod_lt_of_pos
def aL0 := @Int.emod_nonneg
def aL1 := @Int.le_refl
def aL2 := @Int.toNat_natCast
def aL3 := @List.append_nil
def aL4 := @List.contains_iff_mem
def aL7 := @List.filterMap_cons
def aL9 := @List.findSome?_cons
def aLc := @List.foldl_cons
def aLf := @List.getElem?_eq_none
def aLh := @List.getElem?_map
def aLi := @List.getElem?_set_self
def aLl := @List.length_append
def aLm := @List.length_cons
def aLo := @List.length_map
def aLp := @List.length_nil
def aLq := @List.length_range
def aLs := @List.length_set
def aLt := @List.length_take
def aLu := @List.lookup_cons
def aLv := @List.map_cons
def aLw := @List.map_map
def aLx := @List.map_nil
def aLy := @List.mem_append
def aLz := @List.mem_append_left
def aM0 := @List.mem_append_right
def aM1 := @List.mem_filter
def aM2 := @List.mem_filterMap
def aM4 := @List.mem_iff_getElem
def aM5 := @List.mem_map
def aM8 := @List.mem_singleton
def aM9 := @List.nodup_cons
def aMb := @List.not_mem_nil
def aMc := @List.pairwise_cons
def aMd := @List.range_succ
def aMe := @List.replicate_succ
def aMf := @Nat.le_of_lt
def aMg := @Nat.le_refl
def aMh := @Nat.le_trans
def aMi := @Nat.lt_irrefl
def aMj := @Nat.lt_of_le_of_lt
def aMk := @Nat.lt_succ_of_lt
def aMl := @Nat.lt_succ_self
def aMm := @Nat.lt_trans
def aMn := @Nat.ne_of_gt
def aMo := @Nat.ne_of_lt
def aMp := @Nat.or_lt_two_pow
def aMq := @Nat.pow_le_pow_right
def aMr := @Nat.pow_lt_pow_right
def aMs := @Nat.pow_pos
def aMt := @Nat.testBit_and
def aMu := @Nat.testBit_or
def aMv := @Nat.testBit_two_pow
def aMw := @Nat.zero_add
def aMx := @Nat.zero_le
def aMy := @Nat.zero_testBit
def aMz := @Option.bind_none
def aN0 := @Option.bind_some
def aN3 := @PyProof.Rows.callWith_type1
def aN4 := @PySem.W.kia_one
def aN5 := @PySem.W.mg_none_of
def aN6 := @PySem.W.mg_of
namespace L2
open PySem PySem.Spec PyProof.Rows
abbrev Key:=Sum Int Str
def IF:Key->Value->Bool
 | .inl k,v=>Value.isInt k v
 | .inr x,v=>Value.isStrOf x v
def YX (w:World):Key->Int
 | .inl k=>hashInt k
 | .inr x=>hashStr w x
theorem hJ:∀ {k:Key}{v:Value},IF k v=true->(∃ i t,k=Sum.inl i/\v=Value.int i t)\/(∃ x t,k=Sum.inr x/\v=Value.str x t)
 | .inl i,v,h=>by
  obtain⟨t,e⟩:=Value.isInt_shape (k:=i) (v:=v) h;exact .inl ⟨i,t,rfl,e⟩
 | .inr x,v,h=>by
  obtain⟨t,e⟩:=Value.isStrOf_shape (x:=x) (v:=v) h;exact .inr ⟨x,t,rfl,e⟩
theorem YY (a b:Int):decide ((Sum.inl a:Key)=Sum.inl b)=(a == b):=by
 by_cases e:a=b
 ·subst e;simp
 ·have h:¬ (Sum.inl a:Key)=Sum.inl b:=fun q=>e (Sum.inl.inj q)
  rw[decide_eq_false h];exact (beq_eq_false_iff_ne.mpr e).symm
theorem ZC (a b:Str):decide ((Sum.inr a:Key)=Sum.inr b)=decide (a=b):=by
 by_cases e:a=b
 ·subst e;simp
 ·have h:¬ (Sum.inr a:Key)=Sum.inr b:=fun q=>e (Sum.inr.inj q)
  rw[decide_eq_false h,decide_eq_false e]
theorem YZ (a:Int) (b:Str):decide ((Sum.inl a:Key)=Sum.inr b)=false:=decide_eq_false (fun q=>nomatch q)
theorem ZB (a:Str) (b:Int):decide ((Sum.inr a:Key)=Sum.inl b)=false:=decide_eq_false (fun q=>nomatch q)
def BR (prog:Program) (w:World):PySem.KeyKind prog w Key where
 is:=IF
 hash:=YX w
 inj:=fun v a b ha hb=>by
  rcases hJ ha with ⟨i,t,rfl,rfl⟩ | ⟨x,t,rfl,rfl⟩
  ·rcases hJ hb with ⟨j,u,rfl,e⟩ | ⟨y,u,rfl,e⟩
   ·injection e with e1 _;rw[e1]
   ·exact nomatch e
  ·rcases hJ hb with ⟨j,u,rfl,e⟩ | ⟨y,u,rfl,e⟩
   ·exact nomatch e
   ·injection e with e1 _;rw[e1]
 byValue:=fun k v h=>by
  rcases hJ h with ⟨i,t,rfl,rfl⟩ | ⟨x,t,rfl,rfl⟩<;>rfl
 pyHash:=fun hv h=>by
  rcases hJ hv with ⟨i,t,rfl,rfl⟩ | ⟨x,t,rfl,rfl⟩
  ·exact wpAny_pyHash_int h
  ·exact wpAny_pyHash_str h
 eqBool:=fun hu hv h=>by
  rcases hJ hu with ⟨i,t,rfl,rfl⟩ | ⟨x,t,rfl,rfl⟩
  ·rcases hJ hv with ⟨j,u,rfl,rfl⟩ | ⟨y,u,rfl,rfl⟩
   ·rw[YY] at h;exact wpAny_eqBool_int h
   ·rw[YZ] at h;exact SeqAt.EqAt.int_str i t y u _ _ _ _ h
  ·rcases hJ hv with ⟨j,u,rfl,rfl⟩ | ⟨y,u,rfl,rfl⟩
   ·rw[ZB] at h;exact SeqAt.EqAt.str_int x t j u _ _ _ _ h
   ·rw[ZC] at h;exact wpAny_eqBool_str h
 «strs»:=fun k x t v h=>by
  rcases hJ h with ⟨i,u,rfl,e⟩ | ⟨y,u,rfl,e⟩
  ·exact nomatch e
  ·injection e with e1 _
   subst e1;cases v<;>rfl
inductive V where
 | non | bl (b:Bool) | int (i:Int) | str (x:Str) | byt (b:Array UInt8) | flt (b:UInt64) | ref (a:Addr) | ty (n:String)
 deriving DecidableEq
def aV:V->Value->Prop
 | .non,u=>u=Value.none
 | .bl b,u=>u=Value.bool b
 | .int i,u=>∃ t,u=Value.int i t
 | .str x,u=>∃ t,u=Value.str x t
 | .byt b,u=>∃ t,u=Value.bytes b t
 | .flt b,u=>∃ t,u=Value.float b t
 | .ref a,u=>u=Value.ref a
 | .ty n,u=>u=Value.type n
abbrev aK:List V->List Value->Prop:=Paired aV
theorem aK.length {xs:List V}{us:List Value}(r:aK xs us):xs.length=us.length:=Paired.length r
theorem aK.get:∀ {xs:List V}{us:List Value}{i:Nat}{x:V},aK xs us->xs[i]?=some x->∃ u,us[i]?=some u/\aV x u
 | _,_,_,_,.nil,e=>by simp at e
 | _,_,0,_,.cons r _,e=>by simp at e;subst e;exact⟨_,rfl,r⟩
 | _,_,i+1,x,.cons _ t,e=>by
  obtain⟨u,h1,h2⟩:=aK.get (i:=i) (x:=x) t (by simpa using e);exact⟨u,by simpa using h1,h2⟩
theorem aK.set {x:V}{u:Value}(r:aV x u):∀ {xs:List V}{us:List Value}(i:Nat),aK xs us->aK (xs.set i x) (us.set i u)
 | _,_,_,.nil=>.nil
 | _,_,0,.cons _ t=>.cons r t
 | _,_,i+1,.cons q t=>.cons q (aK.set r i t)
theorem aK.append:∀ {xs ys:List V}{us ws:List Value},aK xs us->aK ys ws->aK (xs++ys) (us++ws)
 | _,_,_,_,.nil,s=>s
 | _,_,_,_,.cons r t,s=>.cons r (aK.append t s)
theorem aK.none_of:∀ {xs:List V}{us:List Value}{i:Nat},aK xs us->xs[i]?=none->us[i]?=none:=fun {xs us i} r e=>by
 have h1:=r.length;have h2:xs.length<=i:=List.getElem?_eq_none_iff.mp e;exact List.getElem?_eq_none_iff.mpr (by lia)
def EA:Option V->Option Value->Prop
 | some v,some u=>aV v u
 | none,none=>True
 | _,_=>False
def KV {κ:Type}:List (κ × V)->List (κ × Value)->Prop:=Paired fun (p:κ × V) (q:κ × Value)=>p.1=q.1/\aV p.2 q.2
def kV:Key->V
 | .inl i=>.int i
 | .inr x=>.str x
inductive HO where
 /-- a list -/
 | lst (xs : List V)
 /-- a tuple (never changes) -/
 | tup (xs : List V)
 /-- a dict whose keys are ints and texts; one whose keys are tuples of ints and texts (the empty one is both) -/
 | dK (kvs : List (Key × V)) | dT (kvs : List (List Key × V))
 /-- a set of ints: its members, its size -/
 | set (S : Int -> Bool) (n : Nat)
 /-- an instance of the class at C, its dict at dx, its attributes -/
 | ins (C dx : Addr) (fs : List (Str × V))
 /-- the dict of the instance at x -/
 | own (x : Addr)
 /-- the dict of an exception -/
 | xd (fs : List (Str × V))
 /-- a bound method, f of x -/
 | met (f x : Addr)
 /-- a range object lo, lo + 1, .. below hi -/
 | rng (lo hi : Int)
 /-- a thing that is known to the object (the script; a dict while a loop walks it): read, never written while it is so -/
 | frz (o : Obj) (u : HO)
 /-- a code object's table -/
 | tbl (ps : Array Value)
 /-- any other thing, by what is true of its one object (a def of one's own: SetO a S n := HO.ext fun h => ..) -/
 | ext (φ : Heap -> Prop)
 /-- a code object's table that may hold the code q of a lambda at pos, which is tracked as its own -/
 | tbc (pos : Pos) (q : Str)
abbrev Hp:=Addr->Option HO
def upd (H:Hp) (a:Addr) (o:HO):Hp:=fun b=>if b=a then some o else H b
theorem cU {H:Hp}{a:Addr}{o:HO}:upd H a o a=some o:=by unfold upd;rw[if_pos rfl]
theorem aS {H:Hp}{a b:Addr}{o:HO}(h:b≠a):upd H a o b=H b:=by unfold upd;rw[if_neg h]
theorem fS {H:Hp}{a b:Addr}{o:HO}(h:H a=some o) (h':H b=none):a≠b:=by
 intro e;subst e;rw[h] at h';cases h'
section
variable (P:Program) (w:World)
def cN (H : Hp) (h : Heap) (a : Addr) : HO -> Prop
 | .lst xs => xs.length <= sizeLine /\ ∃ (its : List Value) (n : Nat), aK xs its /\ h.get? a = some { cls := .type "list", data := .seq its.toArray n }
 | .tup xs => xs.length <= sizeLine /\ ∃ its : List Value, aK xs its /\ IsTup h a its.toArray
 | .dK kvs => kvs.length <= sizeLine /\ (a == sysModules) = false /\ ∃ vs, KV kvs vs /\ h.DictOf (BR P w) a vs
 | .dT kvs => kvs.length <= sizeLine /\ (a == sysModules) = false /\ ∃ xs : List (List Key × Addr × Value),
   Paired (fun (p : List Key × V) (q : List Key × Addr × Value) => p.1 = q.1 /\ H q.2.1 = some (.tup (p.1.map kV)) /\ aV p.2 q.2.2) kvs xs /\
   ∃ o es ep, h.get? a = some o /\ o.ExactDict /\ o.data = .dict es ep /\ es.toList = xs.map (entryOfKey (tupleKind (BR P w))) /\ (xs.map (·.1)).Nodup
 | .set S n => h.SetOf (intKind P w) a S n
 | .ins C dx fs => H dx = some (.own a) /\ fs.length <= 1000 /\ dx ≠ a /\ h.get? a = some (PySem.W.instObj C dx) /\
   ∃ mA, h.Ns1 dx mA /\ (∀ f, EA (fs.lookup f) (mA f)) /\ PySem.Within mA (fs.map (·.1))
 | .own _ => ∃ o, h.get? a = some o
 | .xd fs => ∃ mA, h.Ns1 a mA /\ ∀ f, EA (fs.lookup f) (mA f)
 | .rng lo hi => ∃ t u v, h.get? a = some { cls := .type "range", data := .fields #[.int lo t, .int hi u, .int 1 v] }
 | .frz o u => h.get? a = some o /\ cN H h a u
 | .tbl ps => h.get? a = some { cls := .none, data := .fields ps }
 | .met f x => h.get? a = some (PySem.W.methodObj (.ref f) (.ref x))
 | .tbc pos q => ∃ ps : Array Value, h.get? a = some { cls := .none, data := .fields ps } /\ TriplesOk ps.toList /\ (codeAmong pos ps.toList = none \/ ∃ c oc vs t, codeAmong pos ps.toList = some (.ref c) /\ H c = some (.own a) /\ h.get? c = some oc /\ oc.data = .fields vs /\ vs[1]? = some (.str q t))
 | .ext φ => φ h /\ (∃ o, h.get? a = some o) /\ ∀ h1 h2 : Heap, φ h1 -> (∀ o, h1.get? a = some o -> h2.get? a = some o) -> φ h2
def HOk (H:Hp) (h:Heap):Prop:=∀ a o,H a=some o->cN P w H h a o
end
section
variable {P:Program}{w:World}{H H':Hp}{h h':Heap}{a:Addr}{o:HO}
theorem cN.lt (x:cN P w H h a o):a<h.objs.size:=by
 cases o with
 | lst xs=>obtain⟨_,_,_,_,e⟩:=x;exact aKx e
 | tup xs=>obtain⟨_,_,_,p⟩:=x;exact p.lt
 | dK kvs=>obtain⟨_,_,_,_,o,_,_,e,_⟩:=x;exact aKx e
 | dT kvs=>obtain⟨_,_,_,_,o,_,_,e,_⟩:=x;exact aKx e
 | set S n=>obtain⟨o,_,_,_,e,_⟩:=x;exact aKx e
 | ins C dx fs=>obtain⟨_,_,_,e,_⟩:=x;exact aKx e
 | own y=>obtain⟨_,e⟩:=x;exact aKx e
 | xd fs=>obtain⟨_,⟨_,_,_,e,_⟩,_⟩:=x;exact aKx e
 | rng lo hi=>obtain⟨_,_,_,e⟩:=x;exact aKx e
 | frz ob u=>obtain⟨e,_⟩:=x;exact aKx e
 | tbl ps=>exact aKx (show h.get? a=some _ from x)
 | met f y=>exact aKx (show h.get? a=some _ from x)
 | ext φ=>obtain⟨_,⟨_,e⟩,_⟩:=x;exact aKx e
 | tbc pos q=>obtain⟨_,e,_⟩:=x;exact aKx e
theorem Paired.mapP {α β:Type}{F G:α->β->Prop}:∀ {l₁:List α}{l₂:List β},Paired F l₁ l₂->(∀ a b,F a b->G a b)->Paired G l₁ l₂
 | _,_,.nil,_=>.nil
 | _,_,.cons r t,f=>.cons (f _ _ r) (Paired.mapP t f)
theorem cN.stay (x:cN P w H h a o) (k:∀ b u,(b=a\/H b=some (.own a))->h.get? b=some u->h'.get? b=some u)
  (ho:∀ b,H b=some (.own a)->H' b=some (.own a)) (ht:∀ b xs,H b=some (.tup xs)->H' b=some (.tup xs)):cN P w H' h' a o:=by
 induction o with
 | lst xs=>obtain⟨z,its,n,r,e⟩:=x;exact⟨z,its,n,r,k _ _ (.inl rfl) e⟩
 | tup xs=>obtain⟨z,its,r,ob,e,c⟩:=x;exact⟨z,its,r,ob,k _ _ (.inl rfl) e,c⟩
 | dK kvs=>obtain⟨z,y,vs,r,ob,es,ep,e,c⟩:=x;exact⟨z,y,vs,r,ob,es,ep,k _ _ (.inl rfl) e,c⟩
 | dT kvs=>
  obtain⟨z,y,xs,r,ob,es,ep,e,c⟩:=x;exact⟨z,y,xs,Paired.mapP r fun p q z=>⟨z.1,ht _ _ z.2.1,z.2.2⟩,ob,es,ep,k _ _ (.inl rfl) e,c⟩
 | set S n=>obtain⟨ob,es,ep,t,e,c⟩:=x;exact⟨ob,es,ep,t,k _ _ (.inl rfl) e,c⟩
 | ins C dx fs=>
  obtain⟨d,z,ne,e,mA,⟨od,es,ep,e2,c⟩,r⟩:=x;exact⟨ho _ d,z,ne,k _ _ (.inl rfl) e,mA,⟨od,es,ep,k _ _ (.inr d) e2,c⟩,r⟩
 | own y=>obtain⟨ob,e⟩:=x;exact⟨ob,k _ _ (.inl rfl) e⟩
 | xd fs=>obtain⟨mA,⟨od,es,ep,e,c⟩,r⟩:=x;exact⟨mA,⟨od,es,ep,k _ _ (.inl rfl) e,c⟩,r⟩
 | rng lo hi=>obtain⟨t,u,v,e⟩:=x;exact⟨t,u,v,k _ _ (.inl rfl) e⟩
 | frz ob u ih=>obtain⟨e,q⟩:=x;exact⟨k _ _ (.inl rfl) e,ih q⟩
 | tbl ps=>
  have e:h.get? a=some { cls:=.none,data:=.fields ps }:=x;show h'.get? a=some { cls:=.none,data:=.fields ps };exact k a _ (.inl rfl) e
 | met f y=>
  have e:h.get? a=some (PySem.W.methodObj (.ref f) (.ref y)):=x;show h'.get? a=some (PySem.W.methodObj (.ref f) (.ref y));exact k a _ (.inl rfl) e
 | ext φ=>obtain⟨p,⟨o,e⟩,st⟩:=x;exact⟨st _ _ p fun o q=>k _ _ (.inl rfl) q,⟨o,k _ _ (.inl rfl) e⟩,st⟩
 | tbc pos q=>
  obtain⟨ps,e,t,r⟩:=x;refine⟨ps,k _ _ (.inl rfl) e,t,?_⟩;rcases r with r | ⟨c,oc,vs,t,r1,r2,r3,r4,r5⟩
  ·exact .inl r
  ·exact .inr ⟨c,oc,vs,t,r1,ho _ r2,k _ _ (.inr r2) r3,r4,r5⟩
theorem HOk.lt (x:HOk P w H h) (e:H a=some o):a<h.objs.size:=(x a o e).lt
theorem HOk.fresh (x:HOk P w H h) (e:h.objs.size<=a):H a=none:=by
 cases q:H a with
 | none=>rfl
 | some u=>exact absurd (aKe (x.lt q) e) (aMi _)
theorem HOk.kept (x:HOk P w H h) (k:∀ b u,h.get? b=some u->h'.get? b=some u):HOk P w H h':=fun a o e=>
 (x a o e).stay (fun b u _ q=>k b u q) (fun _ q=>q) fun _ _ q=>q
theorem HOk.laid (x:HOk P w H h) (k:∀ b u,h.get? b=some u->h'.get? b=some u) (hp:h.objs.size<=a) (new:cN P w (upd H a o) h' a o):HOk P w (upd H a o) h':=fun b u e=>by
 have hn:=x.fresh hp
 by_cases hb:b=a
 ·subst hb;rw[cU] at e;cases e;exact new
 ·rw[aS hb] at e
  exact (x b u e).stay (fun c v _ q=>k c v q) (fun c q=>by rw[aS (fS q hn)];exact q) fun c xs q=>by rw[aS (fS q hn)];exact q
end
def Rd (H:Hp) (a:Addr) (u:HO):Prop:=H a=some u\/∃ o,H a=some (.frz o u)
theorem Rd.ok {P:Program}{w:World}{H:Hp}{h:Heap}{a:Addr}{u:HO}(r:Rd H a u) (x:HOk P w H h):cN P w H h a u:=by
 rcases r with r | ⟨o,r⟩
 ·exact x a u r
 ·obtain⟨_,q⟩:=x a _ r
  exact q
def Mut:Option HO->Prop
 | some (.lst _)=>True
 | some (.dK _)=>True
 | some (.dT _)=>True
 | some (.set _ _)=>True
 | some (.ins _ _ _)=>True
 | some (.ext _)=>True
 | _=>False
section
variable {P:Program}{w:World}{H:Hp}{h h':Heap}{x e:Addr}{o':HO}
theorem HOk.write (ok:HOk P w H h) (mu:Mut (H x)) (he:e=x\/H e=some (.own x)) (k:∀ b u,b≠e->h.get? b=some u->h'.get? b=some u) (heo:∃ u,h'.get? e=some u)
  (new:cN P w (upd H x o') h' x o'):HOk P w (upd H x o') h':=fun b u q=>by
 have nown:∀ c y,H c=some (.own y)->c≠x:=fun c y r z=>by subst z;rw[r] at mu;exact mu
 have ntup:∀ c xs,H c=some (.tup xs)->c≠x:=fun c xs r z=>by subst z;rw[r] at mu;exact mu
 by_cases hb:b=x
 ·subst hb;rw[cU] at q;cases q;exact new
 ·rw[aS hb] at q
  by_cases hbe:b=e
  ·have q':H b=some (.own x):=by
    rcases he with z | z
    ·exact absurd (hbe.trans z) hb
    ·rw[hbe];exact z
   rw[q] at q';cases q';obtain⟨v,hv⟩:=heo;exact⟨v,by rw[hbe];exact hv⟩
  ·refine (ok b u q).stay (fun c v hc r=>k c v ?_ r) (fun c r=>by rw[aS (nown c b r)];exact r) fun c xs r=>by rw[aS (ntup c xs r)];exact r
   rcases hc with rfl | hc
   ·exact hbe
   ·rintro rfl
    rcases he with z | z
    ·exact nown c b hc z
    ·rw[hc] at z;cases z;exact hb rfl
end
structure Un (fs ex:List Addr) (H H':Hp) (h h':Heap):Prop where
 keep:∀ b o,h.get? b=some o->H b=none->b ∉ fs->b ∉ ex->h'.get? b=some o
 slot:∀ b o,h.get? b=some o->H b=none->b∈fs->b ∉ ex->∃ sl,h'.get? b=some { o with slots:=sl }
 free:∀ b o,h.get? b=some o->H b=none->b ∉ ex->H' b=none
 there:∀ b o,h.get? b=some o->b ∉ ex->∃ o',h'.get? b=some o'
 tups:∀ b xs,H b=some (.tup xs)->H' b=some (.tup xs)
 frzs:∀ b o u,H b=some (.frz o u)->H' b=some (.frz o u)
 tbls:∀ b ps,H b=some (.tbl ps)->∃ more,H' b=some (.tbl (ps++more))
section
variable {fs fs' ex ex':List Addr}{H H1 H2:Hp}{h h1 h2 h':Heap}{a x e:Addr}{o:HO}
theorem Un.any (u:Un fs ex H H1 h h1) {b:Addr}{ob:Obj}(q:h.get? b=some ob) (n:H b=none) (hx:b ∉ ex):∃ sl,h1.get? b=some { ob with slots:=sl }:=by
 by_cases hb:b∈fs
 ·exact u.slot b ob q n hb hx
 ·exact⟨ob.slots,u.keep b ob q n hb hx⟩
theorem Un.kept (k:∀ b u,h.get? b=some u->h'.get? b=some u):Un fs ex H H h h':=
 ⟨fun b ob q _ _ _=>k b ob q,fun b ob q _ _ _=>⟨ob.slots,k b ob q⟩,fun _ _ _ n _=>n,fun b ob q _=>⟨ob,k b ob q⟩,fun _ _ q=>q,fun _ _ _ q=>q,fun _ ps q=>⟨#[],by rw[q];simp⟩⟩
theorem Un.refl:Un fs ex H H h h:=Un.kept fun _ _ q=>q
theorem Un.laid (k:∀ b u,h.get? b=some u->h'.get? b=some u) (hp:h.objs.size<=a) (hn:H a=none):Un fs ex H (upd H a o) h h' where
 keep:=fun b u q _ _ _=>k b u q
 slot:=fun b u q _ _ _=>⟨u.slots,k b u q⟩
 free:=fun b u q n _=>by rw[aS (aMo (aKe (aKx q) hp))];exact n
 there:=fun b u q _=>⟨u,k b u q⟩
 tups:=fun b xs q=>by rw[aS (fS q hn)];exact q
 frzs:=fun b u xs q=>by rw[aS (fS q hn)];exact q
 tbls:=fun b ps q=>⟨#[],by rw[aS (fS q hn),q];simp⟩
theorem Un.write (mu:Mut (H x)) (he:e=x\/H e=some (.own x)) (k:∀ b u,b≠e->h.get? b=some u->h'.get? b=some u) (heo:∃ u,h'.get? e=some u):Un fs ex H (upd H x o) h h':=by
 have hx:∀ b,H b=none->b≠x:=fun b n z=>by subst z;rw[n] at mu;exact mu
 have hb:∀ b,H b=none->b≠e:=fun b n z=>by
  subst z;rcases he with r | r
  ·exact hx b n r
  ·rw[n] at r;cases r
 have hm:∀ b u,H b=some u->¬ Mut (some u)->b≠x:=fun b u q nm z=>by subst z;rw[q] at mu;exact nm mu
 refine⟨fun b u q n _ _=>k b u (hb b n) q,fun b u q n _ _=>⟨u.slots,k b u (hb b n) q⟩,fun b u q n _=>by rw[aS (hx b n)];exact n,fun b u q _=>?_,
  fun b xs q=>by rw[aS (hm b _ q fun z=>z)];exact q,fun b u xs q=>by rw[aS (hm b _ q fun z=>z)];exact q,fun b ps q=>⟨#[],by rw[aS (hm b _ q fun z=>z),q];simp⟩⟩
 by_cases hbe:b=e
 ·subst hbe;exact heo
 ·exact⟨u,k b u hbe q⟩
end
def trk (h:Heap) (H:Hp):List Addr:=(List.range h.objs.size).filter fun a=>(H a).isSome
def hG (h:Heap) (H:Hp):Heap:=PySem.W.hideAll h (trk h H)
theorem XJ (h:Heap) (H:Hp):(hG h H).objs.size=h.objs.size:=PySem.W.hideAll_size _ _
theorem XI {h:Heap}{H:Hp}{b:Addr}{o:Obj}(e:h.get? b=some o) (n:H b=none):(hG h H).get? b=some o:=
 PySem.W.hideAll_get _ e fun hm=>by
  have q:(H b).isSome=true:=(aM1.mp hm).2;rw[n] at q;simp at q
theorem aAx {h:Heap}{H:Hp}{b:Addr}{o:Obj}(e:(hG h H).get? b=some o):h.get? b=some o/\H b=none:=by
 have e':h.get? b=some o:=PySem.W.of_hideAll (trk h H) e;refine⟨e',?_⟩;cases q:H b with
 | none=>rfl
 | some x=>
  have hm:b∈trk h H:=aM1.mpr ⟨aKd.mpr (aKx e'),by simp[q]⟩;have z:(hG h H).get? b=none:=PySem.W.hideAll_none (trk h H) hm;rw[z] at e;cases e
def QL (g h:Heap) (L:Addr):List (Addr × Obj):=(List.range h.objs.size).filterMap fun a=>if a=L\/(g.get? a).isSome=true then none else (h.get? a).map fun o=>(a,o)
def rest (g h:Heap) (L d:Addr):List (Addr × Obj):=(QL g h L).filter fun p=>decide (p.1≠d)
structure Mod (K:PySem.W.Frag) (mg:Str->Option Value) (base:Heap):Prop where
 kin:K.In base
 glob:base.Ns mainGlobals mg
 blt:∃ mb,base.Ns builtinsNs mb/\∀ x:Str,x ≠ "__name__" -> mb x=bootBuiltins x
 nolimit:base.NoLimit
structure Cx where
 prog:Program
 w:World
 K:PySem.W.Frag
 mg:Str->Option Value
 base:Heap
 A:Around
 N:List Str
 s₀:Shared
 H₀:Hp
 env:Env
 outer:List Env
 stack:List Env
 ex:List Addr
 fn:Str->Bool
 calm:Bool
 pn:List (Addr × Obj)
 xe:Value->Shared->Prop
def frs (l:List Env):List Addr:=l.filterMap (·.frame)
abbrev Cx.fs (X:Cx):List Addr:=frs X.outer
def Vis (sc:Scope) (x:Str):Prop:=sc.names.lookup x=some .local\/sc.names.lookup x=some .cell\/sc.names.lookup x=some .free
def Loc (sc:Scope) (x:Str):Prop:=sc.names.lookup x=some .local\/sc.names.lookup x=some .cell
def QF (env:Env) (h:Heap) (m:Str->Option Value) (x:Str) (u:Value):Prop:=
 (env.kindOf x=some .local/\m x=some u)\/((env.kindOf x=some .cell\/env.kindOf x=some .free)/\∃ c,env.cells.lookup x=some c/\h.IsCell c (some u))
structure Cx.Ok (X:Cx):Prop where
 mod:Mod X.K X.mg X.base
 kind:X.env.scope.kind=.function
 glob:X.env.globals=mainGlobals
 blt:X.env.builtins=builtinsNs
 above:X.s₀.heap.objs.size<=X.env.locals
 inj:∀ x y c,X.env.cells.lookup x=some c->X.env.cells.lookup y=some c->x=y
 has:∀ x,(X.env.kindOf x=some .cell\/X.env.kindOf x=some .free)->∃ c,X.env.cells.lookup x=some c
 cab:∀ x c,X.fn x=true->X.env.cells.lookup x=some c->X.s₀.heap.objs.size<=c
 hd:X.calm=true->X.A.handled=none
 frames:X.A.frames=some X.stack
 stk:X.stack=X.outer\/(X.stack=X.env::X.outer/\X.env.frame=some X.env.locals)
 exf:∀ b∈X.ex,b≠X.env.locals/\∀ x c,X.env.cells.lookup x=some c->c≠b
 bs:∀ b o,X.base.get? b=some o->X.s₀.heap.get? b=some o/\X.H₀ b=none
 bsz:X.base.objs.size<=X.s₀.heap.objs.size
 noex:∀ b o,X.base.get? b=some o->b ∉ X.ex
 exfs:∀ b∈X.ex,b ∉ X.fs
 funs:X.s₀.heap.FunFrames X.base X.outer
 frf:∀ b∈X.fs,X.H₀ b=none
structure Inv (X:Cx) (pins:List (Addr × Obj)) (σ:List (Option V)) (H:Hp) (s:Shared):Prop where
 ok:X.Ok
 os:s.os=X.s₀.os
 bare:AllBare s.gens
 base:Un X.fs X.ex X.H₀ H X.s₀.heap s.heap
 loc:∃ m,s.heap.Ns X.env.locals m/\∀ (i:Nat) (x:Str) (v:V),X.N[i]?=some x->σ[i]?=some (some v)->Vis X.env.scope x->∃ u,aV v u/\QF X.env s.heap m x u
 cell:∀ x c,X.env.cells.lookup x=some c->∃ v,s.heap.IsCell c v
 free:H X.env.locals=none
 freeC:∀ x c,X.env.cells.lookup x=some c->H c=none
 pin:∀ p∈X.pn++pins,s.heap.get? p.1=some p.2/\H p.1=none/\p.1≠X.env.locals/\p.1 ∉ X.fs/\∀ v,p.2.data≠.cell v
 hok:HOk X.prog X.w H s.heap
 len:σ.length=X.N.length
section
variable {X:Cx}{pins:List (Addr × Obj)}{σ:List (Option V)}{H H':Hp}{s:Shared}{h':Heap}
theorem Cx.Ok.nofr (ok:X.Ok) {b:Addr}{o:Obj}(e:X.base.get? b=some o):b ∉ X.fs:=fun hb=>by
 have:=(ok.funs.mem hb).1;rw[e] at this;cases this
theorem Inv.bs (I:Inv X pins σ H s):∀ b o,X.base.get? b=some o->s.heap.get? b=some o/\H b=none:=fun b o e=>
 ⟨I.base.keep b o (I.ok.bs b o e).1 (I.ok.bs b o e).2 (I.ok.nofr e) (I.ok.noex b o e),I.base.free b o (I.ok.bs b o e).1 (I.ok.bs b o e).2 (I.ok.noex b o e)⟩
theorem Inv.bk (I:Inv X pins σ H s):∀ b o,X.base.get? b=some o->s.heap.get? b=some o:=fun b o e=>(I.bs b o e).1
theorem Inv.mod (I:Inv X pins σ H s):Mod X.K X.mg X.base:=I.ok.mod
theorem Inv.kIn (I:Inv X pins σ H s):X.K.In s.heap:=I.ok.mod.kin.keeps I.bk
theorem Inv.nolimit (I:Inv X pins σ H s):s.heap.NoLimit:=I.ok.mod.nolimit.keeps I.bk
theorem Inv.lt (I:Inv X pins σ H s):X.env.locals<s.heap.objs.size:=let ⟨_,hn,_⟩:=I.loc;hn.lt
theorem Inv.sz (I:Inv X pins σ H s):X.s₀.heap.objs.size<=s.heap.objs.size:=aMh I.ok.above (aMf I.lt)
theorem Inv.nofs (I:Inv X pins σ H s) {a:Addr}(h:s.heap.objs.size<=a):a ∉ X.fs:=fun hb=>by
 obtain⟨_,o,ho,_⟩:=I.ok.funs.mem hb;exact absurd (aKe (aKx ho) (aMh I.sz h)) (aMi _)
theorem Inv.cne (I:Inv X pins σ H s):∀ x c,X.env.cells.lookup x=some c->c≠X.env.locals:=fun x c e z=>by
 obtain⟨v,o,ho,hd⟩:=I.cell x c e;obtain⟨m,⟨o',es,ep,ho',hd',_⟩,_⟩:=I.loc;rw[z,ho'] at ho;cases ho;rw[hd'] at hd;cases hd
theorem Inv.funs (I:Inv X pins σ H s):s.heap.FunFrames X.base X.outer:=by
 have all:∀ (l:List Env),(∀ b∈frs l,b∈X.fs)->X.s₀.heap.FunFrames X.base l->s.heap.FunFrames X.base l:=by
  intro l
  induction l with
  | nil=>intro _ _;trivial
  | cons env r ih=>
   intro hs hl;obtain⟨hk,⟨L,o,hf,hn,ho,hd⟩,hr⟩:=hl;have hL:L∈X.fs:=hs L (by unfold frs;rw[aL7,hf];exact aKa);obtain⟨sl,e⟩:=I.base.slot L o ho (I.ok.frf L hL) hL fun z=>I.ok.exfs L z hL;exact⟨hk,⟨L,_,hf,hn,e,hd⟩,ih (fun b hb=>hs b (by unfold frs;rw[aL7,hf];exact aK9 _ hb)) hr⟩
 exact all X.outer (fun _ hb=>hb) I.ok.funs
theorem Inv.stack (I:Inv X pins σ H s):s.heap.FunFrames X.base X.stack:=by
 rcases I.ok.stk with e | ⟨e,hf⟩
 ·rw[e];exact I.funs
 ·rw[e]
  obtain⟨m,hn,_⟩:=I.loc;refine .cons (by rw[I.ok.kind];decide) hf hn ?_ I.funs;exact Heap.get?_none_of_le (aMh I.ok.bsz I.ok.above)
theorem Inv.stkSub (I:Inv X pins σ H s):∀ b∈frs X.stack,b∈X.env.locals::X.fs:=fun b hb=>by
 rcases I.ok.stk with e | ⟨e,hf⟩
 ·rw[e] at hb;exact aK9 _ hb
 ·rw[e] at hb
  unfold frs at hb;rw[aL7,hf] at hb;exact hb
theorem Inv.stkFree (I:Inv X pins σ H s):∀ b∈frs X.stack,H b=none:=fun b hb=>by
 rcases aKi.mp (I.stkSub b hb) with e | hb
 ·rw[e];exact I.free
 ·obtain⟨_,o,ho,_⟩:=I.ok.funs.mem hb
  exact I.base.free b o ho (I.ok.frf b hb) fun z=>I.ok.exfs b z hb
theorem Inv.step {g':Array GenState}{t':Nat}{d':Drawn}{ch:List Addr}(I:Inv X pins σ H s)
  (hch:∀ b∈ch,(b∈X.ex\/X.s₀.heap.objs.size<=b)/\b≠X.env.locals/\(∀ x c,X.env.cells.lookup x=some c->c≠b)/\∀ p∈X.pn++pins,p.1≠b)
  (keep:∀ b o,b≠X.env.locals->b ∉ X.fs->b ∉ ch->s.heap.get? b=some o->H b=none->h'.get? b=some o)
  (slot:∀ b o,b≠X.env.locals->b∈X.fs->b ∉ ch->s.heap.get? b=some o->H b=none->∃ sl,h'.get? b=some { o with slots:=sl }) (free:∀ b o,b ∉ ch->s.heap.get? b=some o->H b=none->H' b=none)
  (there:∀ b o,b ∉ ch->s.heap.get? b=some o->∃ o',h'.get? b=some o')
  (tups:∀ b xs,H b=some (.tup xs)->H' b=some (.tup xs)) (frzs:∀ b o u,H b=some (.frz o u)->H' b=some (.frz o u)) (tbls:∀ b ps,H b=some (.tbl ps)->∃ more,H' b=some (.tbl (ps++more)))
  (ns:∀ m,s.heap.Ns X.env.locals m->h'.Ns X.env.locals m) (hok:HOk X.prog X.w H' h') (hg:AllBare g'):
  Inv X pins σ H' { s with heap:=h',gens:=g',drawn:=d',toks:=t' }:=by
 have neL:∀ b o,X.s₀.heap.get? b=some o->b≠X.env.locals:=fun b o e=>aMo (aKe (aKx e) I.ok.above);have neC:∀ b o,X.s₀.heap.get? b=some o->b ∉ X.ex->b ∉ ch:=fun b o e hx hb=>by
  rcases (hch b hb).1 with z | z
  ·exact hx z
  ·exact absurd (aKe (aKx e) z) (aMi _)
 have cellK:∀ x c,X.env.cells.lookup x=some c->∀ v,s.heap.IsCell c v->h'.IsCell c v:=fun x c e v ⟨o,ho,hd⟩=>by
  have nch:c ∉ ch:=fun z=>(hch c z).2.2.1 x c e rfl
  by_cases hc:c∈X.fs
  ·obtain⟨sl,q⟩:=slot c o (I.cne x c e) hc nch ho (I.freeC x c e)
   exact⟨_,q,hd⟩
  ·exact⟨o,keep c o (I.cne x c e) hc nch ho (I.freeC x c e),hd⟩
 refine⟨I.ok,I.os,hg,⟨fun b o e n hb hx=>?_,fun b o e n hb hx=>?_,fun b o e n hx=>?_,fun b o e hx=>?_,fun b xs e=>tups b xs (I.base.tups b xs e),fun b o xs e=>frzs b o xs (I.base.frzs b o xs e),fun b ps e=>?_⟩,?_,fun x c e=>?_,?_,fun x c e=>?_,fun p hp=>?_,hok,I.len⟩
 ·exact keep b o (neL b o e) hb (neC b o e hx) (I.base.keep b o e n hb hx) (I.base.free b o e n hx)
 ·obtain⟨sl,e1⟩:=I.base.slot b o e n hb hx
  obtain⟨sl',e2⟩:=slot b _ (neL b o e) hb (neC b o e hx) e1 (I.base.free b o e n hx);exact⟨sl',e2⟩
 ·obtain⟨o',e1⟩:=I.base.there b o e hx
  exact free b o' (neC b o e hx) e1 (I.base.free b o e n hx)
 ·obtain⟨o',e1⟩:=I.base.there b o e hx
  exact there b o' (neC b o e hx) e1
 ·obtain⟨m1,e1⟩:=I.base.tbls b ps e
  obtain⟨m2,e2⟩:=tbls b _ e1;exact⟨m1++m2,by rw[e2,Array.append_assoc]⟩
 ·obtain⟨m,hn,hl⟩:=I.loc
  refine⟨m,ns m hn,fun i x v e1 e2 e3=>?_⟩;obtain⟨u,r,l⟩:=hl i x v e1 e2 e3;refine⟨u,r,?_⟩;rcases l with l | ⟨k,c,e,z⟩
  ·exact .inl l
  ·exact .inr ⟨k,c,e,cellK x c e _ z⟩
 ·obtain⟨v,z⟩:=I.cell x c e
  exact⟨v,cellK x c e v z⟩
 ·obtain⟨m,⟨o,_,_,ho,_⟩,_⟩:=I.loc
  exact free _ o (fun z=>(hch _ z).2.1 rfl) ho I.free
 ·obtain⟨v,o,ho,hd⟩:=I.cell x c e
  exact free c o (fun z=>(hch c z).2.2.1 x c e rfl) ho (I.freeC x c e)
 ·obtain⟨e,n,ne,nf,d⟩:=I.pin p hp
  have nch:p.1 ∉ ch:=fun z=>(hch p.1 z).2.2.2 p hp rfl;exact⟨keep p.1 p.2 ne nf nch e n,free p.1 p.2 nch e n,ne,nf,d⟩
theorem Inv.un {t':Nat}(I:Inv X pins σ H s) (u:Un X.fs [] H H' s.heap h') (hok:HOk X.prog X.w H' h'):Inv X pins σ H' { s with heap:=h',toks:=t' }:=by
 obtain⟨m,⟨o,es,ep,ho,r⟩,_⟩:=id I.loc;obtain⟨sl,hL⟩:=u.any ho I.free (by simp);exact I.step (g':=s.gens) (d':=s.drawn) (ch:=[]) (fun _ z=>nomatch z) (fun b o _ hb _ e n=>u.keep b o e n hb (by simp)) (fun b o _ hb _ e n=>u.slot b o e n hb (by simp)) (fun b o _ e n=>u.free b o e n (by simp)) (fun b o _ e=>u.there b o e (by simp)) u.tups u.frzs u.tbls (fun m' hm=>by
  obtain⟨o',es',ep',ho',r'⟩:=hm;rw[ho] at ho';cases ho';exact⟨_,es',ep',hL,r'⟩) hok I.bare
theorem Inv.call {g':Array GenState}{t':Nat}{d':Drawn}{ch:List Addr}(I:Inv X pins σ H s) (u:Un (frs X.stack) ch H H' s.heap h') (hok:HOk X.prog X.w H' h') (hg:AllBare g')
  (hch:∀ b∈ch,(b∈X.ex\/X.s₀.heap.objs.size<=b)/\b≠X.env.locals/\(∀ x c,X.env.cells.lookup x=some c->c≠b)/\∀ p∈X.pn++pins,p.1≠b):
  Inv X pins σ H' { s with heap:=h',gens:=g',drawn:=d',toks:=t' }:=by
 obtain⟨m,⟨o,es,ep,ho,r⟩,_⟩:=id I.loc;obtain⟨sl,hL⟩:=u.any ho I.free fun z=>(hch _ z).2.1 rfl;exact I.step (ch:=ch) hch (fun b o hL hb hc e n=>u.keep b o e n (fun z=>(aKi.mp (I.stkSub b z)).elim hL hb) hc) (fun b o _ _ hc e n=>u.any e n hc) (fun b o hc e n=>u.free b o e n hc) (fun b o hc e=>u.there b o e hc) u.tups u.frzs u.tbls (fun m' hm=>by
  obtain⟨o',es',ep',ho',r'⟩:=hm;rw[ho] at ho';cases ho';exact⟨_,es',ep',hL,r'⟩) hok hg
theorem Inv.turned {t':Nat}{it:Addr}(I:Inv X pins σ H s) (k:∀ b o,b≠it->s.heap.get? b=some o->h'.get? b=some o) (hn:H it=none) (hL:it≠X.env.locals)
  (h1:it∈X.ex\/X.s₀.heap.objs.size<=it) (h2:∀ x c,X.env.cells.lookup x=some c->c≠it) (h3:∀ p∈X.pn++pins,p.1≠it):Inv X pins σ H { s with heap:=h',toks:=t' }:=by
 have nit:∀ b u,H b=some u->b≠it:=fun b u e z=>by rw[z,hn] at e;cases e
 refine I.step (g':=s.gens) (d':=s.drawn) (ch:=[it]) (fun b hb=>?_) (fun b o _ _ hc e _=>k b o (fun z=>hc (by simp[z])) e) (fun b o _ _ hc e _=>⟨o.slots,k b o (fun z=>hc (by simp[z])) e⟩) (fun _ _ _ _ n=>n)
  (fun b o hc e=>⟨o,k b o (fun z=>hc (by simp[z])) e⟩) (fun _ _ e=>e) (fun _ _ _ e=>e) (fun b ps e=>⟨#[],by rw[e];simp⟩) (fun m hm=>?_) (fun b u e=>?_) I.bare
 ·have e:b=it:=by simpa using hb
  subst e;exact⟨h1,hL,h2,h3⟩
 ·obtain⟨o,es,ep,ho,r⟩:=hm
  exact⟨o,es,ep,k _ o (Ne.symm hL) ho,r⟩
 ·refine (I.hok b u e).stay (fun c v hc q=>k c v ?_ q) (fun _ q=>q) fun _ _ q=>q
  rcases hc with z | z
  ·rw[z];exact nit b u e
  ·exact nit c _ z
theorem Inv.tok (I:Inv X pins σ H s) (t:Nat):Inv X pins σ H { s with toks:=t }:=I.un (h':=s.heap) (t':=t) Un.refl I.hok
theorem Inv.kept {t':Nat}(I:Inv X pins σ H s) (k:∀ b u,s.heap.get? b=some u->h'.get? b=some u):Inv X pins σ H { s with heap:=h',toks:=t' }:=I.un (Un.kept k) (I.hok.kept k)
theorem Inv.laid {a:Addr}{o:HO}{t':Nat}(I:Inv X pins σ H s) (k:∀ b u,s.heap.get? b=some u->h'.get? b=some u) (hp:s.heap.objs.size<=a) (new:cN X.prog X.w (upd H a o) h' a o):
  Inv X pins σ (upd H a o) { s with heap:=h',toks:=t' }:=I.un (Un.laid k hp (I.hok.fresh hp)) (I.hok.laid k hp new)
theorem Inv.write {x e:Addr}{o:HO}{t':Nat}(I:Inv X pins σ H s) (mu:Mut (H x)) (he:e=x\/H e=some (.own x)) (k:∀ b u,b≠e->s.heap.get? b=some u->h'.get? b=some u) (heo:∃ u,h'.get? e=some u)
  (new:cN X.prog X.w (upd H x o) h' x o):Inv X pins σ (upd H x o) { s with heap:=h',toks:=t' }:=I.un (Un.write mu he k heo) (I.hok.write mu he k heo new)
theorem Inv.pins_of {pins':List (Addr × Obj)}(I:Inv X pins σ H s) (h:∀ p∈pins',s.heap.get? p.1=some p.2/\H p.1=none/\p.1≠X.env.locals/\p.1 ∉ X.fs/\∀ v,p.2.data≠.cell v):Inv X pins' σ H s:=
 ⟨I.ok,I.os,I.bare,I.base,I.loc,I.cell,I.free,I.freeC,fun p hp=>(aLy.mp hp).elim (fun z=>I.pin p (aLz _ z)) (h p),I.hok,I.len⟩
theorem BU {N:List Str}(hN:N.Nodup) {i j:Nat}{x:Str}(a:N[i]?=some x) (b:N[j]?=some x):i=j:=by
 obtain⟨h1,e1⟩:=aKb.mp a;obtain⟨h2,e2⟩:=aKb.mp b;exact (List.getElem_inj hN).mp (e1.trans e2.symm)
theorem MD {M:Model}{A:Around}{E:Value->Shared->Prop}{i:Nat}{x:Str}{v:V}{u:Value}{Q:Unit->Shared->Prop}(I:Inv X pins σ H s) (hN:X.N.Nodup) (hi:X.N[i]?=some x) (hx:Loc X.env.scope x) (r:aV v u)
  (h:∀ s',Inv X pins (σ.set i (some v)) H s'->(∃ a,Heap.SameBut a s.heap s'.heap/\(a=X.env.locals\/X.env.cells.lookup x=some a))->Q () s') (hf:X.fn x=true\/X.env.scope.names.lookup x=some .local:=by first | exact .inl rfl | exact .inr rfl | assumption):wpAny M A (storeName X.env x u) Q E s:=by
 obtain⟨m,hn,hl⟩:=id I.loc;have hcls:(X.env.scope.kind == .class||(X.env.scope.kind == .module&&X.env.locals != X.env.globals))=false:=by rw[I.ok.kind];rfl
 have hiσ:i<σ.length:=by rw[I.len];exact (aKb.mp hi).1
 have cne:=I.cne;have tracked:∀ {a:Addr} {h':Heap},(∃ o,s.heap.get? a=some o/\H a=none)->Heap.SameBut a s.heap h'->HOk X.prog X.w H h':=fun {a h'} ha hs b ob e=>by
  obtain⟨_,_,hfree⟩:=ha;refine (I.hok b ob e).stay (fun c w' hc q=>(hs.2 c ?_).trans q) (fun _ q=>q) fun _ _ q=>q;rintro rfl;rcases hc with rfl | hc
  ·rw[hfree] at e;cases e
  ·rw[hfree] at hc;cases hc
 rcases hx with hk | hk
 ·refine wpAny_storeName_local hk hn (fun h' hn' hs=>?_) hcls
  obtain⟨oL,_,_,hoL,_⟩:=id hn;refine h _ ⟨I.ok,I.os,I.bare,⟨fun b o e n hb hx=>?_,fun b o e n hb hx=>?_,I.base.free,fun b o e hx=>?_,I.base.tups,I.base.frzs,I.base.tbls⟩,⟨_,hn',fun j y v' e1 e2 e3=>?_⟩,fun y c e=>?_,I.free,I.freeC,fun p hp=>?_,tracked ⟨oL,hoL,I.free⟩ hs,by simpa using I.len⟩ ⟨_,hs,.inl rfl⟩
  ·exact (hs.2 b (aMo (aKe (aKx e) I.ok.above))).trans (I.base.keep b o e n hb hx)
  ·obtain⟨sl,e1⟩:=I.base.slot b o e n hb hx
   exact⟨sl,(hs.2 b (aMo (aKe (aKx e) I.ok.above))).trans e1⟩
  ·obtain⟨o',e1⟩:=I.base.there b o e hx
   exact⟨o',(hs.2 b (aMo (aKe (aKx e) I.ok.above))).trans e1⟩
  ·by_cases hj:j=i
   ·subst hj
    rw[hi] at e1;cases e1;rw[aLi hiσ] at e2;cases e2;exact⟨u,r,.inl ⟨hk,by simp⟩⟩
   ·rw[aKg (Ne.symm hj)] at e2
    obtain⟨u',r',q⟩:=hl j y v' e1 e2 e3;refine⟨u',r',?_⟩;rcases q with ⟨k,e⟩ | ⟨k,c,e,z⟩
    ·refine .inl ⟨k,?_⟩
     have:y≠x:=fun e=>hj (BU hN e1 (e ▸ hi));simp[this,e]
    ·exact .inr ⟨k,c,e,z.sameBut hs (cne y c e)⟩
  ·obtain⟨w',z⟩:=I.cell y c e
   exact⟨w',z.sameBut hs (cne y c e)⟩
  ·obtain⟨e,n,ne,nf,d⟩:=I.pin p hp
   exact⟨(hs.2 p.1 ne).trans e,n,ne,nf,d⟩
 ·have hfn:X.fn x=true:=by
   rcases hf with z | z
   ·exact z
   ·rw[z] at hk;cases hk
  obtain⟨c,hc⟩:=I.ok.has x (.inl hk);obtain⟨w',z⟩:=I.cell x c hc;refine wpAny_storeName_cell I.ok.kind hk hc z (fun h' hc' hs=>?_);obtain⟨oc,hoc,hocd⟩:=id z;refine h { s with heap:=h' } ⟨I.ok,I.os,I.bare,⟨fun b o e n hb hx=>?_,fun b o e n hb hx=>?_,I.base.free,fun b o e hx=>?_,I.base.tups,I.base.frzs,I.base.tbls⟩,⟨m,hn.sameBut hs (Ne.symm (cne x c hc)),fun j y v' e1 e2 e3=>?_⟩,fun y c' e=>?_,I.free,I.freeC,fun p hp=>?_,tracked ⟨oc,hoc,I.freeC x c hc⟩ hs,by simpa using I.len⟩ ⟨c,hs,.inr hc⟩
  ·exact (hs.2 b (aMo (aKe (aKx e) (I.ok.cab x c hfn hc)))).trans (I.base.keep b o e n hb hx)
  ·obtain⟨sl,e1⟩:=I.base.slot b o e n hb hx
   exact⟨sl,(hs.2 b (aMo (aKe (aKx e) (I.ok.cab x c hfn hc)))).trans e1⟩
  ·obtain⟨o',e1⟩:=I.base.there b o e hx
   exact⟨o',(hs.2 b (aMo (aKe (aKx e) (I.ok.cab x c hfn hc)))).trans e1⟩
  ·by_cases hj:j=i
   ·subst hj
    rw[hi] at e1;cases e1;rw[aLi hiσ] at e2;cases e2;exact⟨u,r,.inr ⟨.inl hk,c,hc,hc'⟩⟩
   ·rw[aKg (Ne.symm hj)] at e2
    obtain⟨u',r',q⟩:=hl j y v' e1 e2 e3;refine⟨u',r',?_⟩;rcases q with q | ⟨k,c',e,z'⟩
    ·exact .inl q
    ·refine .inr ⟨k,c',e,z'.sameBut hs ?_⟩
     rintro rfl;exact hj (BU hN e1 (I.ok.inj _ _ _ e hc ▸ hi))
  ·by_cases hcc:c'=c
   ·subst hcc;exact⟨_,hc'⟩
   ·obtain⟨w2,z2⟩:=I.cell y c' e
    exact⟨w2,z2.sameBut hs hcc⟩
  ·obtain⟨e,n,ne,nf,d⟩:=I.pin p hp
   refine⟨(hs.2 p.1 ?_).trans e,n,ne,nf,d⟩;intro q;rw[q,hoc] at e;have q':oc=p.2:=aK6 e;exact d w' (by rw[<- q'];exact hocd)
theorem zF {M:Model}{A:Around}{E:Value->Shared->Prop}{i:Nat}{x:Str}{v:V}{u:Value}{Q:Unit->Shared->Prop}(I:Inv X pins σ H s) (hN:X.N.Nodup) (hi:X.N[i]?=some x) (hx:Loc X.env.scope x) (r:aV v u)
  (h:∀ s',Inv X pins (σ.set i (some v)) H s'->Q () s') (hf:X.fn x=true\/X.env.scope.names.lookup x=some .local:=by first | exact .inl rfl | exact .inr rfl | assumption):wpAny M A (storeName X.env x u) Q E s:=
 MD I hN hi hx r (fun s' I' _=>h s' I') hf
theorem Inv.call' {s':Shared}{ch:List Addr}(I:Inv X pins σ H s) (ho:s'.os=s.os) (u:Un (frs X.stack) ch H H' s.heap s'.heap) (hok:HOk X.prog X.w H' s'.heap) (hg:AllBare s'.gens)
  (hch:∀ b∈ch,(b∈X.ex\/X.s₀.heap.objs.size<=b)/\b≠X.env.locals/\(∀ x c,X.env.cells.lookup x=some c->c≠b)/\∀ p∈X.pn++pins,p.1≠b):Inv X pins σ H' s':=by
 obtain⟨h',g',d',t',o'⟩:=s';have e:o'=s.os:=ho;subst e;exact I.call (g':=g') (t':=t') (d':=d') u hok hg hch
end
abbrev XK:=Value->Option Addr->Hp->Prop
abbrev St:=List (Option V)
abbrev VK:=V->Hp->Prop
abbrev TE:=St->Hp->VK->Prop
abbrev TT:=St->Hp->(Bool->Hp->Prop)->Prop
abbrev TA:=St->Hp->(List V->Hp->Prop)->Prop
structure Ends where
 nx:St->Hp->Prop
 rt:VK
 bk:St->Hp->Prop:=fun _ _=>False
 ct:St->Hp->Prop:=fun _ _=>False
abbrev TS:=Ends->St->Hp->Prop
def EP (X:Cx) (pins:List (Addr × Obj)) (σ:St) (Q:VK) (u:Value) (s':Shared):Prop:=∃ v H',Inv X pins σ H' s'/\aV v u/\Q v H'
def TP (X:Cx) (pins:List (Addr × Obj)) (σ:St) (Q:Bool->Hp->Prop) (b:Bool) (s':Shared):Prop:=∃ H',Inv X pins σ H' s'/\Q b H'
def AP (X:Cx) (pins:List (Addr × Obj)) (σ:St) (Q:List V->Hp->Prop) (us:List Value) (s':Shared):Prop:=∃ vs H',Inv X pins σ H' s'/\aK vs us/\Q vs H'
def SP (X:Cx) (pins:List (Addr × Obj)) (D:Ends) (f:Flow) (s':Shared):Prop:=
 match f with
 | .next=>∃ σ' H',Inv X pins σ' H' s'/\D.nx σ' H'
 | .brk=>∃ σ' H',Inv X pins σ' H' s'/\D.bk σ' H'
 | .cont=>∃ σ' H',Inv X pins σ' H' s'/\D.ct σ' H'
 | .ret u=>∃ v σ' H',Inv X pins σ' H' s'/\aV v u/\D.rt v H'
def PE (X:Cx) (e:Expr) (t:TE):Prop:=
 ∀ (pins:List (Addr × Obj)) (s:Shared) (σ:St) (H:Hp) (Q:VK),Inv X pins σ H s->t σ H Q->wpAny (model X.prog X.w) X.A (eval e X.env) (EP X pins σ Q) X.xe s
def PT (X:Cx) (e:Expr) (t:TT):Prop:=
 ∀ (pins:List (Addr × Obj)) (s:Shared) (σ:St) (H:Hp) (Q:Bool->Hp->Prop),Inv X pins σ H s->t σ H Q->wpAny (model X.prog X.w) X.A (isTrue e X.env (eval e X.env)) (TP X pins σ Q) X.xe s
def PW (X:Cx) (e:Expr) (t:TT):Prop:=
 ∀ (whole:Sem Value) (pins:List (Addr × Obj)) (s:Shared) (σ:St) (H:Hp) (Q:Bool->Hp->Prop),Inv X pins σ H s->t σ H Q->wpAny (model X.prog X.w) X.A (isTrue e X.env whole) (TP X pins σ Q) X.xe s
theorem PW.pt {X:Cx}{e:Expr}{t:TT}(h:PW X e t):PT X e t:=h _
def PA (X:Cx) (es:List Expr) (t:TA):Prop:=
 ∀ (pos:Pos) (pins:List (Addr × Obj)) (s:Shared) (σ:St) (H:Hp) (Q:List V->Hp->Prop),Inv X pins σ H s->t σ H Q->wpAny (model X.prog X.w) X.A (spliced (backTo pos (starEach es X.env))) (AP X pins σ Q) X.xe s
def PS (X:Cx) (st:Stmt) (t:TS):Prop:=
 ∀ (pins:List (Addr × Obj)) (s:Shared) (σ:St) (H:Hp) (D:Ends),Inv X pins σ H s->t D σ H->wpAny (model X.prog X.w) X.A (exec st X.env) (SP X pins D) X.xe s
def PSs (X:Cx) (st:List Stmt) (t:TS):Prop:=
 ∀ (pins:List (Addr × Obj)) (s:Shared) (σ:St) (H:Hp) (D:Ends),Inv X pins σ H s->t D σ H->wpAny (model X.prog X.w) X.A (execs st X.env) (SP X pins D) X.xe s
theorem thn {α:Type}{t:Sem α}{Q Q':α->Shared->Prop}{M:Model}{A:Around}{E:Value->Shared->Prop}{s:Shared}(h:wpAny M A t Q E s) (hQ:∀ a s,Q a s->Q' a s):wpAny M A t Q' E s:=wpAny_mono h hQ fun _ _ x=>x
section
variable {X:Cx}
def MJ (i:Nat):TE:=fun σ H Q=>∃ v,σ[i]?=some (some v)/\Q v H
def tC (v:V):TE:=fun _ H Q=>Q v H
theorem aD5 {i:Nat}{x:Str}{pos:Pos}(hN:X.N[i]?=some x) (hv:Vis X.env.scope x) (hd:(x == ("__debug__" : Str))=false:=by decide) (hcd:(x == ("__classdict__" : Str))=false:=by decide):PE X (.Name x pos) (MJ i):=by
 intro pins s σ H Q I h;obtain⟨v,e,h⟩:=h;obtain⟨m,hn,hl⟩:=I.loc;obtain⟨u,r,l⟩:=hl i x v hN e hv;have fin:EP X pins σ Q u s:=⟨v,H,I,r,h⟩;rcases l with ⟨hk,hm⟩ | ⟨hk,c,hc,hcell⟩
 ·exact wpAny_Name (wpAny_loadName_local I.ok.kind hk hn hm fin) hd
 ·rcases hk with hk | hk
  ·exact wpAny_Name (wpAny_loadName_cell I.ok.kind hk hc hcell fin) hd
  ·exact wpAny_Name (wpAny_loadName_free I.ok.kind hk hc hcell fin hcd) hd
theorem aCv {i j pos}:PE X (.Constant (.int i) j pos) (tC (.int i)):=fun _ _ _ H _ I h=>wpAny_Constant_int ⟨.int i,H,I.tok _,⟨_,rfl⟩,h⟩
theorem aCt {b j pos}:PE X (.Constant (.bool b) j pos) (tC (.bl b)):=fun _ _ _ H _ I h=>Constant_bool ⟨.bl b,H,I,rfl,h⟩
theorem aCz {j pos}:PE X (.Constant .none j pos) (tC .non):=fun _ _ _ H _ I h=>Constant_none ⟨.non,H,I,rfl,h⟩
theorem aD3 {x j pos}:PE X (.Constant (.str x) j pos) (tC (.str x)):=fun _ _ _ H _ I h=>Calls.Constant_str ⟨.str x,H,I.tok _,⟨_,rfl⟩,h⟩
def Gl (X:Cx) (x:Str):Prop:=X.env.kindOf x=some .globalImplicit
theorem sH {E:Value->Shared->Prop}{pins:List (Addr × Obj)}{s:Shared}{σ:St}{H:Hp}{x:Str}{u:Value}{pos:Pos}{Q:Value->Shared->Prop}(I:Inv X pins σ H s) (hg:Gl X x) (hm:X.mg x=some u) (h:Q u s)
  (hd:(x == ("__debug__" : Str))=false:=by decide):wpAny (model X.prog X.w) X.A (eval (.Name x pos) X.env) Q E s:=
 Calls.Name_function_global I.ok.kind hg (Calls.loadGlobal_global (by rw[I.ok.glob];exact I.mod.glob.keeps I.bk) hm h) hd
theorem eH {E:Value->Shared->Prop}{pins:List (Addr × Obj)}{s:Shared}{σ:St}{H:Hp}{x:Str}{u:Value}{pos:Pos}{Q:Value->Shared->Prop}(I:Inv X pins σ H s) (hg:Gl X x) (hm:X.mg x=none) (hv:bootBuiltins x=some u) (h:Q u s)
  (hn:x ≠ "__name__" := by decide) (hd:(x == ("__debug__" : Str))=false:=by decide):wpAny (model X.prog X.w) X.A (eval (.Name x pos) X.env) Q E s:=by
 obtain⟨mb,h1,h2⟩:=I.mod.blt;exact Calls.Name_function_global I.ok.kind hg (Calls.loadGlobal_builtin (by rw[I.ok.glob];exact I.mod.glob.keeps I.bk) hm (by rw[I.ok.blt];exact h1.keeps I.bk) ((h2 x hn).trans hv) h) hd
theorem JK {x:Str}{v:V}{u:Value}{pos:Pos}(hg:Gl X x) (hm:X.mg x=some u) (r:aV v u) (hd:(x == ("__debug__" : Str))=false:=by decide):PE X (.Name x pos) (tC v):=
 fun _ _ _ H _ I h=>sH I hg hm ⟨v,H,I,r,h⟩ hd
theorem JG {x:Str}{v:V}{u:Value}{pos:Pos}(hg:Gl X x) (hm:X.mg x=none) (hv:bootBuiltins x=some u) (r:aV v u) (hn:x ≠ "__name__" := by decide) (hd:(x == ("__debug__" : Str))=false:=by decide):PE X (.Name x pos) (tC v):=
 fun _ _ _ H _ I h=>eH I hg hm hv ⟨v,H,I,r,h⟩ hn hd
variable {a b:Expr}{ta tb:TE}{pos:Pos}
def tB (t:TE):TT:=fun σ H Q=>t σ H fun x H1=>∃ c,x=.bl c/\Q c H1
variable {tA tB':TT}{rest:List Expr}
def aFt (t u:TT):TT:=fun σ H Q=>t σ H fun c H1=>if c=true then u σ H1 Q else Q false H1
def tOr (t u:TT):TT:=fun σ H Q=>t σ H fun c H1=>if c=true then Q true H1 else u σ H1 Q
def aGb (t:TT):TT:=fun σ H Q=>t σ H fun c H1=>Q (!c) H1
theorem aE2 (ha:PT X a tA):PW X (.BoolOp .And [a] pos) tA:=by
 intro wh pins s σ H Q I h;refine isTrue_and (thn (ha pins s σ H Q I h) fun c s1 e=>?_);cases c with
 | true=>exact isTrue_and_nil e
 | false=>exact e
theorem aE4 (ha:PT X a tA):PW X (.BoolOp .Or [a] pos) tA:=by
 intro wh pins s σ H Q I h;refine isTrue_or (thn (ha pins s σ H Q I h) fun c s1 e=>?_);cases c with
 | false=>exact isTrue_or_nil e
 | true=>exact e
theorem aE1 (ha:PT X a tA) (hb:PW X (.BoolOp .And (b::rest) pos) tB'):PW X (.BoolOp .And (a::b::rest) pos) (aFt tA tB'):=by
 intro wh pins s σ H Q I h;refine isTrue_and (thn (ha pins s σ H _ I h) fun c s1 ⟨H1,I1,q1⟩=>?_);cases c with
 | true=>exact hb wh pins s1 σ H1 Q I1 q1
 | false=>exact⟨H1,I1,q1⟩
theorem aE3 (ha:PT X a tA) (hb:PW X (.BoolOp .Or (b::rest) pos) tB'):PW X (.BoolOp .Or (a::b::rest) pos) (tOr tA tB'):=by
 intro wh pins s σ H Q I h;refine isTrue_or (thn (ha pins s σ H _ I h) fun c s1 ⟨H1,I1,q1⟩=>?_);cases c with
 | true=>exact⟨H1,I1,q1⟩
 | false=>exact hb wh pins s1 σ H1 Q I1 q1
theorem aDz (ha:PT X a tA):PT X (.UnaryOp .Not a pos) (aGb tA):=by
 intro pins s σ H Q I h;exact isTrue_not (ha pins s σ H (fun c H1=>Q (!c) H1) I h)
def aFu (ta tb:TE):TE:=fun σ H Q=>ta σ H fun x H1=>∃ c,x=.bl c/\if c=true then tb σ H1 Q else Q (.bl false) H1
def aGc (ta:TE):TE:=fun σ H Q=>ta σ H fun x H1=>∃ c,x=.bl c/\Q (.bl (!c)) H1
theorem aD1 {op}{t:TE}(h:PE X a t):PE X (.BoolOp op [a] pos) t:=fun pins s σ H Q I hw=>BoolOp_one (h pins s σ H Q I hw)
theorem aCs (ha:PE X a ta) (hb:PE X (.BoolOp .And (b::rest) pos) tb):PE X (.BoolOp .And (a::b::rest) pos) (aFu ta tb):=by
 intro pins s σ H Q I h;refine BoolOp_and (thn (ha pins s σ H _ I h) fun v s1 ⟨x,H1,I1,r1,q1⟩=>?_);obtain⟨c,rfl,q1⟩:=q1;cases r1;refine wpAny_truthy_bool ?_;cases c with
 | true=>exact hb pins s1 σ H1 Q I1 q1
 | false=>exact⟨.bl false,H1,I1,rfl,q1⟩
theorem aD0 (ha:PE X a ta):PE X (.UnaryOp .Not a pos) (aGc ta):=by
 intro pins s σ H Q I h;refine UnaryOp_ (thn (ha pins s σ H _ I h) fun v s1 ⟨x,H1,I1,r1,q1⟩=>?_);obtain⟨c,rfl,q1⟩:=q1;cases r1;exact not_of (wpAny_truthy_bool ⟨.bl (!c),H1,I1,rfl,q1⟩)
end
def SqL (K:PySem.W.Frag) (H:Hp) (a:Addr) (xs:List V):Prop:=
 Rd H a (.lst xs) \/
  ∃ (o:Obj) (its:Array Value) (n:Nat),K.lookup a=some o/\o.cls=.type "list" /\ o.dict=none/\o.data=.seq its n/\its.size<=sizeLine/\aK xs its.toList
def SqT (K:PySem.W.Frag) (H:Hp) (a:Addr) (xs:List V):Prop:=
 Rd H a (.tup xs) \/
  ∃ (o:Obj) (its:Array Value) (n:Nat),K.lookup a=some o/\o.cls=.type "tuple" /\ o.data=.seq its n/\its.size<=sizeLine/\aK xs its.toList
def QK:Value->Option V
 | .none=>some .non
 | .bool b=>some (.bl b)
 | .int i _=>some (.int i)
 | .str x _=>some (.str x)
 | .bytes b _=>some (.byt b)
 | .float b _=>some (.flt b)
 | .ref a=>some (.ref a)
 | .type n=>some (.ty n)
 | _=>none
theorem aV.abs {x:V}{u:Value}(r:aV x u):QK u=some x:=by
 cases x with
 | non=>cases r;rfl
 | bl _=>cases r;rfl
 | int _=>obtain⟨t,rfl⟩:=r;rfl
 | str _=>obtain⟨t,rfl⟩:=r;rfl
 | byt _=>obtain⟨t,rfl⟩:=r;rfl
 | flt _=>obtain⟨t,rfl⟩:=r;rfl
 | ref _=>cases r;rfl
 | ty _=>cases r;rfl
theorem aV.inj {x y:V}{u:Value}(r:aV x u) (q:aV y u):x=y:=aK6 (r.abs.symm.trans q.abs)
theorem aK.inj:∀ {xs ys:List V}{us:List Value},aK xs us->aK ys us->xs=ys
 | _,_,_,.nil,.nil=>rfl
 | _,_,_,.cons r t,.cons r' t'=>by rw[r.inj r',aK.inj t t']
section
variable {X:Cx}{pins:List (Addr × Obj)}{σ:St}{H:Hp}{s:Shared}{a:Addr}{xs ys:List V}
theorem SqL.of {K:PySem.W.Frag}(h:H a=some (.lst xs)):SqL K H a xs:=.inl (.inl h)
theorem Inv.list (I:Inv X pins σ H s) (h:SqL X.K H a xs):∃ its:List Value,aK xs its/\PlainL s.heap a its.toArray/\xs.length<=sizeLine:=by
 rcases h with h | ⟨o,its,n,hk,hc,hd,hs,hz,r⟩
 ·obtain⟨z,its,n,r,e⟩:=h.ok I.hok
  exact⟨its,r,⟨_,n,e,rfl,rfl,rfl⟩,z⟩
 ·refine⟨its.toList,r,⟨o,n,I.kIn a o hk,hc,hd,by simpa using hs⟩,?_⟩
  have e:=r.length;simp only[aKm] at e;lia
theorem Inv.tuple (I:Inv X pins σ H s) (h:SqT X.K H a xs):∃ its:List Value,aK xs its/\IsTup s.heap a its.toArray/\xs.length<=sizeLine:=by
 rcases h with h | ⟨o,its,n,hk,hc,hs,hz,r⟩
 ·obtain⟨z,its,r,p⟩:=h.ok I.hok
  exact⟨its,r,p,z⟩
 ·refine⟨its.toList,r,⟨o,I.kIn a o hk,hc,n,by simpa using hs⟩,?_⟩
  have e:=r.length;simp only[aKm] at e;lia
theorem Inv.list_inj (I:Inv X pins σ H s) (h:SqL X.K H a xs) (h':SqL X.K H a ys):xs=ys:=by
 obtain⟨its,r,⟨o,n,e,_,_,d⟩,_⟩:=I.list h;obtain⟨its',r',⟨o',n',e',_,_,d'⟩,_⟩:=I.list h';rw[e] at e';cases e';rw[d] at d'
 injection d' with d1 _
 have:its=its':=by simpa using congrArg Array.toList d1
 subst this;exact r.inj r'
theorem Inv.tuple_inj (I:Inv X pins σ H s) (h:SqT X.K H a xs) (h':SqT X.K H a ys):xs=ys:=by
 obtain⟨its,r,⟨o,e,_,n,d⟩,_⟩:=I.tuple h;obtain⟨its',r',⟨o',e',_,n',d'⟩,_⟩:=I.tuple h';rw[e] at e';cases e';rw[d] at d'
 injection d' with d1 _
 have:its=its':=by simpa using congrArg Array.toList d1
 subst this;exact r.inj r'
end
abbrev Cx.wish (X:Cx) (E:Value->Shared->Prop):Cx:={ X with xe:=E }
abbrev Cx.nox (X:Cx):Cx:=X.wish fun _ _=>False
theorem Cx.Ok.wish {X:Cx}(ok:X.Ok) (E:Value->Shared->Prop):(X.wish E).Ok:=
 ⟨ok.mod,ok.kind,ok.glob,ok.blt,ok.above,ok.inj,ok.has,ok.cab,ok.hd,ok.frames,ok.stk,ok.exf,ok.bs,ok.bsz,ok.noex,ok.exfs,ok.funs,ok.frf⟩
theorem Cx.Ok.unwish {X:Cx}{E:Value->Shared->Prop}(ok:(X.wish E).Ok):X.Ok:=
 ⟨ok.mod,ok.kind,ok.glob,ok.blt,ok.above,ok.inj,ok.has,ok.cab,ok.hd,ok.frames,ok.stk,ok.exf,ok.bs,ok.bsz,ok.noex,ok.exfs,ok.funs,ok.frf⟩
section
variable {X:Cx}{pins:List (Addr × Obj)}{σ:St}{H:Hp}{s:Shared}{E:Value->Shared->Prop}
theorem Inv.wish (I:Inv X pins σ H s) (E:Value->Shared->Prop):Inv (X.wish E) pins σ H s:=⟨I.ok.wish E,I.os,I.bare,I.base,I.loc,I.cell,I.free,I.freeC,I.pin,I.hok,I.len⟩
theorem Inv.unwish (I:Inv (X.wish E) pins σ H s):Inv X pins σ H s:=⟨I.ok.unwish,I.os,I.bare,I.base,I.loc,I.cell,I.free,I.freeC,I.pin,I.hok,I.len⟩
theorem SP.unwish {D:Ends}{f:Flow}{s':Shared}(h:SP (X.wish E) pins D f s'):SP X pins D f s':=by
 cases f with
 | next=>obtain⟨σ',H',I,q⟩:=h;exact⟨σ',H',I.unwish,q⟩
 | brk=>obtain⟨σ',H',I,q⟩:=h;exact⟨σ',H',I.unwish,q⟩
 | cont=>obtain⟨σ',H',I,q⟩:=h;exact⟨σ',H',I.unwish,q⟩
 | ret u=>obtain⟨v,σ',H',I,r,q⟩:=h;exact⟨v,σ',H',I.unwish,r,q⟩
theorem PSs.nox {st:List Stmt}{t:TS}(h:PSs X.nox st t):PSs X st t:=fun pins s σ H D I hw=>
 wpAny_mono (h pins s σ H D (I.wish _) hw) (fun _ _ q=>q.unwish) fun _ _ z=>False.elim z
end
section
variable {X:Cx}{st:Stmt}{rest:List Stmt}{t u:TS}{e:Expr}{te:TE}{pos:Pos}
def aG8:TS:=fun D σ H=>D.nx σ H
def aGh (t u:TS):TS:=fun D σ H=>t { D with nx:=u D } σ H
theorem aDt:PSs X [] aG8:=fun _ _ σ H _ I h=>wpAny_execs_nil ⟨σ,H,I,h⟩
theorem aDs (h1:PS X st t) (h2:PSs X rest u):PSs X (st::rest) (aGh t u):=by
 intro pins s σ H D I h;refine wpAny_execs_cons (thn (h1 pins s σ H { D with nx:=u D } I h) fun f s1 q=>?_);cases f with
 | next=>
  obtain⟨σ',H',I',q⟩:=q;exact h2 pins s1 σ' H' D I' q
 | ret v=>exact q
 | brk=>exact q
 | cont=>exact q
theorem aDu (h1:PS X st t):PSs X [st] t:=by
 intro pins s σ H D I h;refine wpAny_execs_cons (thn (h1 pins s σ H D I h) fun f s1 q=>?_);cases f with
 | next=>exact wpAny_execs_nil q
 | ret v=>exact q
 | brk=>exact q
 | cont=>exact q
theorem Inv.quiet {pins:List (Addr × Obj)}{σ:St}{H:Hp}{s:Shared}(I:Inv X pins σ H s):interactive X.env=false:=by simp[interactive,I.ok.kind]
def aFz (te:TE):TS:=fun D σ H=>te σ H fun _ H1=>D.nx σ H1
theorem CH (he:PE X e te) (hs:swapsWith e none pos.line X.env=pure false:=by rfl):PS X (.Expr e pos) (aFz te):=by
 intro pins s σ H D I h;exact wpAny_Expr_any (thn (he pins s σ H _ I h) fun v s1 ⟨x,H1,I1,r1,q1⟩=>⟨σ,H1,I1,q1⟩) I.quiet hs
def aGg (te:TE):TS:=fun D σ H=>te σ H D.rt
theorem aDo (he:PE X e te):PS X (.Return (some e) pos) (aGg te):=by
 intro pins s σ H D I h;exact wpAny_Return_some (thn (he pins s σ H _ I h) fun v s1 ⟨x,H1,I1,r1,q1⟩=>⟨x,σ,H1,I1,r1,q1⟩)
def aG4 (c:TT) (t u:TS):TS:=fun D σ H=>c σ H fun b H1=>if b=true then t D σ H1 else u D σ H1
theorem aDn {c:Expr}{a b:List Stmt}{tc:TT}(hc:PT X c tc) (ha:PSs X a t) (hb:PSs X b u):PS X (.If c a b pos) (aG4 tc t u):=by
 intro pins s σ H D I h;refine wpAny_If (thn (hc pins s σ H _ I h) fun d s1 ⟨H1,I1,q1⟩=>?_);cases d with
 | true=>exact ha pins s1 σ H1 D I1 q1
 | false=>exact hb pins s1 σ H1 D I1 q1
end
abbrev TG:=V->St->Hp->(St->Hp->Prop)->Prop
abbrev TGs:=List V->St->Hp->(St->Hp->Prop)->Prop
def PG (X:Cx) (target:Expr) (t:TG):Prop:=
 ∀ (pins:List (Addr × Obj)) (s:Shared) (σ:St) (H:Hp) (v:V) (u:Value) (Q:St->Hp->Prop),Inv X pins σ H s->aV v u->t v σ H Q ->
  wpAny (model X.prog X.w) X.A (assign target X.env u) (fun _ s'=>∃ σ' H',Inv X pins σ' H' s'/\Q σ' H') X.xe s
def PGs (X:Cx) (ts:List Expr) (t:TGs):Prop:=
 ∀ (pins:List (Addr × Obj)) (s:Shared) (σ:St) (H:Hp) (vs:List V) (us:List Value) (Q:St->Hp->Prop),Inv X pins σ H s->aK vs us->t vs σ H Q ->
  wpAny (model X.prog X.w) X.A (assignInOrder ((assignEach ts X.env).map (·.2)) us) (fun _ s'=>∃ σ' H',Inv X pins σ' H' s'/\Q σ' H') X.xe s
abbrev zS:=V->V->V->Hp->(Hp->Prop)->Prop
def DY (X:Cx) (t:zS):Prop:=
 ∀ (pins:List (Addr × Obj)) (s:Shared) (σ:St) (H:Hp) (o i v:V) (ov iv u:Value) (Q:Hp->Prop),Inv X pins σ H s->aV o ov->aV i iv->aV v u->t o i v H Q ->
  wpAny (model X.prog X.w) X.A (setItem ov iv u) (fun _ s'=>∃ H',Inv X pins σ H' s'/\Q H') X.xe s
section
variable {X:Cx}{pos:Pos}
def jK (i:Nat):TG:=fun v σ H Q=>Q (σ.set i (some v)) H
theorem xX {i:Nat}{x:Str}(hN:X.N.Nodup) (hi:X.N[i]?=some x) (hx:Loc X.env.scope x) (hf:X.fn x=true\/X.env.scope.names.lookup x=some .local:=by first | exact .inl rfl | exact .inr rfl | assumption):PG X (.Name x pos) (jK i):=by
 intro pins s σ H v u Q I r h;exact wpAny_assign_Name (zF I hN hi hx r (fun s' I'=>⟨_,H,I',h⟩) hf)
def VH:TGs:=fun vs σ H Q=>vs=[]/\Q σ H
def VG (t:TG) (u:TGs):TGs:=fun vs σ H Q=>∃ v r,vs=v::r/\t v σ H fun σ' H'=>u r σ' H' Q
theorem aD8:PGs X [] VH:=by
 intro pins s σ H vs us Q I r h;obtain⟨e,h⟩:=h;subst e;cases r;exact assignInOrder_nil ⟨σ,H,I,h⟩
theorem aD7 {e:Expr}{es:List Expr}{t:TG}{u:TGs}(h1:PG X e t) (h2:PGs X es u)
  (hs:(assignEach (e::es) X.env).map (·.2)=assign e X.env::(assignEach es X.env).map (·.2):=by rfl):PGs X (e::es) (VG t u):=by
 intro pins s σ H vs us Q I r h;obtain⟨v,vr,e1,h⟩:=h;subst e1;cases r with
 | cons r rr=>
  rw[hs];refine assignInOrder_cons (thn (h1 pins s σ H _ _ _ I r h) fun _ s1 ⟨σ1,H1,I1,q1⟩=>?_);exact h2 pins s1 σ1 H1 _ _ Q I1 rr q1
def rV (K:PySem.W.Frag) (n:Nat) (t:TGs):TG:=fun v σ H Q=>∃ a xs,v=.ref a/\SqT K H a xs/\xs.length=n/\t xs σ H Q
theorem JP {es:List Expr}{k:Nat}{t:TGs}{n:Nat}(hc:X.calm=true) (h:PGs X es t)
  (hn:(assignEach es X.env).length=n:=by rfl) (hst:(assignEach es X.env).findIdx? (·.1)=none:=by rfl):PG X (.Tuple es k pos) (rV X.K n t):=by
 intro pins s σ H v u Q I r hw;obtain⟨a,xs,e1,hq,hl,hw⟩:=hw;subst e1;cases r;obtain⟨its,rv,ht,hz⟩:=I.tuple hq;refine assign_Tuple_tuple (I.ok.hd hc) ht (by simp[hn,<- hl,rv.length]) hst fun h' hx=>?_;have I1:Inv X pins σ H { s with heap:=h' }:=I.kept (t':=s.toks) fun b o e=>hx b o (aMo (aKx e)) e;exact h pins _ σ H xs _ Q I1 (by simpa using rv) hw
def VI (to ti:TE) (t:zS):TG:=fun v σ H Q=>to σ H fun o H1=>ti σ H1 fun i H2=>t o i v H2 fun H3=>Q σ H3
theorem aD6 {o i:Expr}{to ti:TE}{t:zS}(ho:PE X o to) (hi:PE X i ti) (hs:DY X t)
  (ha:∀ v,assign (.Subscript o i pos) X.env v=(do
   let ov <- holding [v] (eval o X.env)
   let iv <- holding [v,ov] (eval i X.env)
   standAt pos
   holding [v,ov,iv] (setItem ov iv v)
   release [v,ov,iv] []):=by intro _;rfl):PG X (.Subscript o i pos) (VI to ti t):=by
 intro pins s σ H v u Q I r h;rw[ha];refine wpAny_bind (wpAny_holding (thn (ho pins s σ H _ I h) fun ov s1 ⟨x,H1,I1,r1,q1⟩=>?_));refine wpAny_bind (wpAny_holding (thn (hi pins s1 σ H1 _ I1 q1) fun iv s2 ⟨y,H2,I2,r2,q2⟩=>?_));refine wpAny_bind (wpAny_standAt (wpAny_bind (wpAny_holding (thn (hs pins s2 σ H2 x y v ov iv u _ I2 r1 r2 r q2) fun _ s3 ⟨H3,I3,q3⟩=>?_))));exact wpAny_release ⟨σ,H3,I3,q3⟩
def zG (te:TE) (g:TG):TS:=fun D σ H=>te σ H fun x H1=>g x σ H1 D.nx
theorem aDm {tg e:Expr}{te:TE}{g:TG}(he:PE X e te) (hg:PG X tg g) (hs:swapsWithSole [tg] e pos.line X.env=pure false:=by rfl) (hw:swappedStores [tg] e X.env=pure none:=by rfl)
  (h1:(assignEach [tg] X.env).map (·.2)=[assign tg X.env]:=by rfl):PS X (.Assign [tg] e pos) (zG te g):=by
 intro pins s σ H D I h;refine wpAny_Assign_stores (thn (he pins s σ H _ I h) fun v s1 ⟨x,H1,I1,r1,q1⟩=>?_) hs hw;rw[h1];exact thn (hg pins s1 σ H1 x v _ I1 r1 q1) fun _ s2 q=>q
theorem JY {i:Nat}{x:Str}{e:Expr}{te:TE}{pos':Pos}(hN:X.N.Nodup) (hi:X.N[i]?=some x) (hx:Loc X.env.scope x) (he:PE X e te) (hs:swapsWith e (some (.Name x pos')) pos.line X.env=pure false:=by rfl) (hf:X.fn x=true\/X.env.scope.names.lookup x=some .local:=by first | exact .inl rfl | exact .inr rfl | assumption):
  PS X (.Assign [.Name x pos'] e pos) (zG te (jK i)):=by
 intro pins s σ H D I h;refine wpAny_Assign_Name (thn (he pins s σ H _ I h) fun v s1 ⟨y,H1,I1,r1,q1⟩=>?_) hs;exact zF I1 hN hi hx r1 (fun s2 I2=>⟨_,H1,I2,q1⟩) hf
end
section
variable {X:Cx}{pos:Pos}
def aGm (c:TT) (tb:TS):TS:=fun D σ H=>∃ W:Nat->St->Hp->Prop,(∃ m,W m σ H)/\∀ m σ H,W m σ H ->
 c σ H fun b H1=>if b=true then ∃ N:St->Hp->Prop,(∀ σ' H',N σ' H'->∃ m',m'<m/\W m' σ' H')/\tb { D with nx:=N,ct:=N,bk:=D.nx } σ H1 else D.nx σ H1
theorem aDr {c:Expr}{body:List Stmt}{tc:TT}{tb:TS}(hp:PassesOwn (model X.prog X.w) X.A X.env X.xe) (hc:PT X c tc) (hb:PSs X body tb):PS X (.While c body [] pos) (aGm tc tb):=by
 intro pins s σ H D I h;obtain⟨W,⟨m0,w0⟩,turn⟩:=h;refine wpAny_While (codeAny_whileLoop (fun n s'=>∃ σ' H',Inv X pins σ' H' s'/\W n σ' H') ?_ m0 ⟨σ,H,I,w0⟩);rintro n s1 ⟨σ1,H1,I1,w1⟩;refine wpAny_passesOwn hp (thn (hc pins s1 σ1 H1 _ I1 (turn n σ1 H1 w1)) fun b s2 ⟨H2,I2,q2⟩=>?_);cases b with
 | true=>
  obtain⟨N,hN,q2⟩:=q2;rw[if_pos rfl];refine wpAny_passesOwn hp (thn (hb pins s2 σ1 H2 _ I2 q2) fun f s3 q3=>?_);cases f with
  | next=>
   obtain⟨σ3,H3,I3,n3⟩:=q3;obtain⟨m',hm,w3⟩:=hN σ3 H3 n3;exact⟨m',hm,σ3,H3,I3,w3⟩
  | cont=>
   obtain⟨σ3,H3,I3,n3⟩:=q3;obtain⟨m',hm,w3⟩:=hN σ3 H3 n3;exact⟨m',hm,σ3,H3,I3,w3⟩
  | brk=>exact q3
  | ret v=>exact q3
 | false=>
  rw[if_neg aKr];exact wpAny_execs_nil ⟨σ1,H2,I2,q2⟩
end
structure It where
 go:Nat->Hp->Prop
 yld:Nat->Hp->V->Hp->Prop
 stop:Nat->Hp->Prop
def eQ (X:Cx) (pins:List (Addr × Obj)) (H:Hp) (b:Addr):Prop:=
 H b=none/\b≠X.env.locals/\b ∉ X.fs/\(b∈X.ex\/X.s₀.heap.objs.size<=b)/\(∀ x c,X.env.cells.lookup x=some c->c≠b)/\∀ p∈X.pn++pins,p.1≠b
theorem Inv.fpOk {X:Cx}{pins:List (Addr × Obj)}{σ:St}{H H':Hp}{s:Shared}{b:Addr}(I:Inv X pins σ H s) (hb:s.heap.objs.size<=b) (hn:H' b=none):eQ X pins H' b:=by
 refine⟨hn,aMn (aKe I.lt hb),I.nofs hb,.inr (aMh I.sz hb),fun x c e z=>?_,fun p hp z=>?_⟩
 ·obtain⟨v,q⟩:=I.cell x c e
  exact absurd (aKe q.lt (by rw[z];exact hb)) (aMi _)
 ·exact absurd (aKe (aKx (I.pin p hp).1) (by rw[z];exact hb)) (aMi _)
structure Turn (P:Program) (w:World) (K:PySem.W.Frag) (tg:Expr) (J:It) (fp:List Addr) (it:Addr) (tn:Nat->Heap->Prop):Prop where
 mem:it∈fp
 obj:∀ i h,tn i h->∀ b∈fp,∃ o,h.get? b=some o/\∀ v,o.data≠.cell v
 keep:∀ i h h',tn i h->(∀ b∈fp,∀ o,h.get? b=some o->h'.get? b=some o)->tn i h'
 item:∀ (X:Cx),X.prog=P->X.w=w->X.K=K->X.calm=true->∀ (i:Nat) (pins:List (Addr × Obj)) (s:Shared) (σ:St) (H:Hp) (E:Value->Shared->Prop),Inv X pins σ H s->(∀ b∈fp,eQ X pins H b)->tn i s.heap->J.go i H ->
  wpAny (model P w) X.A (pyNext (.ref it)) (fun r s1=>∃ u,r=some u /\
   wpAny (model P w) X.A (letOwnedTupleGo tg (.ref it) u) (fun _ s2=>∃ x H',Inv X pins σ H' s2/\aV x u/\J.yld i H x H'/\tn (i+1) s2.heap/\∀ b∈fp,H' b=none) E s1) E s
 done:∀ (X:Cx),X.prog=P->X.w=w->X.K=K->X.calm=true->∀ (i:Nat) (pins:List (Addr × Obj)) (s:Shared) (σ:St) (H:Hp) (E:Value->Shared->Prop),Inv X pins σ H s->(∀ b∈fp,eQ X pins H b)->tn i s.heap->J.stop i H ->
  wpAny (model P w) X.A (pyNext (.ref it)) (fun r s1=>r=none/\Inv X pins σ H s1) E s
 self:∀ (A:Around) (i:Nat) (s:Shared) (Q:Value->Shared->Prop) (E:Value->Shared->Prop),tn i s.heap->Q (.ref it) s->wpAny (model P w) A (pyIter (.ref it)) Q E s
abbrev TI:=St->Hp->(It->Hp->Prop)->Prop
def PIE (X:Cx) (pins:List (Addr × Obj)) (σ:St) (tg:Expr) (R:It->Hp->Prop) (itv:Value) (s2:Shared):Prop:=
 ∃ (it:Addr) (fp:List Addr) (tn:Nat->Heap->Prop) (J:It) (H':Hp),itv=.ref it/\Inv X pins σ H' s2/\Turn X.prog X.w X.K tg J fp it tn/\tn 0 s2.heap/\(∀ b∈fp,eQ X pins H' b)/\R J H'
def PI (X:Cx) (tg iter:Expr) (wi:TI):Prop:=
 ∀ (pins:List (Addr × Obj)) (s:Shared) (σ:St) (H:Hp) (R:It->Hp->Prop),Inv X pins σ H s->wi σ H R ->
  wpAny (model X.prog X.w) X.A (eval iter X.env) (fun v s1=>wpAny (model X.prog X.w) X.A (pyIter v) (PIE X pins σ tg R) X.xe s1) X.xe s
theorem GD {M:Model}{A:Around}{E:Value->Shared->Prop}{s:Shared}{tg:Expr}{it:Addr}{u:Value}{o:Obj}{n:String}{vs:Array Value}{Q:Unit->Shared->Prop}(ho:s.heap.get? it=some o) (hc:o.cls=.type n) (hd:o.data=.fields vs)
    (hn:["enumerate","zip","dict_itemiterator","dict_reverseitemiterator","odict_iterator","itertools.zip_longest","itertools.pairwise"].contains n=false) (hQ:Q () s):wpAny M A (letOwnedTupleGo tg (.ref it) u) Q E s:=by
  unfold letOwnedTupleGo;cases tg<;>first
    | exact wpAny_pure hQ
    | (cases u<;>first
        | exact wpAny_pure hQ
        | (refine wpAny_bind (wpAny_load ho ?_)
           rw[hc,hd];show wpAny M A (if (["enumerate","zip","dict_itemiterator","dict_reverseitemiterator","odict_iterator","itertools.zip_longest","itertools.pairwise"].contains n&&vs[0]? == some (rawInt _))=true then _ else _) Q E s;rw[if_neg (by intro h;rw[hn,Bool.false_and] at h;cases h)];exact wpAny_pure hQ))
def Itl (K:PySem.W.Frag) (a:Addr):It:=
 ⟨fun i H=>∃ xs x,SqL K H a xs/\xs[i]?=some x,fun i H x H'=>H'=H/\∀ xs,SqL K H a xs->xs[i]?=some x,fun i H=>∃ xs,SqL K H a xs/\xs.length<=i⟩
def Itr (lo:Int) (n:Nat):It:=⟨fun i _=>i<n,fun i H x H'=>H'=H/\x=.int (lo+i),fun i _=>n<=i⟩
theorem aH1 {P:Program}{w:World}{K:PySem.W.Frag}{tg:Expr}(a it:Addr):Turn P w K tg (Itl K a) [it] it (fun i h=>h.IsListIter it a i) where
 mem:=by simp
 obj:=fun i h st b hb=>by
  have e:b=it:=by simpa using hb
  subst e;obtain⟨o,e,c,d⟩:=st;exact⟨o,e,fun v z=>by rw[d] at z;cases z⟩
 keep:=fun i h h' st k=>st.at fun o e=>k it (by simp) o e
 item:=by
  intro X hP hw hK hc i pins s σ H E I hf st hg;subst hP hw hK;obtain⟨xs,x,hq,hx⟩:=hg;obtain⟨its,rv,p,hz⟩:=I.list hq;obtain⟨u,hu,ru⟩:=rv.get hx;obtain⟨f0,f1,f2,f3,f4,f5⟩:=hf it (by simp);refine wpAny_pyNext_list_item st p.isList (x:=u) (by simpa using hu) fun h' st' sb=>?_;have I1:Inv X pins σ H { s with heap:=h' }:=I.turned (t':=s.toks) (fun b o hb e=>(sb.2 b hb).trans e) f0 f1 f3 f4 f5;obtain⟨o,e,c,d⟩:=id st';exact⟨u,rfl,GD (s:={ s with heap:=h' }) e c d (by decide) ⟨x,H,I1,ru,⟨rfl,fun ys hy=>by rw[I.list_inj hy hq];exact hx⟩,st',fun b hb=>(hf b hb).1⟩⟩
 done:=by
  intro X hP hw hK hc i pins s σ H E I hf st hg;subst hP hw hK;obtain⟨xs,hq,hx⟩:=hg;obtain⟨its,rv,p,hz⟩:=I.list hq;obtain⟨f0,f1,f2,f3,f4,f5⟩:=hf it (by simp);have hl:=rv.length;exact wpAny_pyNext_list_end (I.ok.hd hc) st p.isList (by simp;lia) fun h' eb=>⟨rfl,I.turned (t':=s.toks) (fun b o hb e=>eb b o hb e) f0 f1 f3 f4 f5⟩
 self:=fun _ _ _ _ _ st h=>wpAny_pyIter_listiter st h
theorem aH2 {P:Program}{w:World}{K:PySem.W.Frag}{tg:Expr}(it:Addr) (lo:Int) (n:Nat):Turn P w K tg (Itr lo n) [it] it (fun i h=>IsRangeIter h it (lo+(i:Nat)*1) ((n:Int)-(i:Nat)) 1) where
 mem:=by simp
 obj:=fun i h st b hb=>by
  have e:b=it:=by simpa using hb
  subst e;exact⟨_,st,fun v z=>by
   have z':Data.fields _=Data.cell v:=z;cases z'⟩
 keep:=fun i h h' st k=>k it (by simp) _ st
 item:=by
  intro X hP hw hK hc i pins s σ H E I hf st hg;subst hP hw hK;obtain⟨f0,f1,f2,f3,f4,f5⟩:=hf it (by simp);have W:=Walks.range (prog:=X.prog) (w:=X.w) (I.ok.hd hc) it lo 1 n;refine W.item i s _ _ hg st fun v h' tk hv st' kk=>?_;obtain⟨t,rfl⟩:=hv;have I1:Inv X pins σ H { s with heap:=h',toks:=tk }:=I.turned (fun b o hb e=>kk b o (by simpa using hb) e) f0 f1 f3 f4 f5;refine⟨_,rfl,GD (s:={ s with heap:=h',toks:=tk }) (n := "range_iterator") st' rfl rfl (by decide) ⟨.int (lo+i),H,I1,⟨t,?_⟩,⟨rfl,rfl⟩,st',fun b hb=>(hf b hb).1⟩⟩;rw[Int.mul_one]
 done:=by
  intro X hP hw hK hc i pins s σ H E I hf st hg;subst hP hw hK;obtain⟨f0,f1,f2,f3,f4,f5⟩:=hf it (by simp);exact wpAny_pyNext_range_end (I.ok.hd hc) st (by have:n<=i:=hg;lia) fun h' eb=>⟨rfl,I.turned (t':=s.toks) (fun b o hb e=>eb b o hb e) f0 f1 f3 f4 f5⟩
 self:=fun _ _ _ _ _ st h=>wpAny_pyIter_rangeiter st h
section
variable {X:Cx}{tg:Expr}
theorem KO {pins:List (Addr × Obj)}{σ:St}{H:Hp}{s:Shared}{R:It->Hp->Prop}{E:Value->Shared->Prop}{lo hi:Int}{t u v:Tok}{tk:Nat}(I:Inv X pins σ H s) (h1 : -(2^62)<=lo) (h2:lo<2^62) (h3 : -(2^62)<=hi) (h4:hi<2^62)
  (q:R (Itr lo (hi-lo).toNat) H):wpAny (model X.prog X.w) X.A (pyIter (.ref s.heap.objs.size)) (PIE X pins σ tg R) E { s with heap:=s.heap.push { cls:=.type "range",data:=.fields #[.int lo t,.int hi u,.int 1 v] },toks:=tk }:=by
 refine wpAny_pyIter_range (IsRange.new ..) (small_one h1 h2 h3 h4) ?_;have I1:Inv X pins σ H { s with heap:=s.heap.push { cls:=.type "range",data:=.fields #[.int lo t,.int hi u,.int 1 v] },toks:=tk }:=I.kept fun b o e=>aKh _ e;refine⟨(s.heap.push { cls:=.type "range",data:=.fields #[.int lo t,.int hi u,.int 1 v] }).objs.size,[(s.heap.push { cls:=.type "range",data:=.fields #[.int lo t,.int hi u,.int 1 v] }).objs.size],_,_,H,rfl,
  I1.kept (t':=tk) fun b o e=>aKh _ e,aH2 _ lo (hi-lo).toNat,?_,fun b hb=>?_,q⟩
 ·have e1:lo+((0:Nat):Int)*1=lo:=by simp
  have e2:(((hi-lo).toNat:Nat):Int)-((0:Nat):Int)=Builtin.Range.rangeSize lo hi 1:=by rw[rangeSize_one];split<;>lia
  show IsRangeIter _ _ (lo+((0:Nat):Int)*1) ((((hi-lo).toNat:Nat):Int)-((0:Nat):Int)) 1;rw[e1,e2];exact aKu _ rfl
 ·have e:b=(s.heap.push { cls:=.type "range",data:=.fields #[.int lo t,.int hi u,.int 1 v] }).objs.size:=by simpa using hb
  subst e;exact I1.fpOk (aMg _) (I1.hok.fresh (aMg _))
def XN (ta:TA):TI:=fun σ H R=>ta σ H fun vs H1=>∃ j:Int,vs=[.int j] /\ -(2^62)<=j/\j<2^62/\R (Itr 0 j.toNat) H1
def XO (ta:TA):TI:=fun σ H R=>ta σ H fun vs H1=>∃ i j:Int,vs=[.int i,.int j]/\(-(2^62)<=i/\i<2^62 /\ -(2^62)<=j/\j<2^62)/\R (Itr i (j-i).toNat) H1
theorem aDa {a:Expr}{ta:TA}{p pos:Pos}(hg:Gl X "range") (hm:X.mg "range" = none) (ha:PA X [a] ta) (hs:starEach [a] X.env=[(false,eval a X.env)]:=by rfl):PI X tg (.Call (.Name "range" p) [a] [] pos) (XN ta):=by
 intro pins s σ H R I h;refine Call_ (eH I hg hm boot_range (aN3 (thn (ha pos pins s σ H _ I h) fun us s1 ⟨vs,H1,I1,r1,q1⟩=>?_) hs rfl));obtain⟨j,e,q1,q2,q⟩:=q1;subst e;cases r1 with
 | cons r rr=>
  cases rr;obtain⟨t,rfl⟩:=r;exact call_range_1 (KO I1 (by lia) (by lia) q1 q2 (by simpa using q))
theorem aDb {a b:Expr}{ta:TA}{p pos:Pos}(hg:Gl X "range") (hm:X.mg "range" = none) (ha:PA X [a,b] ta) (hs:starEach [a,b] X.env=[(false,eval a X.env),(false,eval b X.env)]:=by rfl) (hs2:starEach [b] X.env=[(false,eval b X.env)]:=by rfl):
  PI X tg (.Call (.Name "range" p) [a,b] [] pos) (XO ta):=by
 intro pins s σ H R I h;refine Call_ (eH I hg hm boot_range (aN3 (thn (ha pos pins s σ H _ I h) fun us s1 ⟨vs,H1,I1,r1,q1⟩=>?_) (by rw[hs,hs2]) (by rw[hs2];rfl)));obtain⟨i,j,e,⟨q1,q2,q3,q4⟩,q⟩:=q1;subst e;cases r1 with
 | cons r rr=>
  cases rr with
  | cons r' rr=>
   cases rr;obtain⟨t,rfl⟩:=r;obtain⟨t',rfl⟩:=r';exact call_range_2 (KO I1 q1 q2 q3 q4 q)
def aG1 (wi:TI) (g:TG) (tb:TS):TS:=fun D σ H=>wi σ H fun J H1=>∃ W:Nat->Nat->St->Hp->Prop,(∃ m,W 0 m σ H1)/\∀ i m σ H,W i m σ H ->
 (J.stop i H/\D.nx σ H)\/(J.go i H/\∃ N:St->Hp->Prop,(∀ σ' H',N σ' H'->∃ m',m'<m/\W (i+1) m' σ' H')/\∀ x H',J.yld i H x H'->g x σ H' fun σ2 H2=>tb { D with nx:=N,ct:=N,bk:=D.nx } σ2 H2)
def sZ (fp:List Addr) (h:Heap):List (Addr × Obj):=fp.filterMap fun b=>(h.get? b).map fun o=>(b,o)
theorem xI {fp:List Addr}{h:Heap}{b:Addr}{o:Obj}(hb:b∈fp) (e:h.get? b=some o):(b,o)∈sZ fp h:=aM2.mpr ⟨b,hb,by rw[e];rfl⟩
theorem aAy {fp:List Addr}{h:Heap}{p:Addr × Obj}(hp:p∈sZ fp h):p.1∈fp/\h.get? p.1=some p.2:=by
 obtain⟨b,hb,e⟩:=aM2.mp hp;cases q:h.get? b with
 | none=>rw[q] at e;cases e
 | some o=>
  rw[q] at e;have e':(b,o)=p:=aK6 e;subst e';exact⟨hb,q⟩
theorem Inv.pinned {pins:List (Addr × Obj)}{σ:St}{H:Hp}{s:Shared}{fp:List Addr}(I:Inv X pins σ H s) (hf:∀ b∈fp,eQ X pins H b) (ho:∀ b∈fp,∃ o,s.heap.get? b=some o/\∀ v,o.data≠.cell v):Inv X (pins++sZ fp s.heap) σ H s:=
 I.pins_of fun p hp=>(aLy.mp hp).elim (fun z=>I.pin p (aM0 _ z)) fun z=>by
  obtain⟨hb,e⟩:=aAy z;obtain⟨f0,f1,f2,_⟩:=hf p.1 hb;obtain⟨o,e',d⟩:=ho p.1 hb;rw[e] at e';cases e';exact⟨e,f0,f1,f2,d⟩
theorem Inv.unpinned {pins pl:List (Addr × Obj)}{σ:St}{H:Hp}{s:Shared}(I:Inv X (pins++pl) σ H s):Inv X pins σ H s:=I.pins_of fun p hp=>I.pin p (aM0 _ (aLz _ hp))
theorem JX {iter : Expr} {body : List Stmt} {wi : TI} {g : TG} {tb : TS} {pos : Pos} (hp : PassesOwn (model X.prog X.w) X.A X.env X.xe) (hc : X.calm = true) (hi : PI X tg iter wi) (hg : PG X tg g) (hb : PSs X body tb)
  (hs : ∀ x, foldedSetIterable iter X.env x = pure x := by intro _; rfl) : PS X (.For tg iter body [] pos) (aG1 wi g tb) := by
 intro pins s σ H D I h;refine wpAny_For (thn (hi pins s σ H _ I h) fun v s1 h1 => thn h1 fun itv s2 h2 => ?_) hs;obtain ⟨it, fp, tn, J, H2, e, I2, T, st2, f2, W, ⟨m0, w0⟩, turn⟩ := h2;subst e
 -- what stays true of the iterator's objects through the loop
 have stat : ∀ {H' : Hp}, (∀ b ∈ fp, H' b = none) -> ∀ b ∈ fp, eQ X pins H' b := fun hn b hb => ⟨hn b hb, (f2 b hb).2⟩;refine codeAny_forLoop_any (fun n s' => ∃ i σ' H', Inv X pins σ' H' s' /\ tn i s'.heap /\ (∀ b ∈ fp, H' b = none) /\ W i n σ' H') ?_ m0 ⟨0, σ, H2, I2, st2, fun b hb => (f2 b hb).1, w0⟩;rintro n s3 ⟨i, σ3, H3, I3, st3, fr3, w3⟩;rcases turn i n σ3 H3 w3 with ⟨stop, qn⟩ | ⟨go, N, hN, step⟩
 ·refine wpAny_passesOwn hp (thn (T.done X rfl rfl rfl hc i pins s3 σ3 H3 X.xe I3 (stat fr3) st3 stop) fun r s4 ⟨hr, I4⟩ => ?_)
  subst hr;exact wpAny_execs_nil ⟨σ3, H3, I4, qn⟩
 ·refine wpAny_passesOwn hp (thn (T.item X rfl rfl rfl hc i pins s3 σ3 H3 X.xe I3 (stat fr3) st3 go) fun r s4 ⟨u, hr, h4⟩ => ?_)
  subst hr;refine wpAny_passesOwn hp (thn h4 fun _ s5 ⟨x, H5, I5, r5, y5, st5, fr5⟩ => ?_);have I5' := I5.pinned (stat fr5) (T.obj _ _ st5);refine wpAny_passesOwn hp (thn (hg _ s5 σ3 H5 x u _ I5' r5 (step x H5 y5)) fun _ s6 ⟨σ6, H6, I6, q6⟩ => ?_);refine wpAny_passesOwn hp (thn (hb _ s6 σ6 H6 _ I6 q6) fun f s7 q7 => ?_);have again : ∀ {σ7 : St} {H7 : Hp}, Inv X (pins ++ sZ fp s5.heap) σ7 H7 s7 -> N σ7 H7 -> ∃ m, m < n /\ ∃ i σ' H', Inv X pins σ' H' s7 /\ tn i s7.heap /\ (∀ b ∈ fp, H' b = none) /\ W i m σ' H' := fun {σ7 H7} I7 n7 => by
   obtain ⟨m', hm, w7⟩ := hN σ7 H7 n7;refine ⟨m', hm, i + 1, σ7, H7, I7.unpinned, T.keep _ _ _ st5 fun b hb o e => (I7.pin (b, o) (aM0 _ (aM0 _ (xI hb e)))).1, fun b hb => ?_, w7⟩;obtain ⟨o, e, d⟩ := T.obj _ _ st5 b hb;exact (I7.pin (b, o) (aM0 _ (aM0 _ (xI hb e)))).2.1
  cases f with
  | next => obtain ⟨σ7, H7, I7, n7⟩ := q7; exact again I7 n7
  | cont => obtain ⟨σ7, H7, I7, n7⟩ := q7; exact again I7 n7
  | brk => obtain ⟨σ7, H7, I7, q7⟩ := q7; exact ⟨σ7, H7, I7.unpinned, q7⟩
  | ret v => obtain ⟨x7, σ7, H7, I7, r7, q7⟩ := q7; exact ⟨x7, σ7, H7, I7.unpinned, r7, q7⟩
end
abbrev R2:=V->V->Hp->VK->Prop
def OpR (X:Cx) (f:Value->Value->Sem Value) (r:R2):Prop:=
 ∀ (pins:List (Addr × Obj)) (s:Shared) (σ:St) (H:Hp) (x y:V) (v u:Value) (Q:VK),Inv X pins σ H s->aV x v->aV y u->r x y H Q ->
  wpAny (model X.prog X.w) X.A (f v u) (EP X pins σ Q) X.xe s
def UnR (X:Cx) (f:Value->Sem Value) (r:V->Hp->VK->Prop):Prop:=
 ∀ (pins:List (Addr × Obj)) (s:Shared) (σ:St) (H:Hp) (x:V) (v:Value) (Q:VK),Inv X pins σ H s->aV x v->r x H Q ->
  wpAny (model X.prog X.w) X.A (f v) (EP X pins σ Q) X.xe s
def eN (X:Cx) (f:Value) (r:List V->Hp->VK->Prop):Prop:=
 ∀ (pins:List (Addr × Obj)) (s:Shared) (σ:St) (H:Hp) (xs:List V) (us:List Value) (Q:VK),Inv X pins σ H s->aK xs us->r xs H Q ->
  wpAny (model X.prog X.w) X.A (call f us) (EP X pins σ Q) X.xe s
def QH (X:Cx) (r:V->Hp->(Bool->Hp->Prop)->Prop):Prop:=
 ∀ (pins:List (Addr × Obj)) (s:Shared) (σ:St) (H:Hp) (x:V) (v:Value) (Q:Bool->Hp->Prop),Inv X pins σ H s->aV x v->r x H Q ->
  wpAny (model X.prog X.w) X.A (truthy v) (TP X pins σ Q) X.xe s
def tOp (r:R2) (ta tb:TE):TE:=fun σ H Q=>ta σ H fun x H1=>tb σ H1 fun y H2=>r x y H2 Q
def tUn (r:V->Hp->VK->Prop) (ta:TE):TE:=fun σ H Q=>ta σ H fun x H1=>r x H1 Q
def rI (C:Int->Int->Prop) (g:Int->Int->V):R2:=fun x y H Q=>∃ i j,x=.int i/\y=.int j/\C i j/\Q (g i j) H
def rI0 (g:Int->Int->V):R2:=fun x y H Q=>∃ i j,x=.int i/\y=.int j/\Q (g i j) H
def rU (g:Int->V):V->Hp->VK->Prop:=fun x H Q=>∃ i,x=.int i/\Q (g i) H
section
variable {X:Cx}{a b c:Expr}{ta tb tc:TE}{pos:Pos}
theorem zZ (ha:PE X a ta) (hb:PE X b tb) {pins:List (Addr × Obj)}{s:Shared}{σ:St}{H:Hp}{R:V->V->Hp->Prop}(I:Inv X pins σ H s)
  (h:ta σ H fun x H1=>tb σ H1 fun y H2=>R x y H2) {Q:Value->Shared->Prop} {f:Value->Value->Sem Value}
  (hf:∀ v u s2 x y H2,Inv X pins σ H2 s2->aV x v->aV y u->R x y H2->wpAny (model X.prog X.w) X.A (f v u) Q X.xe s2):
  wpAny (model X.prog X.w) X.A (eval a X.env) (fun v s₁=>wpAny (model X.prog X.w) X.A (eval b X.env) (fun u s₂=>wpAny (model X.prog X.w) X.A (f v u) Q X.xe s₂) X.xe s₁) X.xe s:=by
 refine thn (ha pins s σ H _ I h) fun v s1 ⟨x,H1,I1,r1,q1⟩=>?_;refine thn (hb pins s1 σ H1 _ I1 q1) fun u s2 ⟨y,H2,I2,r2,q2⟩=>?_;exact hf v u s2 x y H2 I2 r1 r2 q2
theorem CC {op:Operator}{r:R2}(ho:OpR X (binaryOp op) r) (ha:PE X a ta) (hb:PE X b tb):PE X (.BinOp a op b pos) (tOp r ta tb):=by
 intro pins s σ H Q I h;exact wpAny_BinOp (zZ ha hb I h fun v u s2 x y H2 I2 rx ry q=>ho pins s2 σ H2 x y v u Q I2 rx ry q)
theorem aD4 {op:UnaryOp}{r:V->Hp->VK->Prop}(ho:UnR X (unaryOp op) r) (ha:PE X a ta):PE X (.UnaryOp op a pos) (tUn r ta):=by
 intro pins s σ H Q I h;exact UnaryOp_ (thn (ha pins s σ H _ I h) fun v s1 ⟨x,H1,I1,r1,q1⟩=>ho pins s1 σ H1 x v Q I1 r1 q1)
theorem opI {f:Value->Value->Sem Value}{C:Int->Int->Prop}{g:Int->Int->Int}
  (rule:∀ (i j:Int) (t u:Tok) (s:Shared) (Q:Value->Shared->Prop) (E:Value->Shared->Prop),C i j->Q (.int (g i j) s.toks) { s with toks:=s.toks+1 }->wpAny (model X.prog X.w) X.A (f (.int i t) (.int j u)) Q E s):
  OpR X f (rI C fun i j=>.int (g i j)):=by
 intro pins s σ H x y v u Q I rx ry h;obtain⟨i,j,rfl,rfl,hc,q⟩:=h;obtain⟨t,rfl⟩:=rx;obtain⟨t',rfl⟩:=ry;exact rule i j t t' s _ _ hc ⟨.int (g i j),H,I.tok _,⟨_,rfl⟩,q⟩
theorem sT {f:Value->Value->Sem Value}{g:Int->Int->Int}
  (rule:∀ (i j:Int) (t u:Tok) (s:Shared) (Q:Value->Shared->Prop) (E:Value->Shared->Prop),Q (.int (g i j) s.toks) { s with toks:=s.toks+1 }->wpAny (model X.prog X.w) X.A (f (.int i t) (.int j u)) Q E s):
  OpR X f (rI0 fun i j=>.int (g i j)):=by
 intro pins s σ H x y v u Q I rx ry h;obtain⟨i,j,rfl,rfl,q⟩:=h;obtain⟨t,rfl⟩:=rx;obtain⟨t',rfl⟩:=ry;exact rule i j t t' s _ _ ⟨.int (g i j),H,I.tok _,⟨_,rfl⟩,q⟩
theorem BX {f:Value->Value->Sem Value}{g:Int->Int->Bool}
  (rule:∀ (i j:Int) (t u:Tok) (s:Shared) (Q:Value->Shared->Prop) (E:Value->Shared->Prop),Q (.bool (g i j)) s->wpAny (model X.prog X.w) X.A (f (.int i t) (.int j u)) Q E s):
  OpR X f (rI0 fun i j=>.bl (g i j)):=by
 intro pins s σ H x y v u Q I rx ry h;obtain⟨i,j,rfl,rfl,q⟩:=h;obtain⟨t,rfl⟩:=rx;obtain⟨t',rfl⟩:=ry;exact rule i j t t' s _ _ ⟨.bl (g i j),H,I,rfl,q⟩
def DK (i j:Int):Prop:=0<=j/\j<=1000000/\i.natAbs<2^64
theorem aH4 (k:Nat):(0:Int)<=2^k:=by
 rw[two_pow_cast];exact Int.natCast_nonneg _
theorem aC8:OpR X (binaryOp .Add) (rI0 fun i j=>.int (i+j)):=sT fun _ _ _ _ _ _ _ q=>add_int q
theorem aCn:OpR X (binaryOp .Sub) (rI0 fun i j=>.int (i-j)):=sT fun _ _ _ _ _ _ _ q=>sub_int q
theorem aCf:OpR X (binaryOp .Mod) (rI (fun _ j=>0<j) fun i j=>.int (i%j)):=opI fun i j _ _ _ _ _ hc q=>by
 have h1:(0:Int)<j:=hc;exact mod_int' (by lia) (by rw[Int.fmod_eq_emod_of_nonneg i (by lia)];exact q)
theorem aCl:OpR X (binaryOp .LShift) (rI DK fun i j=>.int (i*2^j.toNat)):=opI fun _ _ _ _ _ _ _ hc q=>lshift_int_small hc.1 hc.2.1 hc.2.2 q
theorem aCm:OpR X (binaryOp .RShift) (rI (fun _ j=>0<=j) fun i j=>.int (i / 2^j.toNat)):=opI fun i j _ _ _ _ _ hc q=>
 rshift_int hc (by rw[Int.fdiv_eq_ediv_of_nonneg i (aH4 _)];exact q)
theorem aC9:OpR X (binaryOp .BitAnd) (rI0 fun i j=>.int (Builtin.bitAnd i j)):=sT fun _ _ _ _ _ _ _ q=>and_int q
theorem aCi:OpR X (binaryOp .BitOr) (rI0 fun i j=>.int (Builtin.bitOr i j)):=sT fun _ _ _ _ _ _ _ q=>or_int q
theorem aCo:OpR X (binaryOp .BitXor) (rI0 fun i j=>.int (Builtin.bitXor i j)):=sT fun _ _ _ _ _ _ _ q=>xor_int q
theorem unI {f:Value->Sem Value}{g:Int->Int}
  (rule:∀ (i:Int) (t:Tok) (s:Shared) (Q:Value->Shared->Prop) (E:Value->Shared->Prop),Q (.int (g i) s.toks) { s with toks:=s.toks+1 }->wpAny (model X.prog X.w) X.A (f (.int i t)) Q E s):
  UnR X f (rU fun i=>.int (g i)):=by
 intro pins s σ H x v Q I rx h;obtain⟨i,rfl,q⟩:=h;obtain⟨t,rfl⟩:=rx;exact rule i t s _ _ ⟨.int (g i),H,I.tok _,⟨_,rfl⟩,q⟩
theorem aH5:UnR X (unaryOp .USub) (rU fun i=>.int (-i)):=unI fun _ _ _ _ _ q=>neg_int q
end
def scal:V->V->Bool
 | .non,.non=>true | .non,.int _=>true | .int _,.non=>true | .non,.bl _=>true | .bl _,.non=>true | .non,.str _=>true | .str _,.non=>true
 | .int _,.int _=>true | .bl _,.bl _=>true | .str _,.str _=>true | .byt _,.byt _=>true
 | .int _,.str _=>true | .str _,.int _=>true | .bl _,.str _=>true | .str _,.bl _=>true
 | _,_=>false
section
variable {X:Cx}{a b c:Expr}{ta tb tc:TE}{pos:Pos}
theorem AQ {pins:List (Addr × Obj)}{σ:St}{H:Hp}{s:Shared}{Q:VK}{k k':Bool}(I:Inv X pins σ H s) (q:Q (.bl k) H) (e:k=k'):EP X pins σ Q (.bool k') s:=by
 subst e;exact⟨.bl k,H,I,rfl,q⟩
theorem JD:OpR X (compareOp .Lt) (rI0 fun i j=>.bl (decide (i<j))):=BX fun _ _ _ _ _ _ _ q=>lt_int q
theorem aCc:OpR X (compareOp .Gt) (rI0 fun i j=>.bl (decide (j<i))):=BX fun _ _ _ _ _ _ _ q=>gt_int q
theorem aCb:OpR X (compareOp .GtE) (rI0 fun i j=>.bl (decide (j<=i))):=BX fun _ _ _ _ _ _ _ q=>ge_int q
theorem aCd:OpR X (compareOp .Is) (fun x y H Q=>y=.non/\Q (.bl (decide (x=.non))) H):=by
 intro pins s σ H x y v u Q I rx ry h;obtain⟨rfl,q⟩:=h;cases ry;refine is_none_gen (AQ I q ?_);cases x<;>first
  | (cases rx;rfl)
  | (obtain⟨t,rfl⟩:=rx;rfl)
theorem aCh:OpR X (compareOp .IsNot) (fun x y H Q=>y=.non/\Q (.bl (!decide (x=.non))) H):=by
 intro pins s σ H x y v u Q I rx ry h;obtain⟨rfl,q⟩:=h;cases ry;refine isnot_none_gen (AQ I q ?_);cases x<;>first
  | (cases rx;rfl)
  | (obtain⟨t,rfl⟩:=rx;rfl)
theorem gO (b:Expr) {op:CmpOp}(h:op≠.In:=by decide) (h2:op≠.NotIn:=by decide):behindInMarks op b=false:=by
 have e1:(op == CmpOp.In)=false:=by cases op<;>first | rfl | exact absurd rfl h
 have e2:(op == CmpOp.NotIn)=false:=by cases op<;>first | rfl | exact absurd rfl h2
 cases b<;>simp[behindInMarks,e1,e2]
theorem JJ {op:CmpOp}{r:R2}(ho:OpR X (compareOp op) r) (ha:PE X a ta) (hb:PE X b tb) (hm:behindInMarks op b=false):PE X (.Compare a [op] [b] pos) (tOp r ta tb):=by
 intro pins s σ H Q I h;exact wpAny_Compare1 (zZ ha hb I h fun v u s2 x y H2 I2 rx ry q=>ho pins s2 σ H2 x y v u Q I2 rx ry q) hm
def aGj (t:TE):TT:=fun σ H Q=>t σ H fun x H'=>∃ k,x=.bl k/\Q k H'
theorem aDy {op:CmpOp}{r:R2}(ho:OpR X (compareOp op) r) (ha:PE X a ta) (hb:PE X b tb) (hm:behindInMarks op b=false):PT X (.Compare a [op] [b] pos) (aGj (tOp r ta tb)):=by
 intro pins s σ H Q I h;refine wpAny_isTrue_Compare1 (thn (ha pins s σ H _ I h) fun v s1 ⟨x,H1,I1,r1,q1⟩=>thn (hb pins s1 σ H1 _ I1 q1) fun u s2 ⟨y,H2,I2,r2,q2⟩=>
  thn (ho pins s2 σ H2 x y v u _ I2 r1 r2 q2) fun c s3 ⟨z,H3,I3,r3,k,e,q3⟩=>?_) hm
 subst e;cases r3;exact wpAny_truthy_bool ⟨H3,I3,q3⟩
def zT (K:PySem.W.Frag) (x:V) (H:Hp) (k:Bool):Prop:=
 match x with
 | .non=>k=false
 | .bl b=>k=b
 | .int i=>k=(i != 0)
 | .str y=>y.length<=sizeLine/\k=((y.length:Int) != 0)
 | .byt y=>y.size<=sizeLine/\k=((y.size:Int) != 0)
 | .ref p=>(∃ xs,SqL K H p xs/\k=!xs.isEmpty)\/(∃ xs,SqT K H p xs/\k=!xs.isEmpty)\/∃ kvs,H p=some (.dK kvs)/\k=!kvs.isEmpty
 | _=>False
theorem YH {κ:Type}{kvs:List (κ × V)}{vs:List (κ × Value)}(r:KV kvs vs):(!vs.isEmpty)=!kvs.isEmpty:=by
 cases r<;>rfl
theorem HS {xs:List V}{its:List Value}(r:aK xs its):(!its.toArray.isEmpty)=!xs.isEmpty:=by
 cases r<;>simp
theorem qM:(sizeLine:Nat)<2^63:=by rw[sizeLine_eq];decide
theorem aGx:QH X (fun x H Q=>∃ k,zT X.K x H k/\Q k H):=by
 intro pins s σ H x v Q I rx h;obtain⟨k,e,q⟩:=h;have hl:=qM;have hs:sizeLine=16777216:=sizeLine_eq;cases x with
 | non=>
  cases rx;have e':k=false:=e;subst e';exact truthy_none ⟨H,I,q⟩
 | bl b=>
  cases rx;have e':k=b:=e;subst e';exact wpAny_truthy_bool ⟨H,I,q⟩
 | int i=>
  obtain⟨t,rfl⟩:=rx;have e':k=(i != 0):=e;subst e';exact PySem.P.truthy_int ⟨H,I,q⟩
 | str y=>
  obtain⟨t,rfl⟩:=rx;obtain⟨hy,e'⟩:y.length<=sizeLine/\k=((y.length:Int) != 0):=e;subst e';exact PySem.P.truthy_str (by lia) ⟨H,I.tok _,q⟩
 | byt y=>
  obtain⟨t,rfl⟩:=rx;obtain⟨hy,e'⟩:y.size<=sizeLine/\k=((y.size:Int) != 0):=e;subst e';exact PySem.W.truthy_bytes (by lia) ⟨H,I.tok _,q⟩
 | ref p=>
  cases rx;have e':(∃ xs,SqL X.K H p xs/\k=!xs.isEmpty)\/(∃ xs,SqT X.K H p xs/\k=!xs.isEmpty)\/∃ kvs,H p=some (.dK kvs)/\k=!kvs.isEmpty:=e;rcases e' with ⟨xs,hx,e'⟩ | ⟨xs,hx,e'⟩ | ⟨kvs,hx,e'⟩
  ·subst e'
   obtain⟨its,r,pl,hz⟩:=I.list hx;have hlen:=r.length;exact wpAny_truthy_list pl.isList (by simp only[aKf];lia) ⟨H,I.tok _,by rw[HS r];exact q⟩
  ·subst e'
   obtain⟨its,r,pl,hz⟩:=I.tuple hx;have hlen:=r.length;exact truthy_tuple pl (by simp only[aKf];lia) ⟨H,I.tok _,by rw[HS r];exact q⟩
  ·subst e'
   obtain⟨hz,hS,vs,r,m⟩:kvs.length<=sizeLine/\(p == sysModules)=false/\∃ vs,KV kvs vs/\s.heap.DictOf (BR X.prog X.w) p vs:=I.hok p _ hx;have hlen:kvs.length=vs.length:=Paired.length r;exact wpAny_truthy_dict hS m (by lia) ⟨H,I.tok _,by rw[YH r];exact q⟩
 | _=>exact (show False from e).elim
theorem aE0 (ha:PE X a ta) (he:∀ whole,isTrue a X.env whole=(do let v <- whole;standAt a.pos;holding [v] (truthy v))):
  PT X a (fun σ H Q=>ta σ H fun x H'=>∃ k,zT X.K x H' k/\Q k H'):=by
 intro pins s σ H Q I h;exact isTrue_plain (thn (ha pins s σ H _ I h) fun v s1 ⟨x,H1,I1,r1,q1⟩=>aGx pins s1 σ H1 x v Q I1 r1 q1) (he _)
theorem pR {x:V}{us:List Value}(r:aK [x] us):∃ u,us=[u]/\aV x u:=by
 cases r with
 | cons r1 r2=>cases r2;exact⟨_,rfl,r1⟩
theorem zJ {x y:V}{us:List Value}(r:aK [x,y] us):∃ u w',us=[u,w']/\aV x u/\aV y w':=by
 cases r with
 | cons r1 r2=>
  cases r2 with
  | cons r3 r4=>cases r4;exact⟨_,_,rfl,r1,r3⟩
theorem RH (hc:X.calm=true):eN X (.builtin "min") (fun xs H Q=>∃ i j,xs=[.int i,.int j]/\Q (.int (if j<i then j else i)) H):=by
 intro pins s σ H xs us Q I r h;obtain⟨i,j,rfl,q⟩:=h;obtain⟨u,w',rfl,⟨t,rfl⟩,⟨t',rfl⟩⟩:=zJ r;refine min_two_ints (I.ok.hd hc) fun h' tk k=>⟨_,H,I.kept k,?_,q⟩
 by_cases hj:j<i
 ·rw[if_pos hj,if_pos hj];exact⟨_,rfl⟩
 ·rw[if_neg hj,if_neg hj];exact⟨_,rfl⟩
theorem RE:eN X (.type "int") (fun xs H Q=>(∃ i,xs=[.int i]/\Q (.int i) H)\/∃ k,xs=[.bl k]/\Q (.int (if k then 1 else 0)) H):=by
 intro pins s σ H xs us Q I r h;rcases h with ⟨i,rfl,q⟩ | ⟨k,rfl,q⟩
 ·obtain⟨u,rfl,t,rfl⟩:=pR r
  exact call_int_int ⟨.int i,H,I,⟨_,rfl⟩,q⟩
 ·obtain⟨u,rfl,r1⟩:=pR r
  cases r1;exact call_int_bool ⟨.int (if k then 1 else 0),H,I.tok _,⟨_,rfl⟩,q⟩
end
section
variable {prog:Program}{w:World}{A:Around}{E:Value->Shared->Prop}{s:Shared}{K:PySem.W.Frag}{x dx C f:Addr}{mA:Str->Option Value}{name:Str}{v:Value}
end
section
variable {P:Program}{w:World}{H H':Hp}{h h':Heap}{a C dx:Addr}{fs fs':List (Str × V)}
end
section
variable {X:Cx}{pins:List (Addr × Obj)}{σ:St}{H:Hp}{s:Shared}{a C dx:Addr}{fs:List (Str × V)}{f:Str}{v:V}{A:Around}{E:Value->Shared->Prop}
end
section
variable {X:Cx}{o e value:Expr}{f:Str}{pos pos' tpos:Pos}{ta tv:TE}
end
section
variable {X:Cx}{pins:List (Addr × Obj)}{σ:St}{H:Hp}{s:Shared}{A:Around}{E:Value->Shared->Prop}{Q:Value->Shared->Prop}{c:Value}{b:Bool}
end
structure Room (k:Nat) (A:Around):Prop where
 hd:A.handled=none
 dp:A.depth+3*k+5<recursionLimit
 un:A.units+16*k+200<cLine
theorem Room.mono {j k:Nat}{A:Around}(r:Room k A) (h:j<=k):Room j A:=⟨r.hd,by have:=r.dp;lia,by have:=r.un;lia⟩
theorem Room.deeper {k:Nat}{A:Around}(r:Room (k+1) A) (env:Env):Room k (A.deeper env):=
 ⟨r.hd,by have:=r.dp;show A.depth+1+3*k+5<_;lia,by have:=r.un;show A.units+3+16*k+200<_;lia⟩
theorem Room.depth {k:Nat}{A:Around}(r:Room k A):A.depth<recursionLimit:=by have:=r.dp;lia
theorem Room.units {k:Nat}{A:Around}(r:Room k A):A.units+64<cLine:=by have:=r.un;lia
def aG9:TA:=fun _ H Q=>Q [] H
def aFy (ta:TE) (tr:TA):TA:=fun σ H Q=>ta σ H fun x H1=>tr σ H1 fun xs H2=>Q (x::xs) H2
section
variable {X:Cx}{e:Expr}{es:List Expr}{te:TE}{t:TA}{pos:Pos}
theorem hX:PA X [] aG9:=fun _ _ _ _ H Q I h=>Calls.spliced_nil ⟨[],H,I,.nil,h⟩
theorem eI (ha:PE X e te) (hr:PA X es t) (hs:starEach (e::es) X.env=(false,eval e X.env)::starEach es X.env:=by rfl):PA X (e::es) (aFy te t):=by
 intro pos pins s σ H Q I h;rw[hs];show wpAny _ _ (spliced ((false,eval e X.env)::backTo pos (starEach es X.env))) _ _ s;refine Calls.spliced_cons (thn (ha pins s σ H _ I h) fun u s1 ⟨x,H1,I1,r1,q1⟩=>?_);exact thn (hr pos pins s1 σ H1 _ I1 q1) fun us s2 ⟨xs,H2,I2,r2,q2⟩=>⟨x::xs,H2,I2,.cons r1 r2,q2⟩
def aGl (t:TA):TE:=fun σ H Q=>t σ H fun xs H1=>xs.length<=sizeLine/\∀ p,H1 p=none->Q (.ref p) (upd H1 p (.tup xs))
def aG7 (t:TA):TE:=fun σ H Q=>t σ H fun xs H1=>xs.length<=sizeLine/\∀ p,H1 p=none->Q (.ref p) (upd H1 p (.lst xs))
theorem CD {x1}(h:PA X es t):PE X (.Tuple es x1 pos) (aGl t):=by
 intro pins s σ H Q I hq;refine wpAny_Tuple_spliced (thn (h pos pins s σ H _ I hq) fun us s1 ⟨xs,H1,I1,r,z,q⟩=>⟨by rw[<- r.length];exact z,?_⟩);have hf:H1 s1.heap.objs.size=none:=I1.hok.fresh (aMg _);refine⟨.ref s1.heap.objs.size,upd H1 s1.heap.objs.size (.tup xs),I1.laid (t':=s1.toks) (fun b u e=>aKh _ e) (aMg _) ?_,rfl,q _ hf⟩;exact⟨z,us,r,⟨_,aKu _ rfl,rfl,_,rfl⟩⟩
theorem aCy (h:PA X es t):PE X (.List es pos) (aG7 t):=by
 intro pins s σ H Q I hq;refine wpAny_List_spliced (thn (h pos pins s σ H _ I hq) fun us s1 ⟨xs,H1,I1,r,z,q⟩=>⟨by rw[<- r.length];exact z,?_⟩);have hf:H1 s1.heap.objs.size=none:=I1.hok.fresh (aMg _);refine⟨.ref s1.heap.objs.size,upd H1 s1.heap.objs.size (.lst xs),I1.laid (t':=s1.toks) (fun b u e=>aKh _ e) (aMg _) ?_,rfl,q _ hf⟩;exact⟨z,us,0,r,aKu _ rfl⟩
end
abbrev Sp:=List V->Hp->VK->XK->Prop
abbrev CXT:=List Env->Hp->Shared->XK->Value->Shared->Prop
structure Env0 (P:Program) (w:World) (K:PySem.W.Frag) (mg:Str->Option Value) (base:Heap) (A:Around) (outer:List Env) (s:Shared) (H:Hp):Prop where
 frames:A.frames=some outer
 mod:Mod K mg base
 bs:∀ b o,base.get? b=some o->s.heap.get? b=some o/\H b=none
 bsz:base.objs.size<=s.heap.objs.size
 funs:s.heap.FunFrames base outer
 frf:∀ b∈frs outer,H b=none
 hok:HOk P w H s.heap
 bare:AllBare s.gens
def CE (outer:List Env) (P:Program) (w:World) (H:Hp) (s:Shared) (Q:VK) (u:Value) (s':Shared):Prop:=
 ∃ v H',s'.os=s.os/\AllBare s'.gens/\Un (frs outer) [] H H' s.heap s'.heap/\HOk P w H' s'.heap/\aV v u/\Q v H'
def CR (CX:CXT) (outer:List Env) (P:Program) (w:World) (H:Hp) (s:Shared) (Q:VK) (E:XK) (r:Result) (s':Shared):Prop:=
 match r with
 | .ok (.ret u)=>CE outer P w H s Q u s'
 | .ok _=>False
 | .error e=>CX outer H s E e s'
structure FnOk (P:Program) (w:World) (K:PySem.W.Frag) (mg:Str->Option Value) (base:Heap) (CX:CXT) (k:Nat) (f:Addr) (fd:FuncData) (ps:List Str) (sp:Sp):Prop where
 len:∀ vs H Q E,sp vs H Q E->vs.length=ps.length
 run:∀ (A:Around) (outer:List Env) (s:Shared) (H:Hp) (args:Args) (us:List Value) (vs:List V) (Q:VK) (E:XK),Room k A->Env0 P w K mg base A outer s H->BindsTo s fd args (ps.zip us)->aK vs us->sp vs H Q E ->
  codeAny (model P w) A (.call (.ref f) args) (CR CX outer P w H s Q E) s
section
variable {X:Cx}{pins:List (Addr × Obj)}{σ:St}{H:Hp}{s s':Shared}
theorem Inv.env0 (I:Inv X pins σ H s):Env0 X.prog X.w X.K X.mg X.base X.A X.stack s H:=
 ⟨I.ok.frames,I.ok.mod,I.bs,aMh I.ok.bsz I.sz,I.stack,I.stkFree,I.hok,I.bare⟩
theorem Inv.after {Q:VK}{u:Value}(I:Inv X pins σ H s) (h:CE X.stack X.prog X.w H s Q u s'):EP X pins σ Q u s':=by
 obtain⟨v,H',os,bare,un,hok,r,q⟩:=h;obtain⟨hh,g,d,t,os'⟩:=s';obtain rfl:os'=s.os:=os;exact⟨v,H',I.call (h':=hh) (g':=g) (d':=d) (t':=t) (ch:=[]) un hok bare (fun b z=>absurd z (by simp)),r,q⟩
end
def aFw (sp:Sp) (dvs:List V) (E:XK) (t:TA):TE:=fun σ H Q=>t σ H fun vs H1=>sp (vs++dvs) H1 Q E
def fE (K:PySem.W.Frag) (fd:FuncData) (ps:List Str) (ds:List Value):Prop:=
 ∀ (s:Shared) (us:List Value),K.In s.heap->(us++ds).length=ps.length->BindsTo s fd ⟨us,[]⟩ (ps.zip (us++ds))
theorem fE.all {K:PySem.W.Frag}{fd:FuncData}{ps:List Str}(h:∀ us:List Value,us.length=ps.length->bindArgs fd ⟨us,[]⟩=pure (ps.zip us)):fE K fd ps []:=fun s us _ hl=>by
 rw[aL3] at hl ⊢;exact .of_eq (h us hl)
def zR (CX:CXT) (X:Cx) (E:XK):Prop:=∀ (pins:List (Addr × Obj)) (σ:St) (H:Hp) (s:Shared) (e:Value) (s':Shared),Inv X pins σ H s->CX X.stack H s E e s'->X.xe e s'
section
variable {X:Cx}{CX:CXT}{k:Nat}{f C:Addr}{fd:FuncData}{ps:List Str}{sp:Sp}{dvs:List V}{ds:List Value}{E:XK}{x m:Str}{p pos apos:Pos}{e o:Expr}{es:List Expr}{ta:TE}{t:TA}
theorem aEy {pins:List (Addr × Obj)}{σ:St}{H:Hp}{s:Shared}{Q:VK}{us:List Value}{vs:List V}(F:FnOk X.prog X.w X.K X.mg X.base CX k f fd ps sp) (hr:Room k X.A) (hb:fE X.K fd ps ds) (hd:aK dvs ds) (hx:zR CX X E)
  (I:Inv X pins σ H s) (r:aK vs us) (h:sp (vs++dvs) H Q E):wpAny (model X.prog X.w) X.A (call (.ref f) us) (EP X pins σ Q) X.xe s:=by
 have r2:aK (vs++dvs) (us++ds):=r.append hd;have hl:(us++ds).length=ps.length:=by rw[<- r2.length];exact F.len _ _ _ _ h
 refine wpAny_call (codeAny_mono (F.run X.A X.stack s H ⟨us,[]⟩ (us++ds) (vs++dvs) Q E hr I.env0 (hb s us I.kIn hl) r2 h) fun r s' hq=>?_);cases r with
 | error e=>exact hx pins σ H s e s' I hq
 | ok fl=>
  cases fl with
  | ret u=>exact I.after hq
  | next=>exact False.elim hq
  | brk=>exact False.elim hq
  | cont=>exact False.elim hq
theorem JH (F:FnOk X.prog X.w X.K X.mg X.base CX k f fd ps sp) (hr:Room k X.A) (hg:Gl X x) (hm:X.mg x=some (.ref f)) (hk:PySem.W.keepIn X.K (.ref f)=true) (hb:fE X.K fd ps ds) (hd:aK dvs ds) (hx:zR CX X E)
  (ha:PA X (e::es) t) (hdb:(x == ("__debug__" : Str))=false:=by decide) (he:starEach (e::es) X.env=(false,eval e X.env)::starEach es X.env:=by rfl) (hpl:(backTo pos (starEach es X.env)).any (·.1)=false:=by rfl):
  PE X (.Call (.Name x p) (e::es) [] pos) (aFw sp dvs E t):=by
 intro pins s σ H Q I h;refine wpAny_Call_Name_kw (sH I hg hm ?_ hdb);refine PySem.W.callWith_K (h₀:=X.base) I.ok.mod.kin hk (thn (ha pos pins s σ H _ I h) fun us s1 ⟨vs,H1,I1,r,q⟩=>⟨I1.kIn,?_⟩) he hpl;exact aEy F hr hb hd hx I1 r q
end
section
variable {X:Cx}{CX:CXT}{k:Nat}{f C:Addr}{fd:FuncData}{ps ks:List Str}{sp:Sp}{E:XK}{x m:Str}{p pos apos kpos:Pos}{e o:Expr}{es:List Expr}{kws:List Keyword}{te ta:TE}{t tk:TA}{nm:Option Str}
variable {g:List Value->List Value->List Value}{gV:List V->List V->List V}
end
structure FnScope (N P:List Str) (sc:Scope):Prop where
 kind:sc.kind=.function
 co:sc.isCoroutine=false
 gen:sc.isGenerator=false
 nd:N.Nodup
 pre:N.take P.length=P
 par:∀ x∈P,sc.names.lookup x=some .local\/sc.names.lookup x=some .cell
 nofree:∀ y∈sc.names,y.2≠.free
theorem EM {kindOf:Str->Option NameKind}{x:Str}:∀ {binds:List (Str × Value)}{m:Str->Option Value},(∀ v,(x,v) ∉ binds)->bindL kindOf binds m x=m x
 | [],_,_=>rfl
 | (n,v)::r,m,h=>by
  unfold bindL;rw[EM fun w hw=>h w (aK9 _ hw)]
  split
  ·have:x≠n:=by rintro rfl;exact h v aKa
   simp[this]
  ·rfl
theorem EK {kindOf:Str->Option NameKind}{x:Str}:∀ {binds:List (Str × Value)}{m:Str->Option Value},(∀ v,(x,v) ∉ binds)->bindC kindOf binds m x=m x
 | [],_,_=>rfl
 | (n,v)::r,m,h=>by
  unfold bindC;rw[EK fun w hw=>h w (aK9 _ hw)]
  split
  ·rfl
  ·have:x≠n:=by rintro rfl;exact h v aKa
   simp[this]
theorem EL {kindOf:Str->Option NameKind}{x:Str}{v:Value}:∀ {P:List Str}{vs:List Value}{i:Nat}{m:Str->Option Value},P.Nodup->P[i]?=some x->vs[i]?=some v->kindOf x=some .local ->
  bindL kindOf (P.zip vs) m x=some v
 | [],_,_,_,_,h,_,_=>by simp at h
 | _::_,[],_,_,_,_,h,_=>by simp at h
 | p::P,w::vs,0,m,nd,h1,h2,hk=>by
  simp at h1 h2;subst h1;subst h2;show bindL kindOf ((p,w)::P.zip vs) m p=_;unfold bindL;rw[EM fun v hv=>(aM9.mp nd).1 (List.of_mem_zip hv).1,if_pos hk];simp
 | p::P,w::vs,i+1,m,nd,h1,h2,hk=>by
  show bindL kindOf ((p,w)::P.zip vs) m x=_;unfold bindL;exact EL (i:=i) (aM9.mp nd).2 (by simpa using h1) (by simpa using h2) hk
theorem EJ {kindOf:Str->Option NameKind}{x:Str}{v:Value}:∀ {P:List Str}{vs:List Value}{i:Nat}{m:Str->Option Value},P.Nodup->P[i]?=some x->vs[i]?=some v->kindOf x≠some .local ->
  bindC kindOf (P.zip vs) m x=some v
 | [],_,_,_,_,h,_,_=>by simp at h
 | _::_,[],_,_,_,_,h,_=>by simp at h
 | p::P,w::vs,0,m,nd,h1,h2,hk=>by
  simp at h1 h2;subst h1;subst h2;show bindC kindOf ((p,w)::P.zip vs) m p=_;unfold bindC;rw[EK fun v hv=>(aM9.mp nd).1 (List.of_mem_zip hv).1,if_neg hk];simp
 | p::P,w::vs,i+1,m,nd,h1,h2,hk=>by
  show bindC kindOf ((p,w)::P.zip vs) m x=_;unfold bindC;exact EJ (i:=i) (aM9.mp nd).2 (by simpa using h1) (by simpa using h2) hk
def start (N:List Str) (vs:List V):St:=vs.map some++List.replicate (N.length-vs.length) none
def aQ (CX:CXT) (P:Program) (w:World) (K:PySem.W.Frag) (mg:Str->Option Value) (base:Heap) (N:List Str) (qual:Str) (scope:Scope) (f:Addr) (cd:Value) (A:Around) (outer:List Env) (s:Shared) (H:Hp) (E:XK):Cx where
 prog:=P
 w:=w
 K:=K
 mg:=mg
 base:=base
 A:=A.deeper (envOfC qual scope s.heap.objs.size f cd)
 N:=N
 s₀:=s
 H₀:=H
 env:=envOfC qual scope s.heap.objs.size f cd
 outer:=outer
 stack:=envOfC qual scope s.heap.objs.size f cd::outer
 ex:=[]
 calm:=true
 fn:=fun _=>true
 pn:=[]
 xe:=fun e s'=>wpAny (model P w) (A.deeper (envOfC qual scope s.heap.objs.size f cd)) (leaving (envOfC qual scope s.heap.objs.size f cd) e) (fun _ s''=>CX outer H s E e s'') (fun e' s''=>CX outer H s E e' s'') s'
theorem EQ {sc:Scope}{n:Nat}{x:Str}(h:sc.names.lookup x=some .cell):∃ c,(cellsFrom n sc.names []).lookup x=some c:=by
 have q:=PySem.W.cellsFrom_some sc.names n [] (.inl h);exact Option.isSome_iff_exists.mp q
theorem YG {CX:CXT}{P:Program}{w:World}{K:PySem.W.Frag}{mg:Str->Option Value}{base:Heap}{N ps:List Str}{qual:Str}{scope:Scope}{f:Addr}{cd:Value}{A:Around}{outer:List Env}{s s1:Shared}{H:Hp}{E:XK}{us:List Value}{vs:List V}
  (S:FnScope N ps scope) (hd:A.handled=none) (e0:Env0 P w K mg base A outer s H) (hl:vs.length=ps.length) (r:aK vs us)
  (x:InCallC s s.heap.objs.size (bindL (envOfC qual scope s.heap.objs.size f cd).kindOf (ps.zip us) fun _=>none) (cellsFrom (s.heap.objs.size+1) scope.names []) (bindC (envOfC qual scope s.heap.objs.size f cd).kindOf (ps.zip us) fun _=>none) s1):
  Inv (aQ CX P w K mg base N qual scope f cd A outer s H E) [] (start N vs) H s1:=by
 have hpl:ps.length<=N.length:=by have:=congrArg List.length S.pre;rw[aLt] at this;lia
 obtain⟨h1,tk,rfl,hk⟩:=x.done;have noA:∀ b:Addr,b ∉ (aQ CX P w K mg base N qual scope f cd A outer s H E).ex:=fun b z=>absurd (show b∈([]:List Addr) from z) (by simp);refine⟨⟨e0.mod,S.kind,rfl,rfl,aMg _,fun y z c h1 h2=>?_,fun y hy=>?_,fun y c _ h=>?_,fun _=>hd,Around.frames_deeper e0.frames,.inr ⟨rfl,rfl⟩,fun b z=>absurd z (noA b),e0.bs,e0.bsz,fun b _ _=>noA b,fun b z=>absurd z (noA b),e0.funs,e0.frf⟩,
  rfl,e0.bare,Un.kept hk,⟨_,x.toInCall.ns,fun i y v h1 h2 h3=>?_⟩,fun y c h=>⟨_,x.cell y c h⟩,e0.hok.fresh (aMg _),fun y c h=>?_,fun p hp=>absurd (show p∈([]:List (Addr × Obj)) from hp) (by simp),e0.hok.kept hk,?_⟩
 ·exact name_of_addr x.apart (PySem.mem_of_lookup h1) (PySem.mem_of_lookup h2)
 ·have hy:scope.names.lookup y=some .cell\/scope.names.lookup y=some .free:=hy
  rcases hy with hy | hy
  ·exact EQ hy
  ·exact absurd rfl (S.nofree _ (PySem.mem_of_lookup hy))
 ·exact aMf (x.above y c (PySem.mem_of_lookup h))
 ·have hi:i<vs.length:=by
   unfold start at h2
   by_cases hi:i<vs.length
   ·exact hi
   ·rw[List.getElem?_append_right (by simpa using hi)] at h2
    rw[List.getElem?_replicate] at h2;split at h2<;>cases h2
  have ha:vs[i]?=some v:=by
   unfold start at h2;rw[List.getElem?_append_left (by simpa using hi),aLh] at h2;cases e:vs[i]? with
   | none=>rw[e] at h2;cases h2
   | some a=>rw[e] at h2;cases h2;rfl
  obtain⟨u,hu,rv⟩:=r.get ha;have hp:ps[i]?=some y:=by
   rw[<- S.pre,List.getElem?_take_of_lt (by lia)];exact h1
  have ndP:ps.Nodup:=by rw[<- S.pre];exact S.nd.sublist (List.take_sublist _ _)
  refine⟨u,rv,?_⟩;rcases S.par y (List.mem_of_getElem? hp) with k | k
  ·exact .inl ⟨k,EL ndP hp hu k⟩
  ·obtain⟨c,e⟩:=EQ (n:=s.heap.objs.size+1) k
   refine .inr ⟨.inl k,c,e,?_⟩;have q:=x.cell y c e;rw[EJ ndP hp hu (by show scope.names.lookup y≠_;rw[k];decide)] at q;exact q
 ·exact e0.hok.fresh (aMf (x.above y c (PySem.mem_of_lookup h)))
 ·unfold start
  show _=N.length;rw[aLl,aLo,List.length_replicate];lia
theorem AS {CX:CXT}{P:Program}{w:World}{K:PySem.W.Frag}{mg:Str->Option Value}{base:Heap}{k:Nat}{f:Addr}{name qual:Str}{params:Arguments}{body:List Stmt}{scope:Scope}{dV kV doc pm cdv ct oc:Value}{an od:Option Addr}
  {osl:Array (Option Value)} {N ps:List Str} {sp:Sp} (lk:K.lookup f=some ⟨oc,od,.func (PySem.W.fnOf name qual params body scope dV kV doc pm an cdv ct),osl⟩) (hcd:PySem.W.codeIn K cdv qual=true) (S:FnScope N ps scope)
  (len:∀ vs H Q E,sp vs H Q E->vs.length=ps.length)
  (hbody:∀ (A:Around) (outer:List Env) (s:Shared) (H:Hp) (vs:List V) (Q:VK) (E:XK),Room k (A.deeper (envOfC qual scope s.heap.objs.size f cdv))->sp vs H Q E ->
   ∃ t,PSs (aQ CX P w K mg base N qual scope f cdv A outer s H E) body t/\t { nx:=fun _ H'=>Q .non H',rt:=Q } (start N vs) H):
  FnOk P w K mg base CX (k+1) f (PySem.W.fnOf name qual params body scope dV kV doc pm an cdv ct) ps sp:=by
 refine⟨len,fun A outer s H args us vs Q E hr e0 hb r hsp=>?_⟩;have hl:=len _ _ _ _ hsp;have KX:K.In s.heap:=e0.mod.kin.keeps fun b o e=>(e0.bs b o e).1;have lim:s.heap.NoLimit:=e0.mod.nolimit.keeps fun b o e=>(e0.bs b o e).1;have hkind:∀ y∈ps.zip us,scope.names.lookup y.1=some .local\/(scope.names.lookup y.1=some .cell/\((cellsFrom (s.heap.objs.size+1) scope.names []).lookup y.1).isSome=true):=fun ⟨n,v⟩ hy=>by
  rcases S.par n (List.of_mem_zip hy).1 with q | q
  ·exact .inl q
  ·exact .inr ⟨q,PySem.W.cellsFrom_some _ _ _ (.inl q)⟩
 refine codeAny_call_function hr.depth (KX _ _ lk) rfl S.co S.gen rfl (PySem.W.codeRec_of KX hcd) (hb _ _ _ _ ?_);refine wpAny_newFunctionEnv_cells S.kind hkind fun env he s1 x=>?_;subst he;refine⟨lim.keeps x.toInCall.keep,codeAny_func ?_⟩;obtain⟨t,ht,hq⟩:=hbody A outer s H vs Q E (hr.deeper _) hsp;have I:Inv (aQ CX P w K mg base N qual scope f cdv A outer s H E) [] (start N vs) H s1:=YG S hr.hd e0 hl r x;refine wpAny_mono (ht [] s1 (start N vs) H _ I hq) (fun fl s' hs=>?_) fun e s' hs=>hs;have fin:∀ {σ':St} {H':Hp} {v:V} {u:Value},Inv (aQ CX P w K mg base N qual scope f cdv A outer s H E) [] σ' H' s'->aV v u->Q v H'->CE outer P w H s Q u s':=
  fun {σ' H' v u} J rv q=>⟨v,H',J.os,J.bare,J.base,J.hok,rv,q⟩
 cases fl with
 | ret u=>
  obtain⟨v,σ',H',J,rv,q⟩:=hs;exact fin J rv q
 | next=>
  obtain⟨σ',H',J,q⟩:=hs;exact fin (v:=V.non) (u:=Value.none) J rfl q
 | brk=>
  obtain⟨_,_,_,q⟩:=hs;exact False.elim q
 | cont=>
  obtain⟨_,_,_,q⟩:=hs;exact False.elim q
section
variable {X:Cx}{x:Str}{p pos:Pos}{e:Expr}{es:List Expr}{t:TA}{id T:String}{r:List V->Hp->VK->Prop}
def tCB (r:List V->Hp->VK->Prop) (t:TA):TE:=fun σ H Q=>t σ H fun vs H1=>r vs H1 Q
theorem jS (hc:eN X (.builtin id) r) (hg:Gl X x) (hm:X.mg x=none) (hv:bootBuiltins x=some (.builtin id)) (ha:PA X (e::es) t) (hn:x ≠ "__name__" := by decide) (hdb:(x == ("__debug__" : Str))=false:=by decide)
  (he:starEach (e::es) X.env=(false,eval e X.env)::starEach es X.env:=by rfl) (hpl:(backTo pos (starEach es X.env)).any (·.1)=false:=by rfl):PE X (.Call (.Name x p) (e::es) [] pos) (tCB r t):=by
 intro pins s σ H Q I h;refine wpAny_Call_Name_kw (eH I hg hm hv ?_ hn hdb);exact PyProof.Rows.callWith_builtin1 (thn (ha pos pins s σ H _ I h) fun us s1 ⟨vs,H1,I1,r1,q1⟩=>hc pins s1 σ H1 vs us Q I1 r1 q1) he hpl
theorem JI (hc:eN X (.type T) r) (hg:Gl X x) (hm:X.mg x=none) (hv:bootBuiltins x=some (.type T)) (ha:PA X (e::es) t) (hn:x ≠ "__name__" := by decide) (hdb:(x == ("__debug__" : Str))=false:=by decide)
  (he:starEach (e::es) X.env=(false,eval e X.env)::starEach es X.env:=by rfl) (hpl:(backTo pos (starEach es X.env)).any (·.1)=false:=by rfl):PE X (.Call (.Name x p) (e::es) [] pos) (tCB r t):=by
 intro pins s σ H Q I h;refine wpAny_Call_Name_kw (eH I hg hm hv ?_ hn hdb);exact aN3 (thn (ha pos pins s σ H _ I h) fun us s1 ⟨vs,H1,I1,r1,q1⟩=>hc pins s1 σ H1 vs us Q I1 r1 q1) he hpl
end
end L2
namespace HT
open PySem PyProof.Rows
section
open PySem.SeqAt
open PySem.AutoSeq1 (wpAny_loadPart')
open PySem.MeetsSeq PySem.MeetsSeq2 PySem.MeetsSeq3
end
section
variable {prog:Program}{w:World}{A:Around}{E:Value->Shared->Prop}{s:Shared}
end
end HT
namespace L2
open PySem PySem.Spec PyProof.Rows
abbrev TO:=St->Hp->(Option Int->Hp->Prop)->Prop
def PO (X:Cx) (e:Option Expr) (t:TO):Prop:=
 ∀ (pins:List (Addr × Obj)) (s:Shared) (σ:St) (H:Hp) (Q:Option Int->Hp->Prop),Inv X pins σ H s->t σ H Q ->
  wpAny (model X.prog X.w) X.A (evalPart e X.env) (fun u s'=>∃ o H',Inv X pins σ H' s'/\IsPart u o/\Q o H') X.xe s
def aGa:TO:=fun _ H Q=>Q none H
def aGe (t:TE):TO:=fun σ H Q=>t σ H fun x H1=>∃ i,x=.int i/\Q (some i) H1
section
variable {X:Cx}{e:Expr}{te:TE}{lo hi:Option Expr}{tl th:TO}{pos p2:Pos}
theorem aDg:PO X none aGa:=by
 intro pins s σ H Q I h;rw[evalPart_none];exact wpAny_pure ⟨none,H,I,.none,h⟩
theorem aDh (h:PE X e te):PO X (some e) (aGe te):=by
 intro pins s σ H Q I hw;rw[evalPart_some];refine thn (h pins s σ H _ I hw) fun u s1 ⟨x,H1,I1,r1,q1⟩=>?_;obtain⟨i,rfl,q⟩:=q1;obtain⟨t,rfl⟩:=r1;exact⟨some i,H1,I1,.int i t,q⟩
end
def ixN (n:Nat) (i:Int):Option Nat:=if 0<=i then (if i<n then some i.toNat else none) else if -(n:Int)<=i then some (i+n).toNat else none
def atI {α:Type} (xs:List α) (i:Int):Option α:=(ixN xs.length i).bind fun j=>xs[j]?
theorem HY {n:Nat}{i:Int}{j:Nat}(h:ixN n i=some j):seqIndex? i n=some j/\j<n /\ -(n:Int)<=i/\i<n:=by
 unfold ixN at h
 by_cases h0:0<=i
 ·rw[if_pos h0] at h
  by_cases h1:i<n
  ·rw[if_pos h1] at h
   have e:i.toNat=j:=aK6 h;exact⟨by rw[seqIndex_of h0 h1,e],by lia,by lia,h1⟩
  ·rw[if_neg h1] at h;cases h
 ·rw[if_neg h0] at h
  by_cases h1 : -(n:Int)<=i
  ·rw[if_pos h1] at h
   have e:(i+n).toNat=j:=aK6 h;exact⟨by rw[seqIndex_neg (by lia) h1,e],by lia,h1,by lia⟩
  ·rw[if_neg h1] at h;cases h
theorem zX {α:Type}{xs:List α}{i:Int}{v:α}(h:atI xs i=some v):∃ j,seqIndex? i xs.length=some j/\xs[j]?=some v/\j<xs.length /\ -(xs.length:Int)<=i/\i<xs.length:=by
 unfold atI at h;cases e:ixN xs.length i with
 | none=>rw[e] at h;cases h
 | some j=>
  rw[e] at h;obtain⟨h1,h2,h3,h4⟩:=HY e;exact⟨j,h1,h,h2,h3,h4⟩
theorem QQ {α:Type}{xs:List α}{j:Nat}{v:α}(h:xs[j]?=some v):atI xs (j:Int)=some v:=by
 have hj:j<xs.length:=(aKb.mp h).1;have e:ixN xs.length (j:Int)=some j:=by
  unfold ixN;rw[if_pos (by lia),if_pos (by lia)];simp
 unfold atI;rw[e];exact h
theorem EG {α:Type}(xs:List α) (v:α):atI (xs++[v]) (-1)=some v:=by
 have hl:(xs++[v]).length=xs.length+1:=by simp
 have e:ixN (xs++[v]).length (-1)=some xs.length:=by
  unfold ixN;rw[hl,if_neg (by decide),if_pos (by lia)]
  congr 1
  lia
 unfold atI;rw[e];show (xs++[v])[xs.length]?=some v;simp
def DZ (b:Expr):Prop:=∀ o i,subscripted b false o i=operate [o,i] (getItem o i)
def IxR (X:Cx) (r:R2):Prop:=
 ∀ (value slice:Expr) (pins:List (Addr × Obj)) (s:Shared) (σ:St) (H:Hp) (x y:V) (v u:Value) (Q:VK),Inv X pins σ H s->aV x v->aV y u->r x y H Q ->
  subscripted slice false v u=operate [v,u] (getItem v u)->wpAny (model X.prog X.w) X.A (subscriptTail value slice v u) (EP X pins σ Q) X.xe s
def MtR (X:Cx) (id:String) (r:V->List V->Hp->VK->Prop):Prop:=
 ∀ (pins:List (Addr × Obj)) (s:Shared) (σ:St) (H:Hp) (x:V) (xs:List V) (v:Value) (us:List Value) (Q:VK),Inv X pins σ H s->aV x v->aK xs us->r x xs H Q ->
  wpAny (model X.prog X.w) X.A (call (.builtin id) (v::us)) (EP X pins σ Q) X.xe s
section
variable {X:Cx}{a b:Expr}{ta tb:TE}{pos:Pos}
theorem IxR.or {r r':R2}(h:IxR X r) (h':IxR X r'):IxR X (fun x y H Q=>r x y H Q\/r' x y H Q):=by
 intro value slice pins s σ H x y v u Q I rx ry q hs;rcases q with q | q
 ·exact h value slice pins s σ H x y v u Q I rx ry q hs
 ·exact h' value slice pins s σ H x y v u Q I rx ry q hs
theorem aCw {r:R2}(hr:IxR X r) (ha:PE X a ta) (hb:PE X b tb) (hs:DZ b):PE X (.Subscript a b pos) (tOp r ta tb):=by
 intro pins s σ H Q I h;exact Subscript_ (zZ ha hb I h fun v u s2 x y H2 I2 rx ry q=>hr a b pins s2 σ H2 x y v u Q I2 rx ry q (hs _ _))
def KJ (K:PySem.W.Frag):R2:=fun x y H Q=>∃ p xs i v,x=.ref p/\y=.int i/\SqL K H p xs/\atI xs i=some v/\Q v H
def KM (K:PySem.W.Frag):R2:=fun x y H Q=>∃ p xs i v,x=.ref p/\y=.int i/\SqT K H p xs/\atI xs i=some v/\Q v H
def KK:R2:=fun x y H Q=>∃ z i c,x=.str z/\y=.int i/\z.length<=sizeLine/\atI z.cps.toList i=some c/\Q (.str ⟨#[c]⟩) H
theorem YQ:IxR X (KJ X.K):=by
 intro value slice pins s σ H x y v u Q I rx ry h hs;obtain⟨p,xs,i,z,rfl,rfl,hq,he,q⟩:=h;cases rx;obtain⟨t,rfl⟩:=ry;obtain⟨its,r,pl,hz⟩:=I.list hq;obtain⟨j,h1,h2,h3,h4,h5⟩:=zX he;obtain⟨w,ew,rw'⟩:=r.get h2;have hl:=r.length;have hn:=qM;have fin:EP X pins σ Q w s:=⟨z,H,I,rw',q⟩
 by_cases h0:0<=i
 ·have hj:i.toNat=j:=by
   rw[seqIndex_of h0 h5] at h1;exact aK6 h1
  exact item_listR pl.isList h0 (by lia) (by rw[hj];simpa using ew) fin hs
 ·have hj:(i+(its.toArray.size:Int)).toNat=j:=by
   rw[seqIndex_neg (by lia) h4] at h1;rw[aKf,<- hl];exact aK6 h1
  exact subscriptTail_builtinR (x:=w) pl.isList.typeIs slot_list_getitem.lookup
   (wpAny_getItem_list_neg (Q:=fun r s'=>r=w/\EP X pins σ Q r s') pl.isList (by lia) (by rw[aKf]<;>lia) (by lia) (by rw[hj];simpa using ew) ⟨rfl,fin⟩) hs
theorem YT:IxR X (KM X.K):=by
 intro value slice pins s σ H x y v u Q I rx ry h hs;obtain⟨p,xs,i,z,rfl,rfl,hq,he,q⟩:=h;cases rx;obtain⟨t,rfl⟩:=ry;obtain⟨its,r,pl,hz⟩:=I.tuple hq;obtain⟨j,h1,h2,h3,h4,h5⟩:=zX he;obtain⟨w,ew,rw'⟩:=r.get h2;have hl:=r.length;have hn:=qM;have fin:EP X pins σ Q w s:=⟨z,H,I,rw',q⟩;exact subscriptTail_builtinR (x:=w) pl.typeIs slot_tuple_getitem.lookup
  (getItem_tuple (j:=j) (Q:=fun r s'=>r=w/\EP X pins σ Q r s') pl (by lia) (by lia) (by rw[aKf,<- hl];exact h1) (by simpa using ew) ⟨rfl,fin⟩) hs
theorem YS:IxR X KK:=by
 intro value slice pins s σ H x y v u Q I rx ry h hs;obtain⟨z,i,c,rfl,rfl,hz,he,q⟩:=h;obtain⟨t,rfl⟩:=rx;obtain⟨t',rfl⟩:=ry;obtain⟨j,h1,h2,h3,h4,h5⟩:=zX he;have hl:z.cps.toList.length=z.length:=by simp[Str.length]
 rw[hl] at h1 h4 h5;have hn:=qM;exact tail_any (typeIs_str s z t) slot_str_getitem.lookup (getItem_str (c:=c) (by
  have e1:decide (i < -(2^63:Int))=false:=decide_eq_false (by lia);have e2:decide (i >= 2^63)=false:=decide_eq_false (by lia);rw[e1,e2,Bool.or_false]) (by rw[h1];simpa using h2) ⟨.str ⟨#[c]⟩,H,I.tok _,⟨_,rfl⟩,q⟩) hs
def rIx (K:PySem.W.Frag):R2:=fun x y H Q=>KJ K x y H Q\/KM K x y H Q\/KK x y H Q
theorem YR:IxR X (rIx X.K):=YQ.or (YT.or YS)
theorem ZZ (its:List Value) (n j:Nat) (u:Value):Obj.mapSeq (·.setIfInBounds j u) { cls:=.type "list",data:=.seq its.toArray n }={ cls:=.type "list",data:=.seq (its.set j u).toArray n }:=by
 simp[Obj.mapSeq]
theorem Inv.lst {pins:List (Addr × Obj)}{σ:St}{H:Hp}{s:Shared}{p:Addr}{xs:List V}(I:Inv X pins σ H s) (h:H p=some (.lst xs)):
  ∃ (its:List Value) (n:Nat),aK xs its/\s.heap.get? p=some { cls:=.type "list",data:=.seq its.toArray n }/\xs.length<=sizeLine:=by
 obtain⟨z,its,n,r,e⟩:=I.hok p _ h;exact⟨its,n,r,e,z⟩
theorem Inv.lstUpd {pins:List (Addr × Obj)}{σ:St}{H:Hp}{s:Shared}{p:Addr}{xs ys:List V}{its its':List Value}{n n':Nat}{f:Obj->Obj}(I:Inv X pins σ H s) (h:H p=some (.lst xs))
  (ho:s.heap.get? p=some { cls:=.type "list",data:=.seq its.toArray n }) (hf:f { cls:=.type "list",data:=.seq its.toArray n }={ cls:=.type "list",data:=.seq its'.toArray n' }) (r:aK ys its') (hz:ys.length<=sizeLine) (t:Nat):
  Inv X pins σ (upd H p (.lst ys)) { s with heap:=s.heap.update p f,toks:=t }:=by
 have e:(s.heap.update p f).get? p=some { cls:=.type "list",data:=.seq its'.toArray n' }:=by
  rw[Heap.get?_update_self f ho (by rw[hf]<;>rfl),hf]
 refine I.write (x:=p) (e:=p) (by rw[h];trivial) (.inl rfl) (fun b u hb q=>(Heap.get?_update_other _ _ (Ne.symm hb)).trans q) ⟨_,e⟩ ?_;exact⟨hz,its',n',r,e⟩
def aEk:V->V->V->Hp->(Hp->Prop)->Prop:=fun o i v H Q=>∃ p xs k j,o=.ref p/\i=.int k/\H p=some (.lst xs)/\ixN xs.length k=some j/\Q (upd H p (.lst (xs.set j v)))
theorem aFj:DY X aEk:=by
 intro pins s σ H o i v ov iv u Q I ro ri rv h;obtain⟨p,xs,k,j,rfl,rfl,hp,hj,q⟩:=h;cases ro;obtain⟨t,rfl⟩:=ri;obtain⟨its,n,r,ho,hz⟩:=I.lst hp;obtain⟨h1,h2,h3,h4⟩:=HY hj;have hl:=r.length;have hn:=qM;have I':Inv X pins σ (upd H p (.lst (xs.set j v))) { s with heap:=s.heap.update p (Obj.mapSeq (·.setIfInBounds j u)) }:=
  I.lstUpd hp ho (ZZ its n j u) (r.set rv j) (by rw[aLs];exact hz) s.toks
 by_cases h0:0<=k
 ·have hk:k.toNat=j:=by
   rw[seqIndex_of h0 h4] at h1;exact aK6 h1
  exact PySem.W.ki_setAt ho h0 (by lia) (by rw[aKf,<- hl];exact h4) (by rw[hk];exact⟨_,I',q⟩)
 ·have hk:(k+(its.toArray.size:Int)).toNat=j:=by
   rw[seqIndex_neg (by lia) h3] at h1;rw[aKf,<- hl];exact aK6 h1
  exact PySem.W.ki_setBack ho (by lia) (by rw[aKf,<- hl];exact h3) (by lia) (by rw[hk];exact⟨_,I',q⟩)
theorem RF:eN X (.builtin "len") (fun xs H Q=>∃ p ys,xs=[.ref p]/\(SqL X.K H p ys\/SqT X.K H p ys)/\Q (.int ys.length) H):=by
 intro pins s σ H xs us Q I r h;obtain⟨p,ys,rfl,hq,q⟩:=h;obtain⟨u,rfl,rx⟩:=pR r;cases rx;have hn:=qM;rcases hq with hq | hq
 ·obtain⟨its,r',pl,hz⟩:=I.list hq
  have hlen:=r'.length;exact Calls.call_len_list pl.isList (by simp only[aKf]<;>lia) ⟨.int ys.length,H,I.tok _,⟨s.toks+1,by rw[aKf,hlen]⟩,q⟩
 ·obtain⟨its,r',pl,hz⟩:=I.tuple hq
  have hlen:=r'.length;exact len_tuple pl (by simp only[aKf]<;>lia) ⟨.int ys.length,H,I.tok _,⟨s.toks+1,by rw[aKf,hlen]⟩,q⟩
theorem RG:eN X (.type "list") (fun xs H Q=>∃ p ys,xs=[.ref p]/\(SqL X.K H p ys\/SqT X.K H p ys)/\∀ l,H l=none->Q (.ref l) (upd H l (.lst ys))):=by
 intro pins s σ H xs us Q I r h;obtain⟨p,ys,rfl,hq,q⟩:=h;obtain⟨u,rfl,rx⟩:=pR r;cases rx;have fin:∀ (its:List Value),aK ys its->ys.length<=sizeLine->∀ (h':Heap) (c':Nat),(∀ b o',s.heap.get? b=some o'->h'.get? b=some o') ->
   h'.get? s.heap.objs.size=some { cls:=.type "list",dict:=none,data:=.seq its.toArray c',slots:=#[] }->EP X pins σ Q (.ref s.heap.objs.size) { s with heap:=h' }:=fun its r' hz h' c' kp e=>
  ⟨.ref s.heap.objs.size,_,I.laid (t':=s.toks) kp (aMg _) (show cN X.prog X.w _ h' _ (.lst ys) from ⟨hz,its,c',r',e⟩),rfl,q _ (I.hok.fresh (aMg _))⟩
 rcases hq with hq | hq
 ·obtain⟨its,r',pl,hz⟩:=I.list hq
  have hlen:=r'.length;obtain⟨o,ho,hc,n,hd⟩:=pl.isList;exact call_list_seq p (.inl rfl) ho hc hd (fun h' c' kp e=>fin its r' hz h' c' kp e) (by simp only[aKf]<;>lia)
 ·obtain⟨its,r',pl,hz⟩:=I.tuple hq
  have hlen:=r'.length;obtain⟨o,ho,hc,n,hd⟩:=pl;exact call_list_seq p (.inr rfl) ho hc hd (fun h' c' kp e=>fin its r' hz h' c' kp e) (by simp only[aKf]<;>lia)
def tyV (K : PySem.W.Frag) (T : String) (x : V) (H : Hp) : Prop := match x with
 | .str _ => T = "str"
 | .int _ => T = "int"
 | .ref p => (T = "list" /\ ∃ xs, SqL K H p xs) \/ (T = "tuple" /\ ∃ o, K.lookup p = some o /\ o.cls = .type "tuple" /\ o.dict = none) \/
   (T = "dict" /\ ((∃ kvs, H p = some (.dK kvs)) \/ ∃ kvs, H p = some (.dT kvs))) \/ (T = "set" /\ ∃ S n, H p = some (.set S n))
 | _ => False
theorem MY {pins:List (Addr × Obj)}{σ:St}{H:Hp}{s:Shared}{T:String}{x:V}{v:Value}(I:Inv X pins σ H s) (r:aV x v) (ty:tyV X.K T x H):
  s.TypeIs v T/\∀ a,v=.ref a->∃ ob,s.heap.get? a=some ob/\ob.dict=none:=by
 cases x with
 | str z=>
  obtain⟨t,rfl⟩:=r;cases (show T = "str" from ty);exact⟨typeIs_str s z t,fun _ e=>nomatch e⟩
 | int i=>
  obtain⟨t,rfl⟩:=r;cases (show T = "int" from ty);exact⟨typeIs_int s i t,fun _ e=>nomatch e⟩
 | ref p=>
  cases r;rcases ty with ⟨rfl,xs,hq⟩ | ⟨rfl,o,hk,hc,hd⟩ | ⟨rfl,hk⟩ | ⟨rfl,S,n,hk⟩
  ·obtain⟨its,_,pl,_⟩:=I.list hq
   refine⟨pl.isList.typeIs,fun a e=>?_⟩;cases e;obtain⟨o,n,e,c,hd,_⟩:=pl;exact⟨o,e,hd⟩
  ·refine⟨⟨o,I.kIn p o hk,hc⟩,fun a e=>?_⟩
   cases e;exact⟨o,I.kIn _ o hk,hd⟩
  ·have z:∃ o,s.heap.get? p=some o/\o.ExactDict:=by
    rcases hk with ⟨kvs,hk⟩ | ⟨kvs,hk⟩
    ·obtain⟨_,_,_,_,o,_,_,e,ex,_⟩:=I.hok p _ hk
     exact⟨o,e,ex⟩
    ·obtain⟨_,_,_,_,o,_,_,e,ex,_⟩:=I.hok p _ hk
     exact⟨o,e,ex⟩
   obtain⟨o,e,ex⟩:=z;refine⟨⟨o,e,ex.1⟩,fun a e2=>?_⟩;cases e2;exact⟨o,e,ex.2.1⟩
  ·obtain⟨o,_,_,_,e,ex,_⟩:=I.hok p _ hk
   refine⟨⟨o,e,ex.1⟩,fun a e2=>?_⟩;cases e2;exact⟨o,e,ex.2.1⟩
 | _=>exact False.elim ty
def aFv (K:PySem.W.Frag) (T:String) (r:V->List V->Hp->VK->Prop) (to:TE):TE:=fun σ H Q=>to σ H fun x H1=>tyV K T x H1/\r x [] H1 Q
def tBM (K:PySem.W.Frag) (T:String) (r:V->List V->Hp->VK->Prop) (to:TE) (t:TA):TE:=fun σ H Q=>to σ H fun x H1=>tyV K T x H1/\t σ H1 fun xs H2=>r x xs H2 Q
variable {o e:Expr}{es:List Expr}{to:TE}{t:TA}{name:Str}{apos cpos:Pos}{T id:String}{r:V->List V->Hp->VK->Prop}
theorem aCu (pa:PlainAttrs T) (slot:Slot T name id) (hty:typeOf (.builtin id)=pure (.type "method_descriptor")) (hm:MtR X id r) (ho:PE X o to)
  (hbase:attributeBase o name X.env (eval o X.env)=eval o X.env:=by rfl) (hline:(apos.endLine == cpos.line)=true:=by rfl):PE X (.Call (.Attribute o name apos) [] [] cpos) (aFv X.K T r to):=by
 intro pins s σ H Q I h;refine wpAny_Call_method0_late hbase hline (thn (ho pins s σ H _ I h) fun v s1 ⟨x,H1,I1,r1,ty,q1⟩=>?_);obtain⟨h1,h2⟩:=MY I1 r1 ty;exact⟨T,id,pa,slot,hty,h1,h2,Calls.callWith_builtin rfl (PySem.evalArgs_none (hm pins s1 σ H1 x [] v [] Q I1 r1 .nil q1))⟩
theorem CB (pa:PlainAttrs T) (slot:Slot T name id) (hty:typeOf (.builtin id)=pure (.type "method_descriptor")) (hm:MtR X id r) (ho:PE X o to) (ha:PA X (e::es) t)
  (hbase:attributeBase o name X.env (eval o X.env)=eval o X.env:=by rfl)
  (hfew:((backTo cpos (starEach (e::es) X.env)).all (fun x=>!x.1)&&(backToKw cpos (keywordEach [] X.env)).all (fun x=>x.1.isSome)
   && decide ((e::es).length+([]:List Keyword).length+(if ([]:List Keyword).isEmpty then 0 else 1)<30))=true:=by rfl)
  (hline:(apos.endLine == cpos.line)=true:=by rfl) (hs:starEach (e::es) X.env=(false,eval e X.env)::starEach es X.env:=by rfl) (hplain:(backTo cpos (starEach es X.env)).any (·.1)=false:=by rfl):
  PE X (.Call (.Attribute o name apos) (e::es) [] cpos) (tBM X.K T r to t):=by
 intro pins s σ H Q I h;refine wpAny_Call_method_late hbase hfew hline rfl (thn (ho pins s σ H _ I h) fun v s1 ⟨x,H1,I1,r1,ty,q1⟩=>?_);obtain⟨h1,h2⟩:=MY I1 r1 ty;refine⟨T,id,pa,slot,hty,h1,h2,?_⟩;have hA:=ha cpos pins s1 σ H1 _ I1 q1;rw[hs] at hA ⊢;refine Calls.callWith_builtin (by show (false||(backTo cpos (starEach es X.env)).any (·.1))=false;rw[hplain]<;>rfl) (Calls.evalArgs_plain ?_)
 exact thn hA fun us s2 ⟨vs,H2,I2,r2,q2⟩=>hm pins s2 σ H2 x vs v us Q I2 r1 r2 q2
end
def MtM (X:Cx) (id:String) (r:V->List V->Hp->VK->Prop):Prop:=
 ∀ (pins:List (Addr × Obj)) (s:Shared) (σ:St) (H:Hp) (x:V) (xs:List V) (v:Value) (us:List Value) (Q:VK),Inv X pins σ H s->aV x v->aK xs us->r x xs H Q ->
  wpAny (model X.prog X.w) X.A (call (.builtin id) (v::us)) (EP X pins σ Q) X.xe s
theorem aK.one:∀ {x:V}{us:List Value},aK [x] us->∃ u,us=[u]/\aV x u
 | _,_,.cons r .nil=>⟨_,rfl,r⟩
theorem aK.two:∀ {x y:V}{us:List Value},aK [x,y] us->∃ u v,us=[u,v]/\aV x u/\aV y v
 | _,_,_,.cons r (.cons q .nil)=>⟨_,_,rfl,r,q⟩
theorem aK.zero:∀ {us:List Value},aK [] us->us=[]
 | _,.nil=>rfl
theorem aK.reverse {xs:List V}{us:List Value}(h:aK xs us):aK xs.reverse us.reverse:=by
 induction h with
 | nil=>exact .nil
 | cons r t ih=>rw[List.reverse_cons,List.reverse_cons];exact aK.append ih (.cons r .nil)
theorem aK.rep {xs:List V}{us:List Value}(h:aK xs us):∀ k:Nat,aK (List.replicate k xs).flatten (List.replicate k us).flatten
 | 0=>.nil
 | k+1=>by
  rw[aMe,aMe,List.flatten_cons,List.flatten_cons];exact aK.append h (aK.rep h k)
theorem FM (its:List Value):∀ (k:Nat) (acc:List Value),
  List.foldl (fun x1 x2=>x1++x2) acc.toArray (List.replicate k its.toArray)=(acc++(List.replicate k its).flatten).toArray
 | 0,acc=>by simp
 | k+1,acc=>by
  have e:acc.toArray++its.toArray=(acc++its).toArray:=by simp
  have e2:(acc++its)++(List.replicate k its).flatten=acc++(List.replicate (k+1) its).flatten:=by
   rw[aMe,List.flatten_cons,List.append_assoc]
  rw[<- e2,<- FM its k (acc++its),<- e,aMe,aLc]
section
variable {X:Cx}{pins:List (Addr × Obj)}{σ:St}{H:Hp}{s:Shared}{l b:Addr}{xs ys zs:List V}
theorem Inv.lset {its its':List Value}{n:Nat}{f:Array Value->Array Value}{t':Nat}(I:Inv X pins σ H s) (hH:H l=some (.lst xs))
  (e:s.heap.get? l=some { cls:=.type "list",data:=.seq its.toArray n }) (hf:f its.toArray=its'.toArray) (hv:aK ys its') (hz:ys.length<=sizeLine):
  Inv X pins σ (upd H l (.lst ys)) { s with heap:=s.heap.update l (Obj.mapSeq f),toks:=t' }:=by
 have q:=PySem.IsL.update e f;rw[hf] at q;refine I.write (x:=l) (e:=l) (by rw[hH];exact trivial) (.inl rfl) (fun b' u hb hu=>(Heap.get?_update_other s.heap (Obj.mapSeq f) (Ne.symm hb)).trans hu) ⟨_,q⟩ ?_;exact⟨hz,its',_,hv,q⟩
theorem Inv.lnew {its:List Value}{t':Nat}(I:Inv X pins σ H s) (hv:aK ys its) (hz:ys.length<=sizeLine):
  Inv X pins σ (upd H s.heap.objs.size (.lst ys)) { s with heap:=s.heap.push { cls:=.type "list",data:=.seq its.toArray },toks:=t' }:=
 I.laid (fun _ _ q=>aKh _ q) (aMg _) ⟨hz,its,0,hv,aKu _ rfl⟩
theorem Inv.fresh (I:Inv X pins σ H s):H s.heap.objs.size=none:=I.hok.fresh (aMg _)
theorem Inv.lstM (I:Inv X pins σ H s) (hH:H l=some (.lst xs)):xs.length<=sizeLine/\∃ (its:List Value) (n:Nat),aK xs its/\xs.length=its.length/\s.heap.get? l=some { cls:=.type "list",data:=.seq its.toArray n }:=by
 obtain⟨z,its,n,r,e⟩:=I.hok l _ hH;exact⟨z,its,n,r,r.length,e⟩
theorem aAk {n:Nat}(h:n<=sizeLine):Builtin.List.listTooLong n=false:=by
 unfold Builtin.List.listTooLong;exact decide_eq_false (by lia)
end
section
variable {X:Cx}
def aE6:V->List V->Hp->VK->Prop:=fun x vs H Q=>∃ l xs y,x=.ref l/\vs=[y]/\H l=some (.lst xs)/\xs.length<sizeLine/\Q .non (upd H l (.lst (xs++[y])))
theorem IW:MtM X "list.append" aE6:=by
 intro pins s σ H x vs v us Q I rx rv h;obtain⟨l,xs,y,rfl,rfl,hH,hz,q⟩:=h;cases rx;obtain⟨u,rfl,ru⟩:=rv.one;obtain⟨z,its,n,r,hl,e⟩:=I.lstM hH;refine call_meets F.slot_list_append ⟨_,e,rfl⟩ F.entry_list_append (F.args_list_append_2 _ _) (PySem.list_append l its.toArray n u (by rw[aKf];lia)) ⟨e,?_⟩;refine⟨.non,_,I.lset (its':=its++[u]) hH e (by simp) (r.append (.cons ru .nil)) ?_,rfl,q⟩;rw[aLl,List.length_singleton];lia
def aEf:R2:=fun x y H Q=>∃ l k xs,x=.ref l/\y=.int k/\H l=some (.lst xs) /\ -(2^63)<=k/\k<2^63/\xs.length*k.toNat<=sizeLine /\
 ∀ p,H p=none->Q (.ref p) (upd H p (.lst (List.replicate k.toNat xs).flatten))
theorem ZN {α:Type}(xs:List α) (k:Nat):(List.replicate k xs).flatten.length=k*xs.length:=by
 induction k with
 | zero=>simp
 | succ k ih=>rw[aMe,List.flatten_cons,aLl,ih,Nat.succ_mul,Nat.add_comm]
theorem aCj:OpR X (binaryOp .Mult) aEf:=by
 intro pins s σ H x y v u Q I rx ry h;obtain⟨l,k,xs,rfl,rfl,hH,h1,h2,hz,q⟩:=h;cases rx;obtain⟨t,rfl⟩:=ry;obtain⟨z,its,n,r,hl,e⟩:=I.lstM hH;have hlen:its.toArray.size*k.toNat<=sizeLine:=by rw[aKf,<- hl];exact hz
 have hcap:¬ its.toArray.size*k.toNat > (2^63-1) / 8:=by
  have:(sizeLine:Nat)<=(2^63-1) / 8:=by decide
  lia
 have hfit:¬ (!Builtin.List.listFitsIndex k)=true:=by
  rw[fitsIndex_both h1 h2];exact aKr
 have hlong:¬ Builtin.List.listTooLong (its.toArray.size*k.toNat)=true:=by
  rw[aAk hlen];exact aKr
 have hnew:List.foldl (fun x1 x2=>x1++x2) #[] (List.replicate (if its.toArray.isEmpty=true then 0 else k.toNat) its.toArray)=(List.replicate k.toNat its).flatten.toArray:=by
  have f0:∀ m:Nat,List.foldl (fun x1 x2=>x1++x2) #[] (List.replicate m its.toArray)=(List.replicate m its).flatten.toArray:=fun m=>by
   have:=FM its m [];rw[List.nil_append] at this;exact this
  rw[f0];cases its with
  | nil=>simp
  | cons a r'=>rw[if_neg (by simp)]
 refine wpAny_binaryOp_repeat_ref (T := "list") (U := "int") (by decide) ⟨_,e,rfl⟩ (fun s'=>typeIs_int s' k t) noFill_list_mul F.fills_int_mul F.slot_int_rmul repeat_list F.slot_int_index.lookup
  (call_meets F.slot_int_rmul (typeIs_int s k t) F.entry_int_rmul (F.args_int_rmul_2 _ _) (int___rmul___int_list k t l its.toArray n)
   ⟨e,rfl,⟨_,e,rfl⟩,call_meets F.slot_list_mul ⟨_,e,rfl⟩ F.entry_list_mul (F.args_list_mul_2 _ _) (AutoListH.list___mul___list_int_3 l its.toArray n k t hfit hcap hlong) ⟨e,?_⟩⟩)
 rw[hnew];exact⟨.ref _,_,I.lnew (t':=s.toks) (r.rep k.toNat) (by rw[ZN,Nat.mul_comm];exact hz),rfl,q _ I.fresh⟩
end
section
variable {prog:Program}{w:World}{A:Around}{E:Value->Shared->Prop}{s:Shared}
set_option maxRecDepth 100000 in
end
section
variable {X:Cx}
end
end L2
namespace Att
open PySem PySem.W PySem.Calls PyProof.Rows
theorem YC {P:Params}{h:Heap}:∀ (ns:List Int) (vs:List Value),WellAll P h vs (ns.map WData.int)->IntsAre vs ns:=by
 intro ns
 induction ns with
 | nil=>
  intro vs w;rw[aLx] at w;cases w;exact .nil
 | cons n ns ih=>
  intro vs w;rw[aLv] at w;cases w with
  | cons a b=>
   cases a;exact .cons _ _ (ih _ b)
theorem aFg {l:OpenLaw}{n:Nat}(hn:l.most=some n) {P:Params}{h:Heap}{args:List WData}{vals:List Value}
  (hpre:l.row.toRowW.claim.pre args=true) (hwl:WellAll P h vals args):
  ∃ a vs ns,vals=[Value.ref a]/\args=[WData.list (ns.map WData.int)]/\h.get? a=some { cls:=.type "list",data:=.seq vs.toArray }/\IntsAre vs ns/\ns.length<=n:=by
 have hsh:WShape.hasAll [] args [.list .int]=true:=(pre_splitW hpre).1;have hc:l.pre.holds [] { args:=args }=true:=(pre_splitW hpre).2;obtain⟨d,r,rfl,h1,h2⟩:=hasAllW_cons hsh;obtain rfl:=hasAllW_nil h2;obtain⟨xs,rfl,h3⟩:=hasW_list h1;obtain⟨ns,rfl⟩:=items_int h3;have hlen:ns.length<=n:=by
  unfold OpenLaw.pre at hc;have h4:(WTm.not (.lt (.lit (.int (n:Int))) (.len (.arg 0)))).holds [] { args:=[.list (ns.map .int)] }=true:=by
   have h4:=(holds_andW hc).1;rw[hn] at h4;exact h4
  have h5:=condW_of h4 (w_not (w_lt w_lit (w_len_list (w_arg rfl))));rw[aLo] at h5;refine Nat.le_of_not_lt fun q=>?_;have q':(n:Int)<((ns.length:Nat):Int):=by lia
  first
   | (rw[decide_eq_true q'] at h5;exact absurd h5 (by decide))
   | (simp at h5;lia)
 cases hwl with
 | cons w1 w2=>
  cases w2;cases w1 with
  | list ho hall=>exact⟨_,_,ns,rfl,rfl,ho,YC ns _ hall,hlen⟩
theorem aDi (l:OpenLaw) (args:List WData):l.row.toRowW.claim.post args (.bool true) args=true:=
 postW_of (r:=l.row.toRowW) (X:=(true == true))
  (show WShape.has [] (.bool true) .bool=true by first | rfl | decide | simp[WShape.has,WShape.arms,WShape.armsAll])
  (show (WTm.eq .res (.lit (.bool true))).value [] { args:=args,res:=some (.bool true),after:=args }=some (.bool (true == true)) from w_eq_bool (w_res rfl) w_lit) rfl
theorem attach_call {l:OpenLaw}{n:Nat}{q:Program}{loose:List Str}{XP:(Str->Option Value)->Heap->Prop}{YP:World->Heap->Prop}{d:DefRec}
  (hn:l.most=some n) (hdf:d.params.defaults=[])
  (call:∀ (w:World) (s₀ s₁:Shared) (mg mb:Str->Option Value) (fa:Addr) (o:Obj) (pm cd doc:Value) (a:Addr) (vs:List Value) (ns:List Int),
   Ground q loose [] XP w s₀ mg mb s₁.heap->YP w s₁.heap ->
   s₁.heap.get? fa=some o->o.data=.func (docDef d.name d.params d.body d.scope pm cd doc)->s₁.heap.CodeRec cd d.name->mg d.name=some (.ref fa) ->
   s₁.heap.get? a=some { cls:=.type "list",data:=.seq vs.toArray }->IntsAre vs ns->ns.length<=n->s₁.gens=#[] ->
   codeAny (model l.prog w) callerA (.call (.ref fa) ⟨[.ref a],[]⟩) (fun r s'=>r=.ok (.ret (.bool true))/\OldK s₁.heap s'.heap/\s'.os=s₁.os/\AllBare s'.gens) s₁):
  WalkO q loose XP YP l.row.toRowW d [] (fun f vs=>PySem.call f vs):=by
 intro w s₀ s₁ mg mb G Y fa o pm cd doc dV kV ho hd hcd hD hmg hg args vals as hpre hlay hrd hwl hlo;obtain rfl:dV=.none:=Dflts.none hD hdf;obtain rfl:kV=.none:=Dflts.noKw hD;obtain⟨a,vs,ns,rfl,rfl,hobj,hints,hlen⟩:=aFg hn hpre hwl;refine enter_call (codeAny_mono (call w s₀ s₁ mg mb fa o pm cd doc a vs ns G Y ho (fd_plain hd) hcd hmg hobj hints hlen hg) fun r s' hq=>?_);obtain⟨rfl,h2,h3,h4⟩:=hq;exact⟨.inl ⟨.bool true,.bool true,[],rfl,fun _=>rfl,.bool true,aDi l _,fun _=>⟨List.Pairwise.nil,fun _ hm=>(nomatch hm)⟩⟩,h2,h3,h4⟩
section
variable {prog:Program}{w:World}{A:Around}{E:Value->Shared->Prop}{s:Shared}{K:Frag}
end
end Att
namespace L2
open PySem PySem.Spec PyProof.Rows
theorem vU:∀ {vs:List Value}{ns:List Int},IntsAre vs ns->aK (ns.map V.int) vs
 | _,_,.nil=>.nil
 | _,_,.cons n t h=>.cons ⟨t,rfl⟩ (vU h)
def defArgs (s:Stmt):Arguments:=match s with
 | .FunctionDef _ a _ _ _ _ _ _ _ _=>a
 | _=>{ posonlyargs:=[],args:=[],vararg:=none,kwonlyargs:=[],kw_defaults:=[],kwarg:=none,defaults:=[] }
def defBody (s:Stmt):List Stmt:=match s with
 | .FunctionDef _ _ b _ _ _ _ _ _ _=>b
 | _=>[]
def defScope (s:Stmt):Scope:=match s with
 | .FunctionDef _ _ _ _ _ _ sc _ _ _=>sc
 | _=>{ kind:=.function,names:=[],isGenerator:=false,isCoroutine:=false }
abbrev CX0:CXT:=fun _ _ _ _ _ _=>False
abbrev E0:XK:=fun _ _ _=>False
theorem JF {X:Cx}:zR CX0 X E0:=fun _ _ _ _ _ _ _ h=>h.elim
structure Fun (K:PySem.W.Frag) (x qual:Str) (st:Stmt) (f:Addr) (fd:FuncData):Prop where
 ex:∃ (oc:Value) (od:Option Addr) (kV doc pm:Value) (an:Option Addr) (cdv ct:Value) (osl:Array (Option Value)),
  fd=PySem.W.fnOf x qual (defArgs st) (defBody st) (defScope st) .none kV doc pm an cdv ct/\K.lookup f=some ⟨oc,od,.func fd,osl⟩/\PySem.W.codeIn K cdv qual=true
 kp:PySem.W.keepIn K (.ref f)=true
section
variable {P:Program}{w:World}{K:PySem.W.Frag}{mg:Str->Option Value}{base:Heap}
theorem Fun.ok {x qual:Str}{st:Stmt}{f:Addr}{fd:FuncData}{N ps:List Str}{k:Nat}{sp:Sp}(F:Fun K x qual st f fd) (S:FnScope N ps (defScope st)) (len:∀ vs H Q E,sp vs H Q E->vs.length=ps.length)
  (hbody:∀ (cdv:Value) (A:Around) (outer:List Env) (s:Shared) (H:Hp) (vs:List V) (Q:VK) (E:XK),Room k (A.deeper (envOfC qual (defScope st) s.heap.objs.size f cdv))->sp vs H Q E ->
   ∃ t,PSs (aQ CX0 P w K mg base N qual (defScope st) f cdv A outer s H E).nox (defBody st) t/\t { nx:=fun _ H'=>Q .non H',rt:=Q } (start N vs) H):FnOk P w K mg base CX0 (k+1) f fd ps sp:=by
 obtain⟨oc,od,kV,doc,pm,an,cdv,ct,osl,rfl,lk,hcd⟩:=F.ex;refine AS lk hcd S len fun A outer s H vs Q E hr hsp=>?_;obtain⟨t,h,q⟩:=hbody cdv A outer s H vs Q E hr hsp;exact⟨t,h.nox,q⟩
theorem Fun.binds {x qual:Str}{st:Stmt}{f:Addr}{fd:FuncData}{ps:List Str}(F:Fun K x qual st f fd)
  (h:∀ (kV doc pm:Value) (an:Option Addr) (cdv ct:Value) (us:List Value),us.length=ps.length->bindArgs (PySem.W.fnOf x qual (defArgs st) (defBody st) (defScope st) .none kV doc pm an cdv ct) ⟨us,[]⟩=pure (ps.zip us)):fE K fd ps []:=by
 obtain⟨oc,od,kV,doc,pm,an,cdv,ct,osl,rfl,lk,hcd⟩:=F.ex;exact .all (h kV doc pm an cdv ct)
theorem bE {x qual:Str}{st:Stmt}{f:Addr}{oc:Value}{od an:Option Addr}{osl:Array (Option Value)}{kV doc pm cdv ct:Value}(l:K.lookup f=some ⟨oc,od,.func (PySem.W.fnOf x qual (defArgs st) (defBody st) (defScope st) .none kV doc pm an cdv ct),osl⟩)
  (c:PySem.W.codeIn K cdv qual=true) (k:PySem.W.keepIn K (.ref f)=true):Fun K x qual st f (PySem.W.fnOf x qual (defArgs st) (defBody st) (defScope st) .none kV doc pm an cdv ct):=⟨⟨oc,od,kV,doc,pm,an,cdv,ct,osl,rfl,l,c⟩,k⟩
end
section
variable {X:Cx}
theorem pv (i:Nat) {x:Str}{pos:Pos}(hN:X.N[i]?=some x:=by rfl) (hv:Vis X.env.scope x:=by first | exact Or.inl rfl | exact Or.inr (Or.inl rfl) | exact Or.inr (Or.inr rfl)) (hd:(x == ("__debug__" : Str))=false:=by decide)
  (hcd:(x == ("__classdict__" : Str))=false:=by decide):PE X (.Name x pos) (MJ i):=aD5 hN hv hd hcd
end
theorem jM {A B:Prop}(h:B):if false=true then A else B:=by
 rw[if_neg aKr];exact h
theorem jN {A B:Prop}(h:A):if true=true then A else B:=by
 rw[if_pos rfl];exact h
def aN (H H':Hp):Prop:=∀ b o,H b=some o->H' b=some o
theorem aN.refl (H:Hp):aN H H:=fun _ _ h=>h
theorem aN.trans {H H1 H2:Hp}(a:aN H H1) (b:aN H1 H2):aN H H2:=fun c o h=>b c o (a c o h)
theorem aN.free {H H':Hp}(e:aN H H') {l:Addr}(h:H' l=Option.none):H l=Option.none:=by
 cases q:H l with
 | none=>rfl
 | some o=>
  rw[e l o q] at h;cases h
end L2
set_option maxHeartbeats 4000000
namespace L2
open PySem PySem.Spec PyProof.Rows
def qB (a:Addr) (cls:Value):HO:=.ext fun h=>∃ oe vs,h.get? a=some oe/\oe.cls=cls/\oe.data=.fields vs
end L2
namespace G
open PySem PySem.Spec PyProof.Rows L2
abbrev St:=L2.St
inductive T where
 | non | bl (b : Bool) | int (i : Int) | str (x : Str) | lst (xs : List T) | tup (xs : List T)
 /-- an exception, by its class's name -/
 | exc (nm : Str)
abbrev Rho:=List (Option T)
def KL (K:PySem.W.Frag) (a:Addr) (xs:List V):Prop:=
 ∃ (o:Obj) (its:Array Value) (n:Nat),K.lookup a=some o/\o.cls=.type "list" /\ o.dict=none/\o.data=.seq its n/\its.size<=sizeLine/\aK xs its.toList
def KT (K:PySem.W.Frag) (a:Addr) (xs:List V):Prop:=
 ∃ (o:Obj) (its:Array Value) (n:Nat),K.lookup a=some o/\o.cls=.type "tuple" /\ o.data=.seq its n/\its.size<=sizeLine/\aK xs its.toList
def fF (K:PySem.W.Frag) (nm:Str) (C:Addr):Prop:=
 PySem.W.nsIn K mainGlobals nm=some (some (.ref C))/\(∀ a:Addr,PySem.W.KitX K (.ref a) (.ref C) (fun h=>∃ oe,h.get? a=some oe/\oe.cls=.ref C)) /\
 ∀ c∈(["int","bool","list","tuple","str"]:List String),PySem.W.kitOne K (.ref C) (.type c)=some false
mutual
def Rep (K:PySem.W.Frag) (H:Hp) (A:Addr->Prop):T->V->Prop
 | .non,v=>v=.non
 | .bl b,v=>v=.bl b
 | .int i,v=>v=.int i
 | .str x,v=>v=.str x
 | .lst ts,v=>∃ a xs,v=.ref a/\((A a/\Rd H a (.lst xs))\/KL K a xs)/\RepL K H A ts xs
 | .tup ts,v=>∃ a xs,v=.ref a/\(Rd H a (.tup xs)\/KT K a xs)/\RepL K H A ts xs
 | .exc nm,v=>∃ (a C:Addr),v=.ref a/\fF K nm C/\Rd H a (qB a (.ref C))
def RepL (K:PySem.W.Frag) (H:Hp) (A:Addr->Prop):List T->List V->Prop
 | [],xs=>xs=[]
 | t::ts,xs=>∃ x r,xs=x::r/\Rep K H A t x/\RepL K H A ts r
end
theorem fA {H H':Hp}{a:Addr}{u:HO}(k:∀ o,H a=some o->H' a=some o) (h:Rd H a u):Rd H' a u:=by
 rcases h with h | ⟨o,h⟩
 ·exact .inl (k _ h)
 ·exact .inr ⟨o,k _ h⟩
abbrev Fix:={ u:HO // ∀ ys,u≠.lst ys }
theorem gR {H:Hp}{a b:Addr}{xs ys:List V}{u:Fix}(ha:H a=some (.lst xs)) (h:Rd H b u.1):Rd (upd H a (.lst ys)) b u.1:=
 fA (fun o q=>by
  have:b≠a:=fun z=>by
   subst z;rcases h with h | ⟨o',h⟩<;>rw[ha] at h
   ·exact u.2 xs (aK6 h).symm
   ·cases h
  rw[aS this];exact q) h
theorem aEn {H:Hp}{a:Addr}{u:HO}(h:Rd H a u):H a≠none:=by
 rcases h with h | ⟨o,h⟩<;>rw[h]<;>simp
section
variable {K:PySem.W.Frag}{H H':Hp}{A A':Addr->Prop}
mutual
theorem Rep.keep (kt:∀ b (u:Fix),Rd H b u.1->Rd H' b u.1) (k:∀ b o,A b->H b=some o->H' b=some o) (hA:∀ b,A b->H b≠none->A' b):∀ (t:T) {v:V},Rep K H A t v->Rep K H' A' t v
 | .non,_,h=>h
 | .bl _,_,h=>h
 | .int _,_,h=>h
 | .str _,_,h=>h
 | .lst ts,_,h=>by
  obtain⟨a,xs,e,c,r⟩:=h;refine⟨a,xs,e,?_,RepL.keep kt k hA ts r⟩;rcases c with ⟨c1,c2⟩ | c
  ·exact .inl ⟨hA a c1 (aEn c2),fA (fun o e=>k a o c1 e) c2⟩
  ·exact .inr c
 | .tup ts,_,h=>by
  obtain⟨a,xs,e,c,r⟩:=h;refine⟨a,xs,e,?_,RepL.keep kt k hA ts r⟩;rcases c with c | c
  ·exact .inl (kt a ⟨.tup xs,fun _ z=>by cases z⟩ c)
  ·exact .inr c
 | .exc _,_,h=>by
  obtain⟨a,C,e,c,r⟩:=h;exact⟨a,C,e,c,kt a ⟨qB a (.ref C),fun _ z=>by cases z⟩ r⟩
theorem RepL.keep (kt:∀ b (u:Fix),Rd H b u.1->Rd H' b u.1) (k:∀ b o,A b->H b=some o->H' b=some o) (hA:∀ b,A b->H b≠none->A' b):∀ (ts:List T) {xs:List V},RepL K H A ts xs->RepL K H' A' ts xs
 | [],_,h=>h
 | t::ts,_,h=>by
  obtain⟨x,r,e,h1,h2⟩:=h;exact⟨x,r,e,Rep.keep kt k hA t h1,RepL.keep kt k hA ts h2⟩
end
theorem Rep.grow {t:T}{v:V}(s:aN H H') (h:Rep K H A t v):Rep K H' A t v:=Rep.keep (fun b _ e=>fA (fun o q=>s b o q) e) (fun b o _ e=>s b o e) (fun _ x _=>x) t h
theorem RepL.grow {ts:List T}{xs:List V}(s:aN H H') (h:RepL K H A ts xs):RepL K H' A ts xs:=RepL.keep (fun b _ e=>fA (fun o q=>s b o q) e) (fun b o _ e=>s b o e) (fun _ x _=>x) ts h
theorem Rep.weak {t:T}{v:V}(f:∀ b,A b->A' b) (h:Rep K H A t v):Rep K H A' t v:=Rep.keep (fun _ _ e=>e) (fun _ _ _ e=>e) (fun b x _=>f b x) t h
theorem RepL.weak {ts:List T}{xs:List V}(f:∀ b,A b->A' b) (h:RepL K H A ts xs):RepL K H A' ts xs:=RepL.keep (fun _ _ e=>e) (fun _ _ _ e=>e) (fun b x _=>f b x) ts h
theorem RepL.avoid {ts:List T}{xs:List V}{a:Addr}(n:H a=none) (h:RepL K H A ts xs):RepL K H (fun b=>A b/\b≠a) ts xs:=
 RepL.keep (fun _ _ e=>e) (fun _ _ _ e=>e) (fun b x y=>⟨x,fun z=>y (z ▸ n)⟩) ts h
theorem RepL.length:∀ {ts:List T}{xs:List V},RepL K H A ts xs->ts.length=xs.length
 | [],_,h=>by cases (show _=[] from h);rfl
 | _::ts,_,h=>by
  obtain⟨x,r,e,_,h2⟩:=h;subst e;simp[RepL.length h2]
theorem RepL.get:∀ {ts:List T}{xs:List V}{i:Nat}{t:T},RepL K H A ts xs->ts[i]?=some t->∃ x,xs[i]?=some x/\Rep K H A t x
 | [],_,_,_,_,e=>by simp at e
 | _::ts,_,0,_,h,e=>by
  obtain⟨x,r,e1,h1,_⟩:=h;subst e1;simp at e;subst e;exact⟨x,rfl,h1⟩
 | _::ts,_,i+1,_,h,e=>by
  obtain⟨x,r,e1,_,h2⟩:=h;subst e1;obtain⟨y,q,h3⟩:=RepL.get (i:=i) h2 (by simpa using e);exact⟨y,by simpa using q,h3⟩
theorem RepL.app:∀ {ts us:List T}{xs ys:List V},RepL K H A ts xs->RepL K H A us ys->RepL K H A (ts++us) (xs++ys)
 | [],_,_,_,h,q=>by cases (show _=[] from h);exact q
 | _::ts,_,_,_,h,q=>by
  obtain⟨x,r,e,h1,h2⟩:=h;subst e;exact⟨x,r++_,rfl,h1,RepL.app h2 q⟩
theorem RepL.one {t:T}{x:V}(h:Rep K H A t x):RepL K H A [t] [x]:=⟨x,[],rfl,h,rfl⟩
theorem RepL.take:∀ {ts:List T}{xs:List V}(n:Nat),RepL K H A ts xs->RepL K H A (ts.take n) (xs.take n)
 | _,_,0,_=>by simp[RepL]
 | [],_,_+1,h=>by cases (show _=[] from h);simp[RepL]
 | _::ts,_,n+1,h=>by
  obtain⟨x,r,e,h1,h2⟩:=h;subst e;exact⟨x,r.take n,rfl,h1,RepL.take n h2⟩
theorem RepL.drop:∀ {ts:List T}{xs:List V}(n:Nat),RepL K H A ts xs->RepL K H A (ts.drop n) (xs.drop n)
 | _,_,0,h=>by simpa using h
 | [],_,_+1,h=>by cases (show _=[] from h);simp[RepL]
 | _::ts,_,n+1,h=>by
  obtain⟨x,r,e,h1,h2⟩:=h;subst e
  simpa using RepL.drop n h2
theorem RepL.set:∀ {ts:List T}{xs:List V}{t:T}{x:V}(n:Nat),Rep K H A t x->RepL K H A ts xs->RepL K H A (ts.set n t) (xs.set n x)
 | [],_,_,_,n,_,h=>by cases (show _=[] from h);simp[RepL]
 | _::ts,_,_,_,0,q,h=>by
  obtain⟨x,r,e,h1,h2⟩:=h;subst e;exact⟨_,r,rfl,q,h2⟩
 | _::ts,_,_,_,n+1,q,h=>by
  obtain⟨x,r,e,h1,h2⟩:=h;subst e;exact⟨x,_,rfl,h1,RepL.set n q h2⟩
theorem Rep.sqL {ts:List T}{v:V}(h:Rep K H A (.lst ts) v):∃ a xs,v=.ref a/\SqL K H a xs/\RepL K H A ts xs:=by
 obtain⟨a,xs,e,c,r⟩:=h;refine⟨a,xs,e,?_,r⟩;rcases c with ⟨_,c⟩ | c
 ·exact .inl c
 ·exact .inr c
theorem Rep.sqT {ts:List T}{v:V}(h:Rep K H A (.tup ts) v):∃ a xs,v=.ref a/\SqT K H a xs/\RepL K H A ts xs:=by
 obtain⟨a,xs,e,c,r⟩:=h;exact⟨a,xs,e,c,r⟩
end
def scal:T->Bool
 | .lst _=>false
 | .tup _=>false
 | .exc _=>false
 | _=>true
def tv:T->V
 | .non=>.non
 | .bl b=>.bl b
 | .int i=>.int i
 | .str x=>.str x
 | _=>.non
theorem LA {K:PySem.W.Frag}{H:Hp}{A:Addr->Prop}{t:T}{v:V}(h:scal t=true):Rep K H A t v ↔ v=tv t:=by
 cases t<;>first | exact Iff.rfl | (simp[scal] at h)
mutual
def im:T->Bool
 | .lst _=>false
 | .tup ts=>imL ts
 | _=>true
def imL:List T->Bool
 | []=>true
 | t::ts=>im t&&imL ts
end
section
variable {K:PySem.W.Frag}{H H':Hp}{A A':Addr->Prop}
mutual
theorem yH (kt:∀ b (u:Fix),Rd H b u.1->Rd H' b u.1):∀ (t:T) {v:V},im t=true->Rep K H A t v->Rep K H' A' t v
 | .non,_,_,h=>h
 | .bl _,_,_,h=>h
 | .int _,_,_,h=>h
 | .str _,_,_,h=>h
 | .lst _,_,e,_=>by simp[im] at e
 | .tup ts,_,e,h=>by
  obtain⟨a,xs,e1,c,r⟩:=h;refine⟨a,xs,e1,?_,repL_imk kt ts (by simpa [im] using e) r⟩;rcases c with c | c
  ·exact .inl (kt a ⟨.tup xs,fun _ z=>by cases z⟩ c)
  ·exact .inr c
 | .exc _,_,_,h=>by
  obtain⟨a,C,e,c,r⟩:=h;exact⟨a,C,e,c,kt a ⟨qB a (.ref C),fun _ z=>by cases z⟩ r⟩
theorem repL_imk (kt:∀ b (u:Fix),Rd H b u.1->Rd H' b u.1):∀ (ts:List T) {xs:List V},imL ts=true->RepL K H A ts xs->RepL K H' A' ts xs
 | [],_,_,h=>h
 | t::ts,_,e,h=>by
  obtain⟨x,r,e1,h1,h2⟩:=h;have e':im t=true/\imL ts=true:=by simpa [imL] using e
  exact⟨x,r,e1,yH kt t e'.1 h1,repL_imk kt ts e'.2 h2⟩
end
theorem qS (t:T) {v:V}(h:im t=true) (r:Rep K H A t v):Rep K H A' t v:=yH (fun _ _ e=>e) t h r
end
def bR (ts:List T):Bool:=ts.all im
theorem yG {K:PySem.W.Frag}{H:Hp}{A A':Addr->Prop}:∀ {ts:List T}{xs:List V},bR ts=true->RepL K H A ts xs->RepL K H A' ts xs
 | [],_,_,h=>h
 | t::ts,_,f,h=>by
  obtain⟨x,r,e,h1,h2⟩:=h;have f':im t=true/\bR ts=true:=by simpa [bR] using f
  exact⟨x,r,e,qS t f'.1 h1,yG f'.2 h2⟩
def Ad (B H:Hp) (M:List Addr) (l:Nat) (a:Addr):Prop:=(1<=l->a ∉ M)/\(2<=l->B a=none)/\(3<=l->H a=none)
theorem Ad.le {B H:Hp}{M:List Addr}{l l':Nat}{a:Addr}(h:Ad B H M l a) (k:l'<=l):Ad B H M l' a:=
 ⟨fun z=>h.1 (by lia),fun z=>h.2.1 (by lia),fun z=>h.2.2 (by lia)⟩
theorem Ad.zero {B H:Hp}{M:List Addr}{a:Addr}:Ad B H M 0 a:=⟨fun z=>by lia,fun z=>by lia,fun z=>by lia⟩
def aL (K:PySem.W.Frag) (B H:Hp) (M:List Addr) (H':Hp):Bool->Nat->T->V->Prop
 | true,l,.lst ts,v=>∃ a xs,v=.ref a/\H a=none/\H' a=some (.lst xs)/\RepL K H' (fun b=>Ad B H M l b/\b≠a) ts xs
 | _,l,t,v=>Rep K H' (Ad B H M l) t v
def dF:T->Nat->List T->Prop
 | .lst ts,c,us=>c=0/\us=ts
 | .tup ts,c,us=>ts[c]?=some (.lst us)
 | _,_,_=>False
def eR (K:PySem.W.Frag) (H:Hp):T->V->(Nat->Addr)->Prop
 | .lst _,v,ga=>v=.ref (ga 0)
 | .tup ts,v,ga=>∃ p vs,v=.ref p/\Rd H p (.tup vs)/\ts.length=vs.length/\∀ (c:Nat) (t:T),ts[c]?=some t->(∃ us,t=.lst us/\vs[c]?=some (.ref (ga c)))\/(im t=true/\∃ w,vs[c]?=some w/\Rep K H (fun _=>True) t w)
 | _,_,_=>False
theorem eR.keep {K:PySem.W.Frag}{H H':Hp}{t:T}{v:V}{ga:Nat->Addr}(kt:∀ b (u:Fix),Rd H b u.1->Rd H' b u.1) (h:eR K H t v ga):eR K H' t v ga:=by
 cases t with
 | tup ts=>
  obtain⟨p,vs,h1,h2,h3,h4⟩:=h;refine⟨p,vs,h1,kt p ⟨.tup _,fun _ z=>by cases z⟩ h2,h3,fun c u e=>?_⟩;rcases h4 c u e with h | ⟨hi,w,e1,r⟩
  ·exact .inl h
  ·exact .inr ⟨hi,w,e1,yH kt u hi r⟩
 | _=>exact h
theorem eR.grow {K:PySem.W.Frag}{H H':Hp}{t:T}{v:V}{ga:Nat->Addr}(s:aN H H') (h:eR K H t v ga):eR K H' t v ga:=h.keep fun b _ e=>fA (fun o q=>s b o q) e
theorem KR {K:PySem.W.Frag}{H:Hp}{A:Addr->Prop}:∀ {ts:List T}{vs:List V},ts.length=vs.length->(∀ (c:Nat) (t:T) (w:V),ts[c]?=some t->vs[c]?=some w->Rep K H A t w)->RepL K H A ts vs
 | [],[],_,_=>rfl
 | [],_::_,h,_=>by cases h
 | _::_,[],h,_=>by cases h
 | t::ts,v::vs,h,k=>⟨v,vs,rfl,k 0 t v rfl rfl,KR (by simpa using h) fun c u w e e'=>k (c+1) u w (by simpa using e) (by simpa using e')⟩
theorem eR.rep {K:PySem.W.Frag}{H:Hp}{A:Addr->Prop}{t:T}{v:V}{ga:Nat->Addr}(hA:∀ b,A b) (h:eR K H t v ga) (r:∀ c us,dF t c us->∃ xs,H (ga c)=some (.lst xs)/\RepL K H A us xs):Rep K H A t v:=by
 cases t with
 | lst ts=>
  obtain⟨xs,e,r⟩:=r 0 ts ⟨rfl,rfl⟩;exact⟨ga 0,xs,h,.inl ⟨hA _,.inl e⟩,r⟩
 | tup ts=>
  obtain⟨p,vs,h1,h2,h3,h4⟩:=h;refine⟨p,vs,h1,.inl h2,KR h3 fun c u w e e'=>?_⟩;rcases h4 c u e with ⟨us,rfl,e1⟩ | ⟨hi,w',e1,q⟩
  ·obtain⟨xs,e2,r⟩:=r c us e
   rw[e'] at e1;exact⟨ga c,xs,aK6 e1,.inl ⟨hA _,.inl e2⟩,r⟩
  ·rw[e'] at e1
   cases (aK6 e1);exact qS u hi q
 | non=>exact h.elim
 | bl _=>exact h.elim
 | int _=>exact h.elim
 | str _=>exact h.elim
 | exc _=>exact h.elim
def DX (K:PySem.W.Frag) (B:Hp) (M:List Addr) (H:Hp) (t:T) (v:V) (ga:Nat->Addr):Prop:=
 eR K H t v ga/\∀ c us,dF t c us->∃ xs,H (ga c)=some (.lst xs)/\RepL K H (Ad B H M 2) us xs/\ga c∈M
theorem sE {t:T}{c:Nat}{us:List T}(h:dF t c us):im t=false:=by
 cases t with
 | lst _=>rfl
 | tup ts=>
  show imL ts=false;have:ts[c]?=some (.lst us):=h
  clear h
  induction ts generalizing c with
  | nil=>cases this
  | cons a r ih=>
   cases c with
   | zero=>cases (aK6 (show some a=some (T.lst us) from this));simp[imL,im]
   | succ c=>simp[imL,ih (show r[c]?=some (T.lst us) from this)]
 | _=>exact h.elim
structure Sl (K:PySem.W.Frag) (B:Hp) (fl:List Nat) (Ex:List (T × V)) (σ:St) (ρ:Rho) (M:List Addr) (H:Hp):Prop where
 same:aN B H
 slot:∀ i t,ρ[i]?=some (some t)->(1<=fl.getD i 1\/im t=true)->∃ v,σ[i]?=some (some v)/\Rep K H (Ad B H M (min (fl.getD i 1) 2)) t v
 mu:∃ g:Nat->Nat->Addr,(∀ i t,ρ[i]?=some (some t)->fl.getD i 1=0->im t=false->∃ v,σ[i]?=some (some v)/\DX K B M H t v (g i)) /\
  ∀ i j c d t u us ws,(i≠j\/c≠d)->ρ[i]?=some (some t)->ρ[j]?=some (some u)->fl.getD i 1=0->fl.getD j 1=0->dF t c us->dF u d ws->g i c≠g j d
 ex:∀ p∈Ex,Rep K H (Ad B H M 1) p.1 p.2
 mB:∀ a∈M,B a=none/\H a≠none
 len:fl.length<=σ.length
section
variable {K:PySem.W.Frag}{B H H' H1:Hp}{fl:List Nat}{Ex:List (T × V)}{σ:St}{ρ:Rho}{M:List Addr}{n:Bool}{l l':Nat}{t:T}{v:V}
theorem Ad.any {a:Addr}(h:Ad B H M l a) (k:l<=2):Ad B H1 M l a:=⟨h.1,h.2.1,fun z=>by lia⟩
theorem Sl.grow (S:Sl K B fl Ex σ ρ M H) (s:aN H H'):Sl K B fl Ex σ ρ M H' where
 same:=S.same.trans s
 slot:=fun i t e k=>by
  obtain⟨v,e1,r⟩:=S.slot i t e k;exact⟨v,e1,(r.grow s).weak fun b x=>x.any (by lia)⟩
 mu:=by
  obtain⟨g,hg,ap⟩:=S.mu;refine⟨g,fun i t e k hm=>?_,ap⟩;obtain⟨v,e1,e2,e3⟩:=hg i t e k hm;refine⟨v,e1,e2.grow s,fun c us h=>?_⟩;obtain⟨xs,q1,q2,q3⟩:=e3 c us h;exact⟨xs,s _ _ q1,(q2.grow s).weak fun b x=>x.any (by lia),q3⟩
 ex:=fun p hp=>((S.ex p hp).grow s).weak fun b x=>x.any (by lia)
 mB:=fun a ha=>⟨(S.mB a ha).1,fun z=>(S.mB a ha).2 (s.free z)⟩
 len:=S.len
theorem Sl.muL (S:Sl K B fl Ex σ ρ M H) (i:Nat) (us:List T) (e:ρ[i]?=some (some (.lst us))) (k:fl.getD i 1=0):∃ a ts xs,T.lst us=.lst ts/\σ[i]?=some (some (.ref a))/\H a=some (.lst xs)/\RepL K H (Ad B H M 2) ts xs/\a∈M:=by
 obtain⟨g,hg,_⟩:=S.mu;obtain⟨v,e1,e2,e3⟩:=hg i _ e k rfl;obtain⟨xs,q1,q2,q3⟩:=e3 0 us ⟨rfl,rfl⟩;cases (show v=.ref (g i 0) from e2);exact⟨g i 0,us,xs,rfl,e1,q1,q2,q3⟩
theorem aL.rep (S:Sl K B fl Ex σ ρ M H) (h:aL K B H M H' n l t v):Rep K H' (Ad B H M l) t v:=by
 cases n with
 | false=>cases t<;>exact h
 | true=>
  cases t with
  | lst ts=>
   obtain⟨a,xs,e,h1,h2,r⟩:=h;exact⟨a,xs,e,.inl ⟨⟨fun _ z=>(S.mB a z).2 h1,fun _=>S.same.free h1,fun _=>h1⟩,.inl h2⟩,r.weak fun b x=>x.1⟩
  | non=>exact h
  | bl _=>exact h
  | int _=>exact h
  | str _=>exact h
  | tup _=>exact h
  | exc _=>exact h
theorem Ad.since {a:Addr}(s:aN H H1) (h:Ad B H1 M l a):Ad B H M l a:=⟨h.1,h.2.1,fun z=>s.free (h.2.2 z)⟩
theorem aL.scal (h:scal t=true):aL K B H M H' n l t v ↔ v=tv t:=by
 cases n<;>cases t<;>first | exact Iff.rfl | (simp[G.scal] at h)
theorem aL.laid {ts:List T}{xs:List V}{p:Addr}(s:aN H H1) (hp:H1 p=none) (r:RepL K H1 (Ad B H M l) ts xs):aL K B H M (upd H1 p (.lst xs)) true l (.lst ts) (.ref p):=by
 refine⟨p,xs,rfl,s.free hp,cU,?_⟩;exact (r.avoid hp).keep (fun b ys e=>fA (fun o q=>by rw[aS (fun z=>by rw[z,hp] at q;cases q)];exact q) e) (fun b o x e=>by rw[aS x.2];exact e) (fun b x _=>x) ts
end
theorem cL {H:Hp}{p:Addr}(h:H p=none) (o:HO):aN H (upd H p o):=fun b u q=>by rw[aS (fS q h)];exact q
def tG (K:PySem.W.Frag) (B:Hp) (fl:List Nat) (f:Rho->Option T) (n:Bool) (l:Nat):TE:=fun σ H Q=>
 ∃ Ex ρ M t,Sl K B fl Ex σ ρ M H/\f ρ=some t/\∀ v H',aN H H'->aL K B H M H' n l t v->Q v H'
def GE (X:Cx) (B:Hp) (fl:List Nat) (e:Expr) (f:Rho->Option T) (n:Bool) (l:Nat):Prop:=PE X e (tG X.K B fl f n l)
def tGT (K:PySem.W.Frag) (B:Hp) (fl:List Nat) (f:Rho->Option Bool):TT:=fun σ H Q=>
 ∃ Ex ρ M b,Sl K B fl Ex σ ρ M H/\f ρ=some b/\∀ H',aN H H'->Q b H'
def GT (X:Cx) (B:Hp) (fl:List Nat) (e:Expr) (f:Rho->Option Bool):Prop:=PT X e (tGT X.K B fl f)
def GW (X:Cx) (B:Hp) (fl:List Nat) (e:Expr) (f:Rho->Option Bool):Prop:=PW X e (tGT X.K B fl f)
def tGA (K:PySem.W.Frag) (B:Hp) (fl:List Nat) (f:Rho->Option (List T)) (l:Nat):TA:=fun σ H Q=>
 ∃ Ex ρ M ts,Sl K B fl Ex σ ρ M H/\f ρ=some ts/\∀ vs H',aN H H'->RepL K H' (Ad B H M l) ts vs->Q vs H'
def GA (X:Cx) (B:Hp) (fl:List Nat) (es:List Expr) (f:Rho->Option (List T)) (l:Nat):Prop:=PA X es (tGA X.K B fl f l)
theorem bD {X:Cx}{e:Expr}{t t':TE}(h:PE X e t) (k:∀ σ H Q,t' σ H Q->t σ H Q):PE X e t':=fun pins s σ H Q I q=>h pins s σ H Q I (k σ H Q q)
theorem CL {X:Cx}{e:Expr}{t t':TT}(h:PT X e t) (k:∀ σ H Q,t' σ H Q->t σ H Q):PT X e t':=fun pins s σ H Q I q=>h pins s σ H Q I (k σ H Q q)
theorem KG {X:Cx}{e:Expr}{t t':TT}(h:PW X e t) (k:∀ σ H Q,t' σ H Q->t σ H Q):PW X e t':=fun wh pins s σ H Q I q=>h wh pins s σ H Q I (k σ H Q q)
theorem xW {X:Cx}{es:List Expr}{t t':TA}(h:PA X es t) (k:∀ σ H Q,t' σ H Q->t σ H Q):PA X es t':=fun pos pins s σ H Q I q=>h pos pins s σ H Q I (k σ H Q q)
theorem eB {X:Cx}{st:Stmt}{t t':TS}(h:PS X st t) (k:∀ D σ H,t' D σ H->t D σ H):PS X st t':=fun pins s σ H D I q=>h pins s σ H D I (k D σ H q)
theorem JZ {X:Cx}{st:List Stmt}{t t':TS}(h:PSs X st t) (k:∀ D σ H,t' D σ H->t D σ H):PSs X st t':=fun pins s σ H D I q=>h pins s σ H D I (k D σ H q)
def aA (i:Nat):Rho->Option T:=fun ρ=>(ρ[i]?).join
def fC (t:T):Rho->Option T:=fun _=>some t
def f1 (f:Rho->Option T) (F:T->Option T):Rho->Option T:=fun ρ=>(f ρ).bind F
def f2 (f g:Rho->Option T) (F:T->T->Option T):Rho->Option T:=fun ρ=>(f ρ).bind fun x=>(g ρ).bind fun y=>F x y
def aE:Rho->Option (List T):=fun _=>some []
def aC (f:Rho->Option T) (g:Rho->Option (List T)):Rho->Option (List T):=fun ρ=>(f ρ).bind fun x=>(g ρ).bind fun y=>some (x::y)
def bF:T->Option T:=fun t=>if im t then some t else none
def mH:T->Option T
 | .lst ts=>if bR ts then some (.lst ts) else none
 | .tup _=>none
 | t=>some t
theorem bind_some {α β:Type}{o:Option α}{f:α->Option β}{y:β}(h:o.bind f=some y):∃ x,o=some x/\f x=some y:=by
 cases o with
 | none=>cases h
 | some x=>exact⟨x,rfl,h⟩
section
variable {X:Cx}{B:Hp}{fl:List Nat}{a b e:Expr}{f g:Rho->Option T}{n n':Bool}{l l':Nat}{pos:Pos}
theorem GE.sc (h:GE X B fl e f n l):GE X B fl e (f1 f bF) true 3:=by
 refine bD h ?_;rintro σ H Q ⟨Ex,ρ,M,t,S,hf,q⟩;obtain⟨x,hx,hg⟩:=bind_some hf;unfold bF at hg;split at hg
 ·rename_i hs
  have e:=aK6 hg;subst e;refine⟨Ex,ρ,M,x,S,hx,fun v H' s r=>q v H' s ?_⟩;have r':=qS (A':=Ad B H M 3) x hs (r.rep S);cases x<;>first | exact r' | (simp[im] at hs)
 ·cases hg
theorem GE.flt (h:GE X B fl e f true l):GE X B fl e (f1 f mH) true 3:=by
 refine bD h ?_;rintro σ H Q ⟨Ex,ρ,M,t,S,hf,q⟩;obtain⟨x,hx,hg⟩:=bind_some hf;refine⟨Ex,ρ,M,x,S,hx,fun v H' s r=>q v H' s ?_⟩;cases x with
 | lst ts=>
  unfold mH at hg;dsimp only at hg;split at hg
  ·rename_i hs
   cases hg;obtain⟨a,xs,e,h1,h2,r⟩:=r;exact⟨a,xs,e,h1,h2,yG hs r⟩
  ·cases hg
 | tup ts=>cases hg
 | non=>cases hg;exact r
 | bl _=>cases hg;exact r
 | int _=>cases hg;exact r
 | str _=>cases hg;exact r
 | exc _=>cases hg;exact r
theorem aB (i:Nat) {x:Str}(hN:X.N[i]?=some x:=by rfl) (hv:Vis X.env.scope x:=by first | exact Or.inl rfl | exact Or.inr (Or.inl rfl) | exact Or.inr (Or.inr rfl)) (hd:(x == ("__debug__" : Str))=false:=by decide)
  (hcd:(x == ("__classdict__" : Str))=false:=by decide):GE X B fl (.Name x pos) (aA i) false (min (fl.getD i 1) 2):=by
 refine bD (pv (X:=X) i hN hv hd hcd) ?_;rintro σ H Q ⟨Ex,ρ,M,t,S,hf,q⟩;have e:ρ[i]?=some (some t):=by
  unfold aA at hf;cases h:ρ[i]? with
  | none=>rw[h] at hf;cases hf
  | some o=>rw[h] at hf;cases (show o=some t from hf);rfl
 by_cases k:1<=fl.getD i 1\/im t=true
 ·obtain⟨v,e1,r⟩:=S.slot i t e k
  exact⟨v,e1,q v H (aN.refl H) (by cases t<;>exact r)⟩
 ·have k0:fl.getD i 1=0:=by lia
  have ki:im t=false:=by
   cases h:im t with
   | false=>rfl
   | true=>exact absurd (.inr h) k
  obtain⟨g,hg,_⟩:=S.mu;obtain⟨v,e1,e2,e3⟩:=hg i t e k0 ki;rw[k0] at q;exact⟨_,e1,q _ H (aN.refl H) (by
   have:=e2.rep (A:=Ad B H M 0) (fun _=>Ad.zero) fun c us h=>(by
    obtain⟨xs,q1,q2,_⟩:=e3 c us h;exact⟨xs,q1,q2.weak fun b _=>Ad.zero⟩)
   cases t<;>exact this)⟩
theorem ge_int {i:Int}{j:Nat}:GE X B fl (.Constant (.int i) j pos) (fC (.int i)) true 3:=
 bD aCv fun _ H _ ⟨_,_,_,_,_,hf,q⟩=>q _ H (aN.refl H) (by cases (aK6 hf);rfl)
theorem eF {i:Bool}{j:Nat}:GE X B fl (.Constant (.bool i) j pos) (fC (.bl i)) true 3:=
 bD aCt fun _ H _ ⟨_,_,_,_,_,hf,q⟩=>q _ H (aN.refl H) (by cases (aK6 hf);rfl)
theorem wR {j:Nat}:GE X B fl (.Constant .none j pos) (fC .non) true 3:=
 bD aCz fun _ H _ ⟨_,_,_,_,_,hf,q⟩=>q _ H (aN.refl H) (by cases (aK6 hf);rfl)
theorem mI {i:Str}{j:Nat}:GE X B fl (.Constant (.str i) j pos) (fC (.str i)) true 3:=
 bD aD3 fun _ H _ ⟨_,_,_,_,_,hf,q⟩=>q _ H (aN.refl H) (by cases (aK6 hf);rfl)
def SOp (r:R2) (F:T->T->Option T):Prop:=∀ x y t,F x y=some t->scal x=true/\scal y=true/\scal t=true/\∀ (H:Hp) (Q:VK),Q (tv t) H->r (tv x) (tv y) H Q
theorem fO {op:Operator}{r:R2}{F:T->T->Option T}(ho:OpR X (binaryOp op) r) (hF:SOp r F) (ha:GE X B fl a f n l) (hb:GE X B fl b g n' l'):GE X B fl (.BinOp a op b pos) (f2 f g F) true 3:=by
 refine bD (CC ho ha hb) ?_;rintro σ H Q ⟨Ex,ρ,M,t,S,hf,q⟩;obtain⟨x,hx,hf⟩:=bind_some hf;obtain⟨y,hy,hf⟩:=bind_some hf;obtain⟨sx,sy,st,k⟩:=hF x y t hf;refine⟨Ex,ρ,M,x,S,hx,fun vx H1 s1 rx=>⟨Ex,ρ,M,y,S.grow s1,hy,fun vy H2 s2 ry=>?_⟩⟩;rw[aL.scal sx] at rx;rw[aL.scal sy] at ry;subst rx ry;exact k H2 Q (q _ H2 (s1.trans s2) ((aL.scal st).mpr rfl))
theorem VL {op:CmpOp}{r:R2}{F:T->T->Option T}(ho:OpR X (compareOp op) r) (hF:SOp r F) (ha:GE X B fl a f n l) (hb:GE X B fl b g n' l') (hm:behindInMarks op b=false:=by first | exact gO _ | rfl):GE X B fl (.Compare a [op] [b] pos) (f2 f g F) true 3:=by
 refine bD (JJ ho ha hb hm) ?_;rintro σ H Q ⟨Ex,ρ,M,t,S,hf,q⟩;obtain⟨x,hx,hf⟩:=bind_some hf;obtain⟨y,hy,hf⟩:=bind_some hf;obtain⟨sx,sy,st,k⟩:=hF x y t hf;refine⟨Ex,ρ,M,x,S,hx,fun vx H1 s1 rx=>⟨Ex,ρ,M,y,S.grow s1,hy,fun vy H2 s2 ry=>?_⟩⟩;rw[aL.scal sx] at rx;rw[aL.scal sy] at ry;subst rx ry;exact k H2 Q (q _ H2 (s1.trans s2) ((aL.scal st).mpr rfl))
def oI (C:Int->Int->Bool) (h:Int->Int->T):T->T->Option T
 | .int i,.int j=>if C i j then some (h i j) else none
 | _,_=>none
theorem rE {C:Int->Int->Prop}{c:Int->Int->Bool}{gv:Int->Int->V}{h:Int->Int->T}(hc:∀ i j,c i j=true->C i j) (hs:∀ i j,scal (h i j)=true) (he:∀ i j,tv (h i j)=gv i j):SOp (rI C gv) (oI c h):=by
 intro x y t e;cases x<;>first | (cases e;done) | skip
 cases y<;>first | (cases e;done) | skip
 rename_i i j;unfold oI at e;dsimp only at e;split at e
 ·rename_i k
  cases e;exact⟨rfl,rfl,hs i j,fun H Q q=>⟨i,j,rfl,rfl,hc i j k,by rw[<- he i j];exact q⟩⟩
 ·cases e
theorem jA {gv:Int->Int->V}{h:Int->Int->T}(hs:∀ i j,scal (h i j)=true) (he:∀ i j,tv (h i j)=gv i j):SOp (rI0 gv) (oI (fun _ _=>true) h):=by
 intro x y t e;cases x<;>first | (cases e;done) | skip
 cases y<;>first | (cases e;done) | skip
 rename_i i j;cases (show some (h i j)=some t from e);exact⟨rfl,rfl,hs i j,fun H Q q=>⟨i,j,rfl,rfl,by rw[<- he i j];exact q⟩⟩
abbrev cT:Int->Int->Bool:=fun _ _=>true
def bM:T->T->Option T:=oI cT fun i j=>.int (i+j)
def cZ:T->T->Option T:=oI cT fun i j=>.int (i-j)
def fR (i j:Int):Bool:=decide (i.natAbs<2^64)||decide (j.natAbs<2^64)||(decide (Builtin.Int.intBits i<=2^20)&&decide (Builtin.Int.intBits j<=2^20))
def bH:T->T->Option T:=oI fR fun i j=>.int (i*j)
def bV:T->T->Option T:=oI (fun _ j=>decide (0<j)&&decide (j<2^200)) fun i j=>.int (i / j)
def aY:T->T->Option T:=oI (fun _ j=>decide (0<j)) fun i j=>.int (i%j)
def jR:T->T->Option T:=oI (fun _ j=>decide (0<=j)) fun i j=>.int (i / 2^j.toNat)
def cJ:T->T->Option T:=oI (fun i j=>decide (0<=j)&&decide (j<=1000000)&&decide (i.natAbs<2^64)) fun i j=>.int (i*2^j.toNat)
def cD:T->T->Option T:=oI (fun i j=>decide (0<=j)&&decide ((Builtin.Int.intBits i:Int)*j<=2^27)) fun i j=>.int (i^j.toNat)
def jP:T->T->Option T:=oI cT fun i j=>.int (Builtin.bitAnd i j)
def oOr:T->T->Option T:=oI cT fun i j=>.int (Builtin.bitOr i j)
def BW:T->T->Option T:=oI cT fun i j=>.int (Builtin.bitXor i j)
def oLt:T->T->Option T:=oI cT fun i j=>.bl (decide (i<j))
def oLe:T->T->Option T:=oI cT fun i j=>.bl (decide (i<=j))
def oGt:T->T->Option T:=oI cT fun i j=>.bl (decide (j<i))
def oGe:T->T->Option T:=oI cT fun i j=>.bl (decide (j<=i))
theorem aAd {i j:Int}(h:fR i j=true):IntMulOk i j:=by
 unfold fR at h;rcases Bool.or_eq_true_iff.mp h with h | h
 ·rcases Bool.or_eq_true_iff.mp h with h | h
  ·have h:=of_decide_eq_true h
   exact .of_left (intBits_le_64 (by lia) (by lia))
  ·have h:=of_decide_eq_true h
   exact .of_right (intBits_le_64 (by lia) (by lia))
 ·have h:=aKo.mp h
  exact .of_bits (of_decide_eq_true h.1) (of_decide_eq_true h.2)
theorem aC6:OpR X (binaryOp .Mult) (rI (fun i j=>fR i j=true) fun i j=>.int (i*j)):=opI fun _ _ _ _ _ _ _ hc q=>mul_int q (aAd hc)
theorem aC7:OpR X (binaryOp .Pow) (rI (fun i j=>0<=j/\(Builtin.Int.intBits i:Int)*j<=2^27) fun i j=>.int (i^j.toNat)):=opI fun _ _ _ _ _ _ _ hc q=>pow_int hc.1 hc.2 q
theorem bN (ha:GE X B fl a f n l) (hb:GE X B fl b g n' l'):GE X B fl (.BinOp a .Add b pos) (f2 f g bM) true 3:=fO aC8 (jA (fun _ _=>rfl) fun _ _=>rfl) ha hb
theorem dI (ha:GE X B fl a f n l) (hb:GE X B fl b g n' l'):GE X B fl (.BinOp a .Sub b pos) (f2 f g cZ) true 3:=fO aCn (jA (fun _ _=>rfl) fun _ _=>rfl) ha hb
theorem dH (ha:GE X B fl a f n l) (hb:GE X B fl b g n' l'):GE X B fl (.BinOp a .Mult b pos) (f2 f g bH) true 3:=fO aC6 (rE (fun _ _ k=>k) (fun _ _=>rfl) fun _ _=>rfl) ha hb
theorem gM (ha:GE X B fl a f n l) (hb:GE X B fl b g n' l'):GE X B fl (.BinOp a .Pow b pos) (f2 f g cD) true 3:=fO aC7 (rE (fun _ _ k=>by simpa using k) (fun _ _=>rfl) fun _ _=>rfl) ha hb
theorem cF (ha:GE X B fl a f n l) (hb:GE X B fl b g n' l'):GE X B fl (.BinOp a .Mod b pos) (f2 f g aY) true 3:=fO aCf (rE (fun _ _ k=>of_decide_eq_true k) (fun _ _=>rfl) fun _ _=>rfl) ha hb
theorem wS (ha:GE X B fl a f n l) (hb:GE X B fl b g n' l'):GE X B fl (.BinOp a .RShift b pos) (f2 f g jR) true 3:=fO aCm (rE (fun _ _ k=>of_decide_eq_true k) (fun _ _=>rfl) fun _ _=>rfl) ha hb
theorem dR (ha:GE X B fl a f n l) (hb:GE X B fl b g n' l'):GE X B fl (.BinOp a .LShift b pos) (f2 f g cJ) true 3:=fO aCl (rE (fun _ _ k=>by simpa [DK,and_assoc] using k) (fun _ _=>rfl) fun _ _=>rfl) ha hb
theorem qD (ha:GE X B fl a f n l) (hb:GE X B fl b g n' l'):GE X B fl (.BinOp a .BitAnd b pos) (f2 f g jP) true 3:=fO aC9 (jA (fun _ _=>rfl) fun _ _=>rfl) ha hb
theorem rY (ha:GE X B fl a f n l) (hb:GE X B fl b g n' l'):GE X B fl (.BinOp a .BitOr b pos) (f2 f g oOr) true 3:=fO aCi (jA (fun _ _=>rfl) fun _ _=>rfl) ha hb
theorem WA (ha:GE X B fl a f n l) (hb:GE X B fl b g n' l'):GE X B fl (.BinOp a .BitXor b pos) (f2 f g BW) true 3:=fO aCo (jA (fun _ _=>rfl) fun _ _=>rfl) ha hb
theorem VS (ha:GE X B fl a f n l) (hb:GE X B fl b g n' l'):GE X B fl (.Compare a [.Lt] [b] pos) (f2 f g oLt) true 3:=VL JD (jA (fun _ _=>rfl) fun _ _=>rfl) ha hb
end
end G
namespace L2
open PySem PySem.Spec PyProof.Rows
def cO (cells:List (Str × Addr)):List (Str × NameKind)->List (Str × Addr)->Option (List (Str × Addr))
 | [],cs=>some cs
 | (n,k)::r,cs=>if k == .free then (match cells.lookup n with | some a=>cO cells r ((n,a)::cs) | none=>none) else cO cells r cs
theorem AD {scope:Scope}{env:Env}{cl:List (Str × Addr)}(h:cO env.cells scope.names []=some cl):closureFor scope env=pure cl:=by
 have key:∀ (ns:List (Str × NameKind)) (cs:List (Str × Addr)),cO env.cells ns cs=some cl ->
   (forIn ns cs (fun (x:Str × NameKind) (cs:List (Str × Addr))=>if x.2 == .free then (do let a <- cellOf env x.1;pure (ForInStep.yield ((x.1,a)::cs))) else pure (ForInStep.yield cs)):Sem (List (Str × Addr)))=pure cl:=by
  intro ns
  induction ns with
  | nil=>intro cs h;cases (aK6 h);rfl
  | cons x r ih=>
   intro cs h;obtain⟨n,k⟩:=x;rw[List.forIn_cons];unfold cO at h;dsimp only at h ⊢
   by_cases hk:(k == NameKind.free)=true
   ·rw[if_pos hk] at h ⊢
    cases hl:env.cells.lookup n with
    | none=>rw[hl] at h;cases h
    | some a=>
     rw[hl] at h;have e:cellOf env n=pure a:=by unfold cellOf;rw[hl]
     rw[e];simp only[pure_bind];exact ih _ h
   ·rw[if_neg hk] at h ⊢
    simp only[pure_bind];exact ih _ h
 have q:=key scope.names [] h;unfold closureFor
 simpa using q
theorem AC {cells:List (Str × Addr)}:∀ {ns:List (Str × NameKind)}{cs cl:List (Str × Addr)},cO cells ns cs=some cl->(∀ x c,cs.lookup x=some c->cells.lookup x=some c)->∀ x c,cl.lookup x=some c->cells.lookup x=some c
 | [],cs,cl,h,k=>by cases (aK6 h);exact k
 | (n,kd)::r,cs,cl,h,k=>by
  unfold cO at h
  by_cases hk:(kd == NameKind.free)=true
  ·rw[if_pos hk] at h
   cases hl:cells.lookup n with
   | none=>rw[hl] at h;cases h
   | some a=>
    rw[hl] at h;refine AC h fun x c e=>?_;rw[aLu] at e
    by_cases hx:(x == n)=true
    ·rw[hx] at e
     cases (aK6 e);rw[eq_of_beq hx];exact hl
    ·have hx':(x == n)=false:=by simpa using hx
     rw[hx'] at e;exact k x c e
  ·rw[if_neg hk] at h
   exact AC h k
theorem vZ {cells:List (Str × Addr)}{x:Str}:∀ {ns:List (Str × NameKind)}{cs cl:List (Str × Addr)},cO cells ns cs=some cl->((x,NameKind.free)∈ns\/∃ c,cs.lookup x=some c)->∃ c,cl.lookup x=some c
 | [],cs,cl,h,k=>by
  cases (aK6 h);rcases k with k | k
  ·cases k
  ·exact k
 | (n,kd)::r,cs,cl,h,k=>by
  unfold cO at h;have old:∀ a,(∃ c,cs.lookup x=some c)->∃ c,((n,a)::cs).lookup x=some c:=fun a ⟨c,e⟩=>by
   rw[aLu]
   by_cases hx:(x == n)=true
   ·rw[hx];exact⟨_,rfl⟩
   ·have hx':(x == n)=false:=by simpa using hx
    rw[hx'];exact⟨c,e⟩
  by_cases hk:(kd == NameKind.free)=true
  ·rw[if_pos hk] at h
   cases hl:cells.lookup n with
   | none=>rw[hl] at h;cases h
   | some a=>
    rw[hl] at h;refine vZ h ?_;rcases k with k | k
    ·rcases aKi.mp k with e | k
     ·cases e
      exact .inr ⟨a,by rw[aLu];simp⟩
     ·exact .inl k
    ·exact .inr (old a k)
  ·rw[if_neg hk] at h
   refine vZ h ?_;rcases k with k | k
   ·rcases aKi.mp k with e | k
    ·cases e
     exact absurd rfl hk
    ·exact .inl k
   ·exact .inr k
theorem wD {cells:List (Str × Addr)}:∀ {ns:List (Str × NameKind)}{cs:List (Str × Addr)},(∀ n,(n,NameKind.free)∈ns->∃ c,cells.lookup n=some c)->∃ cl,cO cells ns cs=some cl
 | [],cs,_=>⟨cs,rfl⟩
 | (n,kd)::r,cs,k=>by
  unfold cO
  by_cases hk:(kd == NameKind.free)=true
  ·rw[if_pos hk]
   obtain⟨c,e⟩:=k n (by rw[eq_of_beq hk];exact aKa);rw[e];exact wD fun m hm=>k m (aK9 _ hm)
  ·rw[if_neg hk]
   exact wD fun m hm=>k m (aK9 _ hm)
def qK:Option NameKind->Bool
 | some .cell=>true
 | _=>false
theorem HR {o:Option NameKind}(h:qK o=true):o=some .cell:=by
 cases o with
 | none=>cases h
 | some k=>cases k<;>first | rfl | cases h
theorem jO {x y:Str}{n:Addr}{cs:List (Str × Addr)}:((y,n)::cs).lookup x=if (x == y)=true then some n else cs.lookup x:=by
 rw[aLu]
 by_cases h:(x == y)=true
 ·rw[h];rfl
 ·have h':(x == y)=false:=by simpa using h
  rw[h'];rfl
theorem xU {x:Str}:∀ {ns:List (Str × NameKind)}{n n0:Nat}{cs:List (Str × Addr)},n0<=n->(ns.lookup x=some .cell\/∃ c,cs.lookup x=some c/\n0<=c)->∃ c,(cellsFrom n ns cs).lookup x=some c/\n0<=c
 | [],n,n0,cs,_,h=>by
  rcases h with h | h
  ·cases h
  ·exact h
 | (y,k)::r,n,n0,cs,hn,h=>by
  unfold cellsFrom
  by_cases hk:(k == NameKind.cell)=true
  ·rw[if_pos hk]
   refine xU (Nat.le_succ_of_le hn) ?_
   by_cases hx:(x == y)=true
   ·exact .inr ⟨n,by rw[jO,if_pos hx],hn⟩
   ·rcases h with h | ⟨c,e,hc⟩
    ·have hx':(x == y)=false:=by simpa using hx
     rw[aLu,hx'] at h;exact .inl h
    ·exact .inr ⟨c,by rw[jO,if_neg hx];exact e,hc⟩
  ·rw[if_neg hk]
   refine xU hn ?_;rcases h with h | h
   ·rw[aLu] at h
    by_cases hx:(x == y)=true
    ·rw[hx] at h
     have h':k=NameKind.cell:=aK6 h;rw[h'] at hk;exact absurd rfl hk
    ·have hx':(x == y)=false:=by simpa using hx
     rw[hx'] at h;exact .inl h
   ·exact .inr h
theorem BZ {x:Str}{c:Addr}:∀ {ns:List (Str × NameKind)}{n:Nat}{cs:List (Str × Addr)},(x,NameKind.cell) ∉ ns->cs.lookup x=some c->(cellsFrom n ns cs).lookup x=some c
 | [],_,_,_,h=>h
 | (y,k)::r,n,cs,hx,h=>by
  unfold cellsFrom;have hr:(x,NameKind.cell) ∉ r:=fun z=>hx (aK9 _ z)
  by_cases hk:(k == NameKind.cell)=true
  ·rw[if_pos hk]
   refine BZ hr ?_;have:¬ (x == y)=true:=fun z=>hx (by rw[eq_of_beq z,eq_of_beq hk];exact aKa);rw[jO,if_neg this];exact h
  ·rw[if_neg hk]
   exact BZ hr h
theorem xV {x:Str}{c:Addr}:∀ {ns:List (Str × NameKind)}{n:Nat}{cs:List (Str × Addr)},cs.lookup x=some c->∃ c',(cellsFrom n ns cs).lookup x=some c'
 | [],_,_,h=>⟨c,h⟩
 | (y,k)::r,n,cs,h=>by
  unfold cellsFrom
  by_cases hk:(k == NameKind.cell)=true
  ·rw[if_pos hk]
   by_cases hx:(x == y)=true
   ·exact xV (c:=n) (by rw[jO,if_pos hx])
   ·exact xV (c:=c) (by rw[jO,if_neg hx];exact h)
  ·rw[if_neg hk]
   exact xV h
theorem CA {x:Str}{c:Addr}:∀ {ns:List (Str × NameKind)}{h:Heap}{cs:List (Str × Addr)},(cellsFrom h.objs.size ns cs).lookup x=some c->cs.lookup x=some c\/(h.objs.size<=c/\(pushCells h ns).IsCell c none)
 | [],_,_,e=>.inl e
 | (y,k)::r,h,cs,e=>by
  unfold cellsFrom at e;unfold pushCells
  by_cases hk:(k == NameKind.cell)=true
  ·rw[if_pos hk] at e
   rw[if_pos hk];have e':(cellsFrom (h.push { cls:=.type "cell",data:=.cell none }).objs.size r ((y,h.objs.size)::cs)).lookup x=some c:=by rw[aKy];exact e
   rcases CA e' with q | ⟨q1,q2⟩
   ·rw[jO] at q
    by_cases hx:(x == y)=true
    ·rw[if_pos hx] at q
     cases q;exact .inr ⟨aMg _,_,pushCells_keeps r _ _ _ (aKu _ rfl),rfl⟩
    ·rw[if_neg hx] at q
     exact .inl q
   ·rw[aKy] at q1
    exact .inr ⟨Nat.le_of_succ_le q1,q2⟩
  ·rw[if_neg hk] at e
   rw[if_neg hk];exact CA e
theorem BY:∀ {ns:List (Str × NameKind)}{n:Nat}{cs:List (Str × Addr)},(∀ x c,cs.lookup x=some c->c<n)->(∀ x y c,cs.lookup x=some c->cs.lookup y=some c->x=y) ->
  ∀ x y c,(cellsFrom n ns cs).lookup x=some c->(cellsFrom n ns cs).lookup y=some c->x=y
 | [],_,_,_,h=>h
 | (z,k)::r,n,cs,hb,h=>by
  unfold cellsFrom
  by_cases hk:(k == NameKind.cell)=true
  ·rw[if_pos hk]
   refine BY (fun x c e=>?_) fun x y c e1 e2=>?_
   ·rw[jO] at e
    split at e
    ·cases e;exact aMl _
    ·exact aMk (hb x c e)
   ·rw[jO] at e1 e2
    split at e1
    ·rename_i hx
     cases e1;split at e2
     ·rename_i hy
      rw[eq_of_beq hx,eq_of_beq hy]
     ·exact absurd (hb y _ e2) (aMi _)
    ·split at e2
     ·cases e2
      exact absurd (hb x _ e1) (aMi _)
     ·exact h x y c e1 e2
  ·rw[if_neg hk]
   exact BY hb h
theorem aAi {M:Model}{A:Around}{E:Value->Shared->Prop}{s:Shared}{scope:Scope}{globals:Addr}{closure:List (Str × Addr)}{qual:Str}{outer:Env}{builtins:Addr}{Q:Env->Shared->Prop}
  (hQ:Q (newEnv scope s.heap.objs.size globals (cellsFrom (s.heap.objs.size+1) scope.names closure) qual none .none (some outer) builtins) { s with heap:=pushCells (s.heap.push { cls:=.type "dict",data:=.dict #[] }) scope.names }):
  wpAny M A (newFunctionEnv scope globals closure [] qual none .none (some outer) builtins) Q E s:=by
 simp only[newFunctionEnv,Option.isSome_some,if_true];simp only[newEnv] at hQ;refine wpAny_bind (wpAny_alloc ?_);refine wpAny_bind (wpAny_layCells _ (fun name kind cells=>by cases hkc:kind == NameKind.cell<;>simp[hkc]) _ _ _ _ ?_)
 rw[show ({ s with heap:=s.heap.push { cls:=.type "dict",data:=.dict #[] } }:Shared).heap.objs.size=s.heap.objs.size+1 from aKy ..];refine wpAny_bind ?_;rw[List.forIn_nil];exact wpAny_pure (wpAny_pure hQ)
def cxB (X:Cx) (scope:Scope) (N':List Str) (cl:List (Str × Addr)) (C:Addr) (s:Shared) (H:Hp) (ex:List Addr):Cx where
 prog:=X.prog
 w:=X.w
 K:=X.K
 mg:=X.mg
 base:=X.base
 A:=X.A
 N:=N'
 s₀:=s
 H₀:=H
 env:=compEnvC scope cl C X.env
 outer:=X.stack
 stack:=X.stack
 ex:=ex
 fn:=fun x=>qK (scope.names.lookup x)
 calm:=X.calm
 pn:=[]
 xe:=fun _ _=>False
def cE (src:List (Option Nat)) (σ:St):St:=src.map fun o=>o.bind fun i=>(σ[i]?).join
structure BlkOk (X:Cx) (scope:Scope) (N':List Str) (src:List (Option Nat)):Prop where
 kind:scope.kind=.function
 cells:∀ y∈scope.names,y.2=.cell->scope.names.lookup y.1=some .cell
 names:∀ y∈scope.names,y.2=.local->scope.names.lookup y.1=some .local
 frees:∀ y∈scope.names,y.2=.free->X.env.kindOf y.1=some .cell\/X.env.kindOf y.1=some .free
 srcN:∀ (j i:Nat),src[j]?=some (some i)->∃ x,N'[j]?=some x/\X.N[i]?=some x/\scope.names.lookup x≠some .local/\scope.names.lookup x≠some .cell
 len:src.length=N'.length
theorem xG {env:Env}:∀ {names:List (Str × NameKind)}{x:Str}{k:NameKind},
  (names.map fun (n,k)=>if (k == NameKind.free&&env.scope.kind == .function&&env.kindOf n == some .cell) then (n,NameKind.cell) else (n,k)).lookup x=some k->∃ k0,names.lookup x=some k0/\(x,k0)∈names/\(k0=k\/(k0=.free/\k=.cell))
 | [],_,_,h=>by simp at h
 | (n,kd)::r,x,k,h=>by
  have ih:=@xG env r x k
  by_cases hc:(kd == NameKind.free&&env.scope.kind == .function&&env.kindOf n == some .cell)=true
  ·have e:((n,kd)::r).map (fun (n,k)=>if (k == NameKind.free&&env.scope.kind == .function&&env.kindOf n == some .cell) then (n,NameKind.cell) else (n,k))=(n,NameKind.cell)::r.map (fun (n,k)=>if (k == NameKind.free&&env.scope.kind == .function&&env.kindOf n == some .cell) then (n,NameKind.cell) else (n,k)):=by
    rw[aLv];dsimp only;rw[if_pos hc]
   rw[e,aLu] at h;have hf:kd=.free:=by
    have:=(aKo.mp (aKo.mp hc).1).1;exact eq_of_beq this
   by_cases hx:(x == n)=true
   ·rw[hx] at h
    have h':NameKind.cell=k:=aK6 h;refine⟨kd,by rw[aLu,hx],by rw[eq_of_beq hx];exact aKa,.inr ⟨hf,h'.symm⟩⟩
   ·have hx':(x == n)=false:=by simpa using hx
    rw[hx'] at h;obtain⟨k0,a,b,c⟩:=ih h;exact⟨k0,by rw[aLu,hx'];exact a,aK9 _ b,c⟩
  ·have e:((n,kd)::r).map (fun (n,k)=>if (k == NameKind.free&&env.scope.kind == .function&&env.kindOf n == some .cell) then (n,NameKind.cell) else (n,k))=(n,kd)::r.map (fun (n,k)=>if (k == NameKind.free&&env.scope.kind == .function&&env.kindOf n == some .cell) then (n,NameKind.cell) else (n,k)):=by
    rw[aLv];dsimp only;rw[if_neg hc]
   rw[e,aLu] at h
   by_cases hx:(x == n)=true
   ·rw[hx] at h
    have h':kd=k:=aK6 h;exact⟨kd,by rw[aLu,hx],by rw[eq_of_beq hx];exact aKa,.inl h'⟩
   ·have hx':(x == n)=false:=by simpa using hx
    rw[hx'] at h;obtain⟨k0,a,b,c⟩:=ih h;exact⟨k0,by rw[aLu,hx'];exact a,aK9 _ b,c⟩
section
variable {X:Cx}{pins:List (Addr × Obj)}{σ:St}{H:Hp}{s2:Shared}
theorem YE {scope : Scope} {N' : List Str} {src : List (Option Nat)} {cl : List (Str × Addr)} {fp : List Addr} {h4 : Heap} {t4 : Nat} {C : Addr} {m : Str -> Option Value} (S : BlkOk X scope N' src) (I : Inv X pins σ H s2)
  (hcl : cO X.env.cells scope.names [] = some cl) (hf : ∀ b ∈ fp, eQ X pins H b) (ho : ∀ b ∈ fp, ∃ o, s2.heap.get? b = some o) (hC : s2.heap.objs.size < C)
  (hk : ∀ b o, s2.heap.get? b = some o -> h4.get? b = some o) (hD : h4.get? s2.heap.objs.size = some { cls := .type "list", data := .seq ([] : List Value).toArray 0 }) (hns : h4.Ns C m)
  (hown : ∀ x c, (cellsFrom (C + 1) scope.names cl).lookup x = some c -> cl.lookup x = some c \/ (C < c /\ h4.IsCell c none)) :
  Inv (cxB X scope N' (cellsFrom (C + 1) scope.names cl) C s2 H fp) [] (cE src σ) (upd H s2.heap.objs.size (.lst [])) { s2 with heap := h4, toks := t4 } := by
 have hH : H s2.heap.objs.size = none := I.hok.fresh (aMg _);have hHC : H C = none := I.hok.fresh (aMf hC);have sub := AC hcl (fun x c e => by simp at e);have clt : ∀ x c, cl.lookup x = some c -> c < s2.heap.objs.size := fun x c e => by
  obtain ⟨v, q⟩ := I.cell x c (sub x c e);exact q.lt
 have frKind : ∀ x, ((relabel scope X.env).names.lookup x = some .cell \/ (relabel scope X.env).names.lookup x = some .free) -> (x, NameKind.free) ∈ scope.names \/ scope.names.lookup x = some .cell := fun x hx => by
  rcases hx with hx | hx
  ·obtain ⟨k0, a, b, c⟩ := xG hx
   rcases c with rfl | ⟨rfl, _⟩
   ·exact .inr a
   ·exact .inl b
  ·obtain ⟨k0, _, b, c⟩ := xG hx
   rcases c with rfl | ⟨rfl, _⟩
   ·exact .inl b
   ·exact .inl b
 have noex : ∀ b o, X.base.get? b = some o -> b ∉ fp := fun b o e hb => by
  rcases (hf b hb).2.2.2.1 with z | z
  ·exact I.ok.noex b o e z
  ·exact absurd (aKe (aKe (aKx e) I.ok.bsz) z) (aMi _)
 have hasC : ∀ x, ((relabel scope X.env).names.lookup x = some .cell \/ (relabel scope X.env).names.lookup x = some .free) -> ∃ c, (cellsFrom (C + 1) scope.names cl).lookup x = some c := fun x hx => by
  rcases frKind x hx with q | q
  ·obtain ⟨c, e⟩ := vZ hcl (.inl q)
   exact xV e
  ·obtain ⟨c, e, _⟩ := xU (n0 := C + 1) (cs := cl) (aMg (C + 1)) (.inl q)
   exact ⟨c, e⟩
 have cabC : ∀ x c, qK (scope.names.lookup x) = true -> (cellsFrom (C + 1) scope.names cl).lookup x = some c -> s2.heap.objs.size <= c := fun x c z e => by
  obtain ⟨c', e', h'⟩ := xU (n0 := C + 1) (cs := cl) (aMg (C + 1)) (.inl (HR z));rw [e] at e';cases e';exact aMf (aMm hC h')
 have exC : ∀ b ∈ fp, ∀ x c, (cellsFrom (C + 1) scope.names cl).lookup x = some c -> c ≠ b := fun b hb x c e => by
  rcases hown x c e with q | ⟨q, _⟩
  ·exact (hf b hb).2.2.2.2.1 x c (sub x c q)
  ·rintro rfl
   obtain ⟨o, eo⟩ := ho c hb;exact absurd (aMm (aKx eo) (aMm hC q)) (aMi _)
 refine ⟨⟨I.ok.mod, S.kind, I.ok.glob, I.ok.blt, aMf hC, BY (fun x c e => aMk (aMm (clt x c e) hC)) (fun x y c e1 e2 => I.ok.inj x y c (sub x c e1) (sub y c e2)), fun x hx => hasC x hx, fun x c z e => cabC x c z e, I.ok.hd, I.ok.frames, .inl rfl, fun b hb => ⟨fun z => ?_, fun x c e => exC b hb x c e⟩,
   I.bs, aMh I.ok.bsz I.sz, noex, fun b hb z => ?_, I.stack, I.stkFree⟩,
  rfl, I.bare, Un.laid hk (aMg _) hH, ⟨m, hns, fun i x v e1 e2 e3 => ?_⟩, fun x c e => ?_, ?_, fun x c e => ?_, fun p hp => absurd (show p ∈ ([] : List (Addr × Obj)) from hp) (by simp), I.hok.laid hk (aMg _) ?_, ?_⟩
 ·obtain ⟨o, e⟩ := ho b hb
  have z' : b = C := z;subst z';exact absurd (aMm (aKx e) hC) (aMi _)
 ·rcases aKi.mp (I.stkSub b z) with e | z
  ·exact (hf b hb).2.1 e
  ·exact (hf b hb).2.2.1 z
 ·-- a captured name
  have e2' : (src.map fun o => o.bind fun i => (σ[i]?).join)[i]? = some (some v) := e2;rw [aLh] at e2';cases es : src[i]? with
  | none => rw [es] at e2'; cases e2'
  | some o =>
   rw [es] at e2';have e2'' : (o.bind fun i => (σ[i]?).join) = some v := aK6 e2';cases o with
   | none => cases e2''
   | some j =>
    have ej : σ[j]? = some (some v) := by
     have z : (σ[j]?).join = some v := e2'';cases q : σ[j]? with
     | none => rw [q] at z; cases z
     | some w => rw [q] at z; cases (show w = some v from z); rfl
    obtain ⟨x', n1, n2, n3⟩ := S.srcN i j es;have ex : x' = x := by
     have z : N'[i]? = some x := e1;rw [n1] at z; exact aK6 z
    subst ex;have hkd : (relabel scope X.env).names.lookup x' = some .cell \/ (relabel scope X.env).names.lookup x' = some .free := by
     have e3' : Vis (relabel scope X.env) x' := e3;rcases e3' with z | z | z
     ·obtain ⟨k0, a, _, c⟩ := xG z
      rcases c with rfl | ⟨_, q⟩
      ·exact absurd a n3.1
      ·cases q
     ·exact .inl z
     ·exact .inr z
    have hfr := (frKind x' hkd).resolve_right n3.2;have nown : (x', NameKind.cell) ∉ scope.names := fun z => n3.2 (S.cells _ z rfl);have ok := S.frees _ hfr rfl;obtain ⟨m0, hn0, hl0⟩ := I.loc;obtain ⟨u, ru, lu⟩ := hl0 j x' v n2 ej (ok.elim (fun z => .inr (.inl z)) (fun z => .inr (.inr z)));refine ⟨u, ru, .inr ⟨hkd, ?_⟩⟩;rcases lu with ⟨z, _⟩ | ⟨_, c, ec, ic⟩
    ·exfalso
     have z' : X.env.kindOf x' = some .local := z;rcases ok with w | w <;> (rw [z'] at w; cases w)
    ·obtain ⟨c', ec'⟩ := vZ hcl (.inl hfr)
     have : c' = c := by
      have := sub x' c' ec';rw [ec] at this;exact (aK6 this).symm
     subst this;obtain ⟨oc, g1, g2⟩ := ic;exact ⟨c', BZ nown ec', oc, hk _ _ g1, g2⟩
 ·rcases hown x c e with q | ⟨_, q⟩
  ·obtain ⟨v, oc, g1, g2⟩ := I.cell x c (sub x c q)
   exact ⟨v, oc, hk _ _ g1, g2⟩
  ·exact ⟨none, q⟩
 ·show upd H s2.heap.objs.size (.lst []) C = none
  rw [aS (aMn hC)];exact hHC
 ·show upd H s2.heap.objs.size (.lst []) c = none
  rcases hown x c e with q | ⟨q, _⟩
  ·rw [aS (aMo (clt x c q))]
   exact I.freeC x c (sub x c q)
  ·rw [aS (aMn (aMm hC q))]
   exact I.hok.fresh (aMf (aMm hC q))
 ·exact ⟨aMx _, [], 0, .nil, hD⟩
 ·show (cE src σ).length = N'.length
  unfold cE;rw [aLo];exact S.len
end
section
variable {prog:Program}{w:World}{A:Around}{E:Value->Shared->Prop}{R:Result->Shared->Prop}{s:Shared}
theorem SF {elt target iter : Expr} {ifs : List Expr} {scope : Scope} {pos : Pos} {it acc : Value} {env : Env} (I : Nat -> Shared -> Prop)
  (turn : ∀ n s, I n s -> wpAny (model prog w) A (pyNext it) (fun r s₁ => match r with
   | none => R (.ok .next) s₁
   | some v => wpAny (model prog w) A (letOwnedTupleGo target it v) (fun _ s₁' => wpAny (model prog w) A (assign target env v) (fun _ s₂ =>
     wpAny (model prog w) A (forIn ifs true fun c r => if r = true then do let ok <- isTrue c env (eval c env); pure (ForInStep.yield ok) else pure (ForInStep.yield r)) (fun ok s₃ =>
      if ok = true then wpAny (model prog w) A (eval elt env) (fun x s₄ =>
       wpAny (model prog w) A (call (.builtin "list.append") [acc, x]) (fun _ s₅ => ∃ m, m < n /\ I m s₅) (fun _ _ => False) s₄) (fun _ _ => False) s₃
      else ∃ m, m < n /\ I m s₃) (fun _ _ => False) s₂) (fun _ _ => False) s₁') (fun _ _ => False) s₁) (fun _ _ => False) s)
  (n : Nat) (h : I n s) :
  codeAny (model prog w) A (.compLoop (.ListComp elt [⟨target, iter, ifs, 0⟩] scope pos) 0 it acc env) R s := by
 refine codeAny_loop rfl I (fun n s hI => ?_) n h;show wpAny _ A ((compTurn (.ListComp elt [⟨target, iter, ifs, 0⟩] scope pos) 0 it acc env).onRaise (fun x => do noteFrame x env; theTreesLotGoes x)) _ _ s;refine wpAny_noted ?_;rw [compTurn_list];refine wpAny_bind (wpAny_standAt (wpAny_bind (wpAny_mono (turn n s hI) (fun r s₁ h₁ => ?_) fun _ _ h' => h'.elim)));cases r with
 | none => exact wpAny_pure h₁
 | some v =>
  refine wpAny_bind (wpAny_mono h₁ (fun _ s₁' h₁' => ?_) fun _ _ h' => h'.elim);refine wpAny_bind (wpAny_mono h₁' (fun _ s₂ h₂ => wpAny_bind (wpAny_mono h₂ (fun ok s₃ h₃ => ?_) fun _ _ h' => h'.elim)) fun _ _ h' => h'.elim);cases ok with
  | false => exact wpAny_pure ⟨rfl, h₃⟩
  | true =>
   exact wpAny_bind (wpAny_bind (wpAny_mono h₃ (fun x s₄ h₄ => wpAny_bind (wpAny_mono h₄ (fun _ s₅ h₅ => wpAny_pure (wpAny_pure ⟨rfl, h₅⟩)) fun _ _ h' => h'.elim)) fun _ _ h' => h'.elim))
end
def PIf (X:Cx) (ifs:List Expr) (t:TT):Prop:=
 ∀ (pins:List (Addr × Obj)) (s:Shared) (σ:St) (H:Hp) (Q:Bool->Hp->Prop),Inv X pins σ H s->t σ H Q ->
  wpAny (model X.prog X.w) X.A (forIn ifs true fun c r=>if r=true then do let ok <- isTrue c X.env (eval c X.env);pure (ForInStep.yield ok) else pure (ForInStep.yield r)) (TP X pins σ Q) X.xe s
def aGn:TT:=fun _ H Q=>Q true H
theorem aDe {X:Cx}:PIf X [] aGn:=fun _ _ _ H _ I h=>wpAny_tests_nil ⟨H,I,h⟩
theorem aDf {X:Cx}{c:Expr}{t:TT}(h:PT X c t):PIf X [c] t:=fun pins s σ H Q I hw=>wpAny_tests_one (h pins s σ H Q I hw)
def vR (wi:TI) (mk:St->St) (g:TG) (tc:TT) (te:TE):TE:=fun σ H Q=>wi σ H fun J H1=>∀ D,H1 D=none->∃ W:Nat->Nat->St->Hp->Prop,(∃ m,W 0 m (mk σ) (upd H1 D (.lst []))) /\
 ∀ i m σ1 H2,W i m σ1 H2->(J.stop i H2/\Q (.ref D) H2)\/(J.go i H2/\∀ x H3,J.yld i H2 x H3->g x σ1 H3 fun σ2 H4=>tc σ2 H4 fun b H5=>
  if b=true then te σ2 H5 fun v H6=>∃ xs,H6 D=some (.lst xs)/\xs.length<sizeLine/\∃ m',m'<m/\W (i+1) m' σ2 (upd H6 D (.lst (xs++[v]))) else ∃ m',m'<m/\W (i+1) m' σ2 H5)
section
variable {X:Cx}{elt tg iter:Expr}{ifs:List Expr}{scope:Scope}{pos:Pos}{N':List Str}{src:List (Option Nat)}{wi:TI}{g:TG}{tc:TT}{te:TE}
theorem EO {pins:List (Addr × Obj)}{σ:St}{H2:Hp}{s2:Shared}{E:Value->Shared->Prop}{cl:List (Str × Addr)}{it:Addr}{fp:List Addr}{tn:Nat->Heap->Prop}{J:It}{Q:VK}{RR:Value->Addr->Result->Shared->Prop}
  (S:BlkOk X scope N' src) (hc:X.calm=true) (hcl:cO X.env.cells scope.names []=some cl)
  (hb:∀ cl C s H ex,PG (cxB X scope N' cl C s H ex) tg g/\PIf (cxB X scope N' cl C s H ex) ifs tc/\PE (cxB X scope N' cl C s H ex) elt te)
  (I2:Inv X pins σ H2 s2) (Tn:Turn X.prog X.w X.K tg J fp it tn) (st2:tn 0 s2.heap) (f2:∀ b∈fp,eQ X pins H2 b)
  (hw:∀ D,H2 D=none->∃ W:Nat->Nat->St->Hp->Prop,(∃ m,W 0 m (cE src σ) (upd H2 D (.lst []))) /\
   ∀ i m σ1 H2,W i m σ1 H2->(J.stop i H2/\Q (.ref D) H2)\/(J.go i H2/\∀ x H3,J.yld i H2 x H3->g x σ1 H3 fun σ2 H4=>tc σ2 H4 fun b H5=>
    if b=true then te σ2 H5 fun v H6=>∃ xs,H6 D=some (.lst xs)/\xs.length<sizeLine/\∃ m',m'<m/\W (i+1) m' σ2 (upd H6 D (.lst (xs++[v]))) else ∃ m',m'<m/\W (i+1) m' σ2 H5))
  (hR:∀ D C H' s' m,s2.heap.objs.size<=D->s2.heap.objs.size<=C->s'.heap.Ns C m->H' C=none->Inv X pins σ H' s'->Q (.ref D) H'->RR (.ref D) C (.ok .next) s'):
  wpAny (model X.prog X.w) X.A (newList []) (fun acc s₃=>wpAny (model X.prog X.w) X.A (newFunctionEnv scope X.env.globals cl [] X.env.qual none .none (some X.env)) (fun cenv s₄=>
   codeAny (model X.prog X.w) X.A (.compStart (.ListComp elt [⟨tg,iter,ifs,0⟩] scope pos) 0 (.ref it) acc { cenv with scope:=relabel scope X.env }) (RR acc cenv.locals) s₄) E s₃) E s2:=by
 refine wpAny_newObj_type (aAi ?_);dsimp only;generalize hH2:s2.heap.push { cls:=.type "list",dict:=none,data:=.seq ([]:List Value).toArray }=Hq;have hC:Hq.objs.size=s2.heap.objs.size+1:=by rw[<- hH2,aKy]
 have hCl:s2.heap.objs.size<Hq.objs.size:=by rw[hC];exact aMl _
 have hns₁:(pushCells (Hq.push { cls:=.type "dict",data:=.dict #[] }) scope.names).Ns Hq.objs.size (fun _=>none):=(Heap.Ns.new Hq (.type "dict")).keeps (pushCells_keeps _ _);have old:∀ b o,s2.heap.get? b=some o->(pushCells (Hq.push { cls:=.type "dict",data:=.dict #[] }) scope.names).get? b=some o:=fun b o e=>pushCells_keeps _ _ b o (aKh _ (hH2 ▸ aKh _ e));have hacc:(pushCells (Hq.push { cls:=.type "dict",data:=.dict #[] }) scope.names).get? s2.heap.objs.size=some { cls:=.type "list",data:=.seq ([]:List Value).toArray 0 }:=pushCells_keeps _ _ _ _ (aKh _ (hH2 ▸ aKu _ rfl));have hown:∀ x c,(cellsFrom (Hq.objs.size+1) scope.names cl).lookup x=some c->cl.lookup x=some c\/(Hq.objs.size<c/\(pushCells (Hq.push { cls:=.type "dict",data:=.dict #[] }) scope.names).IsCell c none):=fun x c e=>by
  have e':(cellsFrom (Hq.push { cls:=.type "dict",data:=.dict #[] }).objs.size scope.names cl).lookup x=some c:=by rw[aKy];exact e
  rcases CA e' with q | ⟨q1,q2⟩
  ·exact .inl q
  ·rw[aKy] at q1
   exact .inr ⟨q1,q2⟩
 generalize pushCells (Hq.push { cls:=.type "dict",data:=.dict #[] }) scope.names=h₁ at hns₁ old hacc hown ⊢;have ho:∀ b∈fp,∃ o,s2.heap.get? b=some o:=fun b hb=>let ⟨o,e,_⟩:=Tn.obj 0 _ st2 b hb;⟨o,e⟩;obtain⟨W,⟨m0,w0⟩,turn⟩:=hw s2.heap.objs.size (I2.hok.fresh (aMg _));obtain⟨bg,bi,be⟩:=hb (cellsFrom (Hq.objs.size+1) scope.names cl) Hq.objs.size s2 H2 fp;have loop:∀ s₃:Shared,s₃={ s2 with heap:=h₁ } ->
   codeAny (model X.prog X.w) X.A (.compLoop (.ListComp elt [⟨tg,iter,ifs,0⟩] scope pos) 0 (.ref it) (.ref s2.heap.objs.size) (compEnvC scope (cellsFrom (Hq.objs.size+1) scope.names cl) Hq.objs.size X.env)) (RR (.ref s2.heap.objs.size) Hq.objs.size) s₃:=by
  rintro s₃ rfl;have I0:Inv (cxB X scope N' (cellsFrom (Hq.objs.size+1) scope.names cl) Hq.objs.size s2 H2 fp) [] (cE src σ) (upd H2 s2.heap.objs.size (.lst [])) { s2 with heap:=h₁ }:=YE (t4:=s2.toks) S I2 hcl f2 ho hCl old hacc hns₁ hown;have fpOk:∀ {H':Hp},(∀ b∈fp,H' b=none)->∀ b∈fp,eQ (cxB X scope N' (cellsFrom (Hq.objs.size+1) scope.names cl) Hq.objs.size s2 H2 fp) [] H' b:=fun hn b hb=>
   ⟨hn b hb,(I0.ok.exf b hb).1,I0.ok.exfs b hb,.inl hb,(I0.ok.exf b hb).2,fun p hp=>absurd (show p∈([]:List (Addr × Obj)) from hp) (by simp)⟩
  have fpOkP:∀ {H':Hp} ,(∀ b∈fp,H' b=none)->∀ b∈fp,eQ (cxB X scope N' (cellsFrom (Hq.objs.size+1) scope.names cl) Hq.objs.size s2 H2 fp) [] H' b:=fun hn=>fpOk hn;refine SF (fun n s'=>∃ i σ' H',Inv (cxB X scope N' (cellsFrom (Hq.objs.size+1) scope.names cl) Hq.objs.size s2 H2 fp) [] σ' H' s'/\tn i s'.heap/\(∀ b∈fp,H' b=none)/\W i n σ' H') ?_ m0
   ⟨0,cE src σ,_,I0,Tn.keep _ _ _ st2 (fun b _ o e=>old b o e),fun b hb=>?_,w0⟩
  rotate_left
  ·obtain⟨o,e⟩:=ho b hb
   rw[aS (aMo (aKx e))];exact (f2 b hb).1
  rintro n s3 ⟨i,σ3,H3,I3,st3,fr3,w3⟩;rcases turn i n σ3 H3 w3 with ⟨stop,qn⟩ | ⟨go,step⟩
  ·refine thn (Tn.done (cxB X scope N' (cellsFrom (Hq.objs.size+1) scope.names cl) Hq.objs.size s2 H2 fp) rfl rfl rfl hc i [] s3 σ3 H3 _ I3 (fpOk fr3) st3 stop) fun r s4 ⟨hr,I4⟩=>?_
   subst hr;obtain⟨m,hm,_⟩:=I4.loc;refine hR _ _ H3 s4 m (aMg _) (aMf hCl) hm I4.free ?_ qn;exact I2.call' (ch:=fp) I4.os I4.base I4.hok I4.bare fun b hb=>⟨(f2 b hb).2.2.2.1,(f2 b hb).2.1,(f2 b hb).2.2.2.2.1,(f2 b hb).2.2.2.2.2⟩
  ·refine thn (Tn.item (cxB X scope N' (cellsFrom (Hq.objs.size+1) scope.names cl) Hq.objs.size s2 H2 fp) rfl rfl rfl hc i [] s3 σ3 H3 _ I3 (fpOk fr3) st3 go) fun r s4 ⟨u,hr,h4⟩=>?_
   subst hr;refine thn h4 fun _ s5 ⟨x,H5,I5,r5,y5,st5,fr5⟩=>?_;have I5':=I5.pinned (fpOk fr5) (Tn.obj _ _ st5);refine thn (bg _ s5 σ3 H5 x u _ I5' r5 (step x H5 y5)) fun _ s6 ⟨σ6,H6,I6,q6⟩=>?_;refine thn (bi _ s6 σ6 H6 _ I6 q6) fun ok s7 ⟨H7,I7,q7⟩=>?_;have again:∀ {σ8:St} {H8:Hp} {s8:Shared} {m':Nat},Inv (cxB X scope N' (cellsFrom (Hq.objs.size+1) scope.names cl) Hq.objs.size s2 H2 fp) ([]++sZ fp s5.heap) σ8 H8 s8->m'<n->W (i+1) m' σ8 H8 ->
     ∃ m,m<n/\∃ i σ' H',Inv (cxB X scope N' (cellsFrom (Hq.objs.size+1) scope.names cl) Hq.objs.size s2 H2 fp) [] σ' H' s8/\tn i s8.heap/\(∀ b∈fp,H' b=none)/\W i m σ' H':=fun {σ8 H8 s8 m'} I8 hm w8=>by
    refine⟨m',hm,i+1,σ8,H8,I8.unpinned,Tn.keep _ _ _ st5 fun b hb o e=>(I8.pin (b,o) (aM0 _ (aM0 _ (xI hb e)))).1,fun b hb=>?_,w8⟩;obtain⟨o,e,d⟩:=Tn.obj _ _ st5 b hb;exact (I8.pin (b,o) (aM0 _ (aM0 _ (xI hb e)))).2.1
   cases ok with
   | false=>
    rw[if_neg aKr] at q7;rw[if_neg aKr];obtain⟨m',hm,w8⟩:=q7;exact again I7 hm w8
   | true=>
    rw[if_pos rfl] at q7;rw[if_pos rfl];refine thn (be _ s7 σ6 H7 _ I7 q7) fun xv s8 ⟨v,H8,I8,r8,q8⟩=>?_;obtain⟨xs,hx,hz,m',hm,w9⟩:=q8;refine thn (IW _ s8 σ6 H8 (.ref s2.heap.objs.size) [v] (.ref s2.heap.objs.size) [xv] (fun _ H9=>H9=upd H8 s2.heap.objs.size (.lst (xs++[v]))) I8 rfl (.cons r8 .nil) ⟨_,xs,v,rfl,rfl,hx,hz,rfl⟩) fun _ s9 ⟨_,H9,I9,_,e9⟩=>?_;subst e9;exact again I9 hm w9
 have hself:=Tn.self X.A 0 { s2 with heap:=h₁ };exact codeAny_compStart_list (loop _ rfl) (hself _ _ (Tn.keep _ _ _ st2 (fun b _ o e=>old b o e)) (loop _ rfl))
theorem JL (S:BlkOk X scope N' src) (hc:X.calm=true) (hi:PI X tg iter wi)
  (hb:∀ cl C s H ex,PG (cxB X scope N' cl C s H ex) tg g/\PIf (cxB X scope N' cl C s H ex) ifs tc/\PE (cxB X scope N' cl C s H ex) elt te)
  (hs:∀ x,foldedSetIterable iter X.env x=pure x:=by intro _;rfl):PE X (.ListComp elt [⟨tg,iter,ifs,0⟩] scope pos) (vR wi (cE src) g tc te):=by
 intro pins s σ H Q I h;obtain⟨cl,hcl⟩:∃ cl,cO X.env.cells scope.names []=some cl:=wD fun n hn=>I.ok.has n (S.frees _ hn rfl);rw[eval_ListComp];refine wpAny_comprehension_free (use:=none) rfl hs (AD hcl) S.kind S.names (thn (hi pins s σ H _ I h) fun v s1 h1=>thn h1 fun itv s2 h2=>?_);obtain⟨it,fp,tn,J,H2,e,I2,Tn,st2,f2,hw⟩:=h2;subst e;refine EO (RR:=fun acc C=>compPost (model X.prog X.w) X.A X.xe none (EP X pins σ Q) acc C) S hc hcl hb I2 Tn st2 f2 hw ?_;intro D C H' s' m hD hC hm hCn I' q;refine⟨m,hm,fun h' hsb=>?_⟩;refine⟨.ref D,H',?_,rfl,q⟩;refine I'.turned (t':=s'.toks) (it:=C) (fun b o hb e=>hsb.extBut b o hb e) hCn (aMn (aKe I2.lt hC)) (.inr (aMh I2.sz hC)) (fun x c e z=>?_) fun p hp z=>?_
 ·obtain⟨v,q⟩:=I2.cell x c e
  exact absurd (aKe q.lt (by rw[z];exact hC)) (aMi _)
 ·exact absurd (aKe (aKx (I2.pin p hp).1) (by rw[z];exact hC)) (aMi _)
theorem aDp {i:Nat}{x:Str}{pos' spos:Pos}(hN:X.N.Nodup) (hiN:X.N[i]?=some x) (hx:Loc X.env.scope x) (S:BlkOk X scope N' src) (hc:X.calm=true) (hi:PI X tg iter wi)
  (hb:∀ cl C s H ex,PG (cxB X scope N' cl C s H ex) tg g/\PIf (cxB X scope N' cl C s H ex) ifs tc/\PE (cxB X scope N' cl C s H ex) elt te)
  (hsw:swapsWith (.ListComp elt [⟨tg,iter,ifs,0⟩] scope pos) (some (.Name x pos')) spos.line X.env=pure true:=by rfl)
  (hs:∀ x,foldedSetIterable iter X.env x=pure x:=by intro _;rfl) (hf:X.fn x=true\/X.env.scope.names.lookup x=some .local:=by first | exact .inl rfl | exact .inr rfl | assumption):
  PS X (.Assign [.Name x pos'] (.ListComp elt [⟨tg,iter,ifs,0⟩] scope pos) spos) (zG (vR wi (cE src) g tc te) (jK i)):=by
 intro pins s σ H D I h;obtain⟨cl,hcl⟩:∃ cl,cO X.env.cells scope.names []=some cl:=wD fun n hn=>I.ok.has n (S.frees _ hn rfl);rw[exec_Assign_Name_used _ _ _ _ hsw];refine wpAny_bind (wpAny_standAt (wpAny_bind ?_));show wpAny _ X.A (do let _ <- comprehension (.ListComp elt [⟨tg,iter,ifs,0⟩] scope pos) scope X.env _ (newList []) false (eval iter X.env) (some (assign (.Name x pos') X.env))) _ _ s;refine wpAny_bind (wpAny_mono (wpAny_comprehension_free (use:=some (assign (.Name x pos') X.env)) (Q:=fun _ s'=>SP X pins D .next s') rfl hs (AD hcl) S.kind S.names
  (thn (hi pins s σ H _ I h) fun v s1 h1=>thn h1 fun itv s2 h2=>?_)) (fun _ s' hq=>wpAny_pure (wpAny_pure hq)) fun _ _ e=>e)
 obtain⟨it,fp,tn,J,H2,e,I2,Tn,st2,f2,hw⟩:=h2;subst e;refine EO (Q:=fun v H'=>D.nx (σ.set i (some v)) H') (RR:=fun acc C=>compPost (model X.prog X.w) X.A X.xe (some (assign (.Name x pos') X.env)) (fun _ s'=>SP X pins D .next s') acc C) S hc hcl hb I2 Tn st2 f2 hw ?_;intro D' C H' s' m hD hC hm hCn I' q;show wpAny _ X.A (assign (.Name x pos') X.env (.ref D')) _ _ _;refine wpAny_assign_Name (MD I' hN hiN hx (v:=.ref D') rfl (fun s'' I'' hsb=>?_) hf);have cl':∀ x c,X.env.cells.lookup x=some c->c≠C:=fun x c e z=>by
  obtain⟨v,q⟩:=I2.cell x c e;exact absurd (aKe q.lt (by rw[z];exact hC)) (aMi _)
 have hLC:X.env.locals≠C:=aMo (aKe I2.lt hC);obtain⟨a,sb,ha⟩:=hsb;have haC:C≠a:=by
  rcases ha with rfl | ha
  ·exact Ne.symm hLC
  ·exact Ne.symm (cl' x a ha)
 refine⟨m,hm.sameBut sb haC,fun h' hsb=>⟨_,H',?_,q⟩⟩;refine I''.turned (t':=s''.toks) (it:=C) (fun b o hb e=>hsb.extBut b o hb e) hCn (Ne.symm hLC) (.inr (aMh I2.sz hC)) cl' fun p hp z=>?_;exact absurd (aKe (aKx (I2.pin p hp).1) (by rw[z];exact hC)) (aMi _)
end
end L2
namespace G
open PySem PySem.Spec PyProof.Rows L2
mutual
def eqT:T->T->Bool
 | .non,.non=>true
 | .bl a,.bl b=>a == b
 | .int a,.int b=>a == b
 | .str a,.str b=>a == b
 | .bl a,.int b=>(if a then 1 else 0) == b
 | .int a,.bl b=>a == (if b then 1 else 0)
 | .lst xs,.lst ys=>eqL xs ys
 | .tup xs,.tup ys=>eqL xs ys
 | .exc _,.exc _=>true
 | _,_=>false
def eqL:List T->List T->Bool
 | [],[]=>true
 | x::xs,y::ys=>eqT x y&&eqL xs ys
 | _,_=>false
end
mutual
def dep:T->Nat
 | .lst xs=>depL xs+1
 | .tup xs=>depL xs+1
 | .exc _=>61
 | _=>0
def depL:List T->Nat
 | []=>0
 | x::xs=>max (dep x) (depL xs)
end
mutual
theorem FE:∀ t:T,eqT t t=true
 | .non=>by simp[eqT]
 | .bl _=>by simp[eqT]
 | .int _=>by simp[eqT]
 | .str _=>by simp[eqT]
 | .lst xs=>by simp[eqT,eqL_refl xs]
 | .tup xs=>by simp[eqT,eqL_refl xs]
 | .exc _=>by simp[eqT]
theorem eqL_refl:∀ xs:List T,eqL xs xs=true
 | []=>by simp[eqL]
 | x::xs=>by simp[eqL,FE x,eqL_refl xs]
end
theorem AG:∀ {xs:List T}{t:T}{i:Nat},xs[i]?=some t->dep t<=depL xs
 | [],_,_,e=>by simp at e
 | x::xs,t,0,e=>by simp at e;subst e;simp[depL];lia
 | x::xs,t,i+1,e=>by
  have:=AG (xs:=xs) (i:=i) (t:=t) (by simpa using e);simp[depL];lia
theorem AM:∀ (xs ys:List T),xs.length=ys.length->eqL xs ys=(List.range xs.length).all fun j=>match xs[j]?,ys[j]? with | some a,some b=>eqT a b | _,_=>false
 | [],[],_=>by simp[eqL]
 | x::xs,y::ys,h=>by
  have ih:=AM xs ys (by simpa using h);rw[eqL,ih,aLm,List.range_succ_eq_map,List.all_cons,List.all_map];simp[Function.comp_def]
 | [],_::_,h=>by simp at h
 | _::_,[],h=>by simp at h
theorem AL:∀ (xs ys:List T),xs.length≠ys.length->eqL xs ys=false
 | [],[],h=>by simp at h
 | x::xs,y::ys,h=>by rw[eqL,AL xs ys (by simpa using h),Bool.and_false]
 | [],_::_,_=>by simp[eqL]
 | _::_,[],_=>by simp[eqL]
section
variable {X:Cx}{pins:List (Addr × Obj)}{σ:St}{H:Hp}{s:Shared}
mutual
theorem CP (I:Inv X pins σ H s) {A A':Addr->Prop}:∀ (t u:T) {v:V},dep t<=60->dep u<=60->Rep X.K H A t v->Rep X.K H A' u v->eqT t u=true
 | .non,.non,_,hd,hd2,_,_=>by simp[eqT]
 | .bl _,.bl _,_,hd,hd2,h,q=>by cases (show _=_ from h);cases (show _=_ from q);simp[eqT]
 | .int _,.int _,_,hd,hd2,h,q=>by cases (show _=_ from h);cases (show _=_ from q);simp[eqT]
 | .str _,.str _,_,hd,hd2,h,q=>by cases (show _=_ from h);cases (show _=_ from q);simp[eqT]
 | .lst xs,.lst ys,_,hd,hd2,h,q=>by
  obtain⟨a,us,e,h1,h2⟩:=h.sqL;obtain⟨b,ws,e',q1,q2⟩:=q.sqL;subst e;cases e';have:=I.list_inj h1 q1;subst this;rw[eqT];exact repL_same I xs ys (by simp[dep] at hd;lia) (by simp[dep] at hd2;lia) h2 q2
 | .tup xs,.tup ys,_,hd,hd2,h,q=>by
  obtain⟨a,us,e,h1,h2⟩:=h.sqT;obtain⟨b,ws,e',q1,q2⟩:=q.sqT;subst e;cases e';have:=I.tuple_inj h1 q1;subst this;rw[eqT];exact repL_same I xs ys (by simp[dep] at hd;lia) (by simp[dep] at hd2;lia) h2 q2
 | .lst xs,.tup ys,_,hd,hd2,h,q=>by
  obtain⟨a,us,e,h1,h2⟩:=h.sqL;obtain⟨b,ws,e',q1,q2⟩:=q.sqT;subst e;cases e'
  exfalso
  obtain⟨_,_,p1,_⟩:=I.list h1;obtain⟨_,_,p2,_⟩:=I.tuple q1;exact SeqAt.ne_of_list_tuple p1.isList p2 rfl
 | .tup xs,.lst ys,_,hd,hd2,h,q=>by
  obtain⟨a,us,e,h1,h2⟩:=h.sqT;obtain⟨b,ws,e',q1,q2⟩:=q.sqL;subst e;cases e'
  exfalso
  obtain⟨_,_,p1,_⟩:=I.tuple h1;obtain⟨_,_,p2,_⟩:=I.list q1;exact SeqAt.ne_of_list_tuple p2.isList p1 rfl
 | .non,.bl _,_,hd,hd2,h,q=>by cases (show _=_ from h);cases (show _=_ from q)
 | .non,.int _,_,hd,hd2,h,q=>by cases (show _=_ from h);cases (show _=_ from q)
 | .non,.str _,_,hd,hd2,h,q=>by cases (show _=_ from h);cases (show _=_ from q)
 | .non,.lst _,_,hd,hd2,h,q=>by cases (show _=_ from h);obtain⟨_,_,e,_⟩:=q;cases e
 | .non,.tup _,_,hd,hd2,h,q=>by cases (show _=_ from h);obtain⟨_,_,e,_⟩:=q;cases e
 | .bl _,.non,_,hd,hd2,h,q=>by cases (show _=_ from h);cases (show _=_ from q)
 | .bl _,.int _,_,hd,hd2,h,q=>by cases (show _=_ from h);cases (show _=_ from q)
 | .bl _,.str _,_,hd,hd2,h,q=>by cases (show _=_ from h);cases (show _=_ from q)
 | .bl _,.lst _,_,hd,hd2,h,q=>by cases (show _=_ from h);obtain⟨_,_,e,_⟩:=q;cases e
 | .bl _,.tup _,_,hd,hd2,h,q=>by cases (show _=_ from h);obtain⟨_,_,e,_⟩:=q;cases e
 | .int _,.non,_,hd,hd2,h,q=>by cases (show _=_ from h);cases (show _=_ from q)
 | .int _,.bl _,_,hd,hd2,h,q=>by cases (show _=_ from h);cases (show _=_ from q)
 | .int _,.str _,_,hd,hd2,h,q=>by cases (show _=_ from h);cases (show _=_ from q)
 | .int _,.lst _,_,hd,hd2,h,q=>by cases (show _=_ from h);obtain⟨_,_,e,_⟩:=q;cases e
 | .int _,.tup _,_,hd,hd2,h,q=>by cases (show _=_ from h);obtain⟨_,_,e,_⟩:=q;cases e
 | .str _,.non,_,hd,hd2,h,q=>by cases (show _=_ from h);cases (show _=_ from q)
 | .str _,.bl _,_,hd,hd2,h,q=>by cases (show _=_ from h);cases (show _=_ from q)
 | .str _,.int _,_,hd,hd2,h,q=>by cases (show _=_ from h);cases (show _=_ from q)
 | .str _,.lst _,_,hd,hd2,h,q=>by cases (show _=_ from h);obtain⟨_,_,e,_⟩:=q;cases e
 | .str _,.tup _,_,hd,hd2,h,q=>by cases (show _=_ from h);obtain⟨_,_,e,_⟩:=q;cases e
 | .lst _,.non,_,hd,hd2,h,q=>by cases (show _=_ from q);obtain⟨_,_,e,_⟩:=h;cases e
 | .lst _,.bl _,_,hd,hd2,h,q=>by cases (show _=_ from q);obtain⟨_,_,e,_⟩:=h;cases e
 | .lst _,.int _,_,hd,hd2,h,q=>by cases (show _=_ from q);obtain⟨_,_,e,_⟩:=h;cases e
 | .lst _,.str _,_,hd,hd2,h,q=>by cases (show _=_ from q);obtain⟨_,_,e,_⟩:=h;cases e
 | .tup _,.non,_,hd,hd2,h,q=>by cases (show _=_ from q);obtain⟨_,_,e,_⟩:=h;cases e
 | .tup _,.bl _,_,hd,hd2,h,q=>by cases (show _=_ from q);obtain⟨_,_,e,_⟩:=h;cases e
 | .tup _,.int _,_,hd,hd2,h,q=>by cases (show _=_ from q);obtain⟨_,_,e,_⟩:=h;cases e
 | .tup _,.str _,_,hd,hd2,h,q=>by cases (show _=_ from q);obtain⟨_,_,e,_⟩:=h;cases e
 | .non,.exc _,_,_,hd2,_,_=>by simp[dep] at hd2
 | .bl _,.exc _,_,_,hd2,_,_=>by simp[dep] at hd2
 | .int _,.exc _,_,_,hd2,_,_=>by simp[dep] at hd2
 | .str _,.exc _,_,_,hd2,_,_=>by simp[dep] at hd2
 | .lst _,.exc _,_,_,hd2,_,_=>by simp[dep] at hd2
 | .tup _,.exc _,_,_,hd2,_,_=>by simp[dep] at hd2
 | .exc _,_,_,hd,_,_,_=>by simp[dep] at hd
theorem repL_same (I:Inv X pins σ H s) {A A':Addr->Prop}:∀ (ts us:List T) {xs:List V},depL ts<=60->depL us<=60->RepL X.K H A ts xs->RepL X.K H A' us xs->eqL ts us=true
 | [],[],_,_,_,_,_=>by simp[eqL]
 | t::ts,u::us,_,hd,hd2,h,q=>by
  simp only[depL] at hd hd2;obtain⟨x,r,e,h1,h2⟩:=h;obtain⟨y,r',e',q1,q2⟩:=q;subst e;cases e';rw[eqL,CP I t u (by lia) (by lia) h1 q1,repL_same I ts us (by lia) (by lia) h2 q2]
  rfl
 | [],_::_,_,_,_,h,q=>by
  cases (show _=_ from h);obtain⟨_,_,e,_⟩:=q;cases e
 | _::_,[],_,_,_,h,q=>by
  cases (show _=_ from q);obtain⟨_,_,e,_⟩:=h;cases e
end
open SeqAt in
theorem FF (I : Inv X pins σ H s) {A A' : Addr -> Prop} : ∀ (n : Nat) (Ar : Around) (t u : T) (v w : V) (x y : Value), n <= 60 -> dep t <= n -> dep u <= 60 -> Ar.units + n < cLine -> Rep X.K H A t v -> Rep X.K H A' u w -> aV v x -> aV w y -> EqAt Ar s x y (eqT t u) /\ RcAt Ar s x y (eqT t u) /\ RcNeAt Ar s x y (!eqT t u) := by
 intro n
 induction n with
 | zero =>
  intro Ar t u v w x y hn hd hdu hu h q r r';have hu' : Ar.units < cLine := by lia
  cases t with
  | lst _ => simp [dep] at hd
  | tup _ => simp [dep] at hd
  | exc _ => simp [dep] at hd
  | non =>
   cases (show _ = _ from h); cases (show _ = _ from r);cases u with
   | exc _ => simp [dep] at hdu
   | non => cases (show _ = _ from q); cases (show _ = _ from r'); exact ⟨EqAt.same _, RcAt.none_none, RcNeAt.none_none⟩
   | bl b => cases (show _ = _ from q); cases (show _ = _ from r'); exact ⟨EqAt.none_bool _, RcAt.none_bool _, RcNeAt.none_bool _⟩
   | int b => cases (show _ = _ from q); obtain ⟨k, rfl⟩ := r'; exact ⟨EqAt.none_int _ _, RcAt.none_int _ _, RcNeAt.none_int _ _⟩
   | str b => cases (show _ = _ from q); obtain ⟨k, rfl⟩ := r'; exact ⟨EqAt.none_str _ _, RcAt.none_str _ _, RcNeAt.none_str _ _⟩
   | lst b =>
    obtain ⟨a, us, rfl, q1, q2⟩ := q.sqL;cases r';obtain ⟨_, _, p1, _⟩ := I.list q1;exact ⟨EqAt.none_list p1.isList hu', RcAt.none_list p1.isList hu', RcNeAt.none_list p1.isList hu'⟩
   | tup b =>
    obtain ⟨a, us, rfl, q1, q2⟩ := q.sqT;cases r';obtain ⟨_, _, p1, _⟩ := I.tuple q1;exact ⟨EqAt.none_tuple p1 hu', RcAt.none_tuple p1 hu', RcNeAt.none_tuple p1 hu'⟩
  | bl c =>
   cases (show _ = _ from h); cases (show _ = _ from r);cases u with
   | exc _ => simp [dep] at hdu
   | non => cases (show _ = _ from q); cases (show _ = _ from r'); exact ⟨EqAt.bool_none _, RcAt.bool_none _, RcNeAt.bool_none _⟩
   | bl b => cases (show _ = _ from q); cases (show _ = _ from r'); exact ⟨EqAt.bool_bool _ _, RcAt.bool_bool _ _, RcNeAt.bool_bool _ _⟩
   | int b => cases (show _ = _ from q); obtain ⟨k, rfl⟩ := r'; exact ⟨EqAt.bool_int _ _ _, RcAt.bool_int _ _ _, RcNeAt.bool_int _ _ _⟩
   | str b => cases (show _ = _ from q); obtain ⟨k, rfl⟩ := r'; exact ⟨EqAt.bool_str _ _ _, RcAt.bool_str _ _ _, RcNeAt.bool_str _ _ _⟩
   | lst b =>
    obtain ⟨a, us, rfl, q1, q2⟩ := q.sqL;cases r';obtain ⟨_, _, p1, _⟩ := I.list q1;exact ⟨EqAt.bool_list _ p1.isList hu', RcAt.bool_list _ p1.isList hu', RcNeAt.bool_list _ p1.isList hu'⟩
   | tup b =>
    obtain ⟨a, us, rfl, q1, q2⟩ := q.sqT;cases r';obtain ⟨_, _, p1, _⟩ := I.tuple q1;exact ⟨EqAt.bool_tuple _ p1 hu', RcAt.bool_tuple _ p1 hu', RcNeAt.bool_tuple _ p1 hu'⟩
  | int c =>
   cases (show _ = _ from h); obtain ⟨k', rfl⟩ := r;cases u with
   | exc _ => simp [dep] at hdu
   | non => cases (show _ = _ from q); cases (show _ = _ from r'); exact ⟨EqAt.int_none _ _, RcAt.int_none _ _, RcNeAt.int_none _ _⟩
   | bl b => cases (show _ = _ from q); cases (show _ = _ from r'); exact ⟨EqAt.int_bool _ _ _, RcAt.int_bool _ _ _, RcNeAt.int_bool _ _ _⟩
   | int b => cases (show _ = _ from q); obtain ⟨k, rfl⟩ := r'; exact ⟨EqAt.int_int _ _ _ _, RcAt.int_int _ _ _ _, RcNeAt.int_int _ _ _ _⟩
   | str b => cases (show _ = _ from q); obtain ⟨k, rfl⟩ := r'; exact ⟨EqAt.int_str _ _ _ _, RcAt.int_str _ _ _ _, RcNeAt.int_str _ _ _ _⟩
   | lst b =>
    obtain ⟨a, us, rfl, q1, q2⟩ := q.sqL;cases r';obtain ⟨_, _, p1, _⟩ := I.list q1;exact ⟨EqAt.int_list _ _ p1.isList hu', RcAt.int_list _ _ p1.isList hu', RcNeAt.int_list _ _ p1.isList hu'⟩
   | tup b =>
    obtain ⟨a, us, rfl, q1, q2⟩ := q.sqT;cases r';obtain ⟨_, _, p1, _⟩ := I.tuple q1;exact ⟨EqAt.int_tuple _ _ p1 hu', RcAt.int_tuple _ _ p1 hu', RcNeAt.int_tuple _ _ p1 hu'⟩
  | str c =>
   cases (show _ = _ from h); obtain ⟨k', rfl⟩ := r;cases u with
   | exc _ => simp [dep] at hdu
   | non => cases (show _ = _ from q); cases (show _ = _ from r'); exact ⟨EqAt.str_none _ _, RcAt.str_none _ _, RcNeAt.str_none _ _⟩
   | bl b => cases (show _ = _ from q); cases (show _ = _ from r'); exact ⟨EqAt.str_bool _ _ _, RcAt.str_bool _ _ _, RcNeAt.str_bool _ _ _⟩
   | int b => cases (show _ = _ from q); obtain ⟨k, rfl⟩ := r'; exact ⟨EqAt.str_int _ _ _ _, RcAt.str_int _ _ _ _, RcNeAt.str_int _ _ _ _⟩
   | str b => cases (show _ = _ from q); obtain ⟨k, rfl⟩ := r'; exact ⟨EqAt.str_str _ _ _ _, RcAt.str_str _ _ _ _, RcNeAt.str_str _ _ _ _⟩
   | lst b =>
    obtain ⟨a, us, rfl, q1, q2⟩ := q.sqL;cases r';obtain ⟨_, _, p1, _⟩ := I.list q1;exact ⟨EqAt.str_list _ _ p1.isList hu', RcAt.str_list _ _ p1.isList hu', RcNeAt.str_list _ _ p1.isList hu'⟩
   | tup b =>
    obtain ⟨a, us, rfl, q1, q2⟩ := q.sqT;cases r';obtain ⟨_, _, p1, _⟩ := I.tuple q1;exact ⟨EqAt.str_tuple _ _ p1 hu', RcAt.str_tuple _ _ p1 hu', RcNeAt.str_tuple _ _ p1 hu'⟩
 | succ n ih =>
  intro Ar t u v w x y hn hd hdu hu h q r r';have hu' : Ar.units < cLine := by lia
  have sc : G.scal t = true -> EqAt Ar s x y (eqT t u) /\ RcAt Ar s x y (eqT t u) /\ RcNeAt Ar s x y (!eqT t u) := fun sc =>
   ih Ar t u v w x y (by lia) (by cases t <;> first | (simp [dep]; done) | (simp [G.scal] at sc)) hdu (by lia) h q r r'
  -- the parts of two sequences
  have parts : ∀ {ts us : List T} {xs ys : List V} {its its2 : List Value}, depL ts <= n -> depL us <= 60 -> RepL X.K H A ts xs -> RepL X.K H A' us ys -> aK xs its -> aK ys its2 ->
    ∀ j (h1 : j < its.toArray.size) (h2 : j < its2.toArray.size), EqAt Ar.in1 s its.toArray[j] its2.toArray[j] (match ts[j]?, us[j]? with | some a, some b => eqT a b | _, _ => false) := by
   intro ts us xs ys its its2 hdn hdm hr hq hv hv' j h1 h2;have l1 := hr.length;have l2 := hq.length;have l3 := hv.length;have l4 := hv'.length;simp only [aKf] at h1 h2;have e1 : ts[j]? = some ts[j] := aK8 (by lia);have e2 : us[j]? = some us[j] := aK8 (by lia);obtain ⟨a, g1, ra⟩ := hr.get e1;obtain ⟨b, g2, rb⟩ := hq.get e2;obtain ⟨c, g3, rc⟩ := hv.get g1;obtain ⟨d, g4, rd⟩ := hv'.get g2;have i1 : its.toArray[j] = c := by
    have := (aKb.mp g3).2
    simpa using this
   have i2 : its2.toArray[j] = d := by
    have := (aKb.mp g4).2
    simpa using this
   rw [i1, i2, e1, e2];exact (ih Ar.in1 _ _ a b c d (by lia) (aMh (AG e1) hdn) (aMh (AG e2) hdm) (by show Ar.units + 1 + n < cLine; lia) ra rb rc rd).1
  cases t with
  | non => exact sc rfl
  | bl _ => exact sc rfl
  | int _ => exact sc rfl
  | str _ => exact sc rfl
  | exc _ => exfalso; simp [dep] at hd; lia
  | lst ts =>
   have hd' : depL ts <= n := by simp [dep] at hd; lia
   obtain ⟨a, xs, rfl, h1, h2⟩ := h.sqL;cases r;obtain ⟨its, hv, p1, _⟩ := I.list h1;have l1 := h2.length;have l3 := hv.length;cases u with
   | exc _ => simp [dep] at hdu
   | non => cases (show _ = _ from q); cases (show _ = _ from r'); exact ⟨EqAt.list_none p1.isList hu', RcAt.list_none p1.isList hu', RcNeAt.list_none p1.isList hu'⟩
   | bl b => cases (show _ = _ from q); cases (show _ = _ from r'); exact ⟨EqAt.list_bool _ p1.isList hu', RcAt.list_bool _ p1.isList hu', RcNeAt.list_bool _ p1.isList hu'⟩
   | int b => cases (show _ = _ from q); obtain ⟨k, rfl⟩ := r'; exact ⟨EqAt.list_int _ _ p1.isList hu', RcAt.list_int _ _ p1.isList hu', RcNeAt.list_int _ _ p1.isList hu'⟩
   | str b => cases (show _ = _ from q); obtain ⟨k, rfl⟩ := r'; exact ⟨EqAt.list_str _ _ p1.isList hu', RcAt.list_str _ _ p1.isList hu', RcNeAt.list_str _ _ p1.isList hu'⟩
   | lst us =>
    obtain ⟨b, ys, rfl, q1, q2⟩ := q.sqL;cases r';obtain ⟨its2, hv', p2, _⟩ := I.list q1;have l2 := q2.length;have l4 := hv'.length;have rc : RcAt Ar s (.ref a) (.ref b) (eqT (.lst ts) (.lst us)) /\ RcNeAt Ar s (.ref a) (.ref b) (!eqT (.lst ts) (.lst us)) := by
     rw [eqT]
     by_cases hl : ts.length = us.length
     ·have hz : its.toArray.size = its2.toArray.size := by simp only [aKf]; lia
      have e1 := RcAt.lists p1.isList p2.isList hz hu' (parts hd' (by simp [dep] at hdu; lia) h2 q2 hv hv');have e2 := RcNeAt.lists p1.isList p2.isList hz hu' (parts hd' (by simp [dep] at hdu; lia) h2 q2 hv hv');have el : its.toArray.size = ts.length := by simp only [aKf]; lia
      rw [el, <- AM ts us hl] at e1 e2;exact ⟨e1, e2⟩
     ·have hz : (its.toArray.size != its2.toArray.size) = true := by simp only [aKf]; simp; lia
      rw [AL ts us hl];exact ⟨RcAt.lists_lengths p1.isList p2.isList hz hu', RcNeAt.lists_lengths p1.isList p2.isList hz hu'⟩
    refine ⟨?_, rc⟩
    by_cases hab : a = b
    ·subst hab
     rw [CP I (.lst ts) (.lst us) (by lia) hdu h q];exact EqAt.same _
    ·exact EqAt.of_refs hab rc.1
   | tup us =>
    obtain ⟨b, ys, rfl, q1, q2⟩ := q.sqT;cases r';obtain ⟨its2, hv', p2, _⟩ := I.tuple q1;exact ⟨EqAt.list_tuple p1.isList p2 hu', RcAt.list_tuple p1.isList p2 hu', RcNeAt.list_tuple p1.isList p2 hu'⟩
  | tup ts =>
   have hd' : depL ts <= n := by simp [dep] at hd; lia
   obtain ⟨a, xs, rfl, h1, h2⟩ := h.sqT;cases r;obtain ⟨its, hv, p1, _⟩ := I.tuple h1;have l1 := h2.length;have l3 := hv.length;cases u with
   | exc _ => simp [dep] at hdu
   | non => cases (show _ = _ from q); cases (show _ = _ from r'); exact ⟨EqAt.tuple_none p1 hu', RcAt.tuple_none p1 hu', RcNeAt.tuple_none p1 hu'⟩
   | bl b => cases (show _ = _ from q); cases (show _ = _ from r'); exact ⟨EqAt.tuple_bool _ p1 hu', RcAt.tuple_bool _ p1 hu', RcNeAt.tuple_bool _ p1 hu'⟩
   | int b => cases (show _ = _ from q); obtain ⟨k, rfl⟩ := r'; exact ⟨EqAt.tuple_int _ _ p1 hu', RcAt.tuple_int _ _ p1 hu', RcNeAt.tuple_int _ _ p1 hu'⟩
   | str b => cases (show _ = _ from q); obtain ⟨k, rfl⟩ := r'; exact ⟨EqAt.tuple_str _ _ p1 hu', RcAt.tuple_str _ _ p1 hu', RcNeAt.tuple_str _ _ p1 hu'⟩
   | lst us =>
    obtain ⟨b, ys, rfl, q1, q2⟩ := q.sqL;cases r';obtain ⟨its2, hv', p2, _⟩ := I.list q1;exact ⟨EqAt.tuple_list p1 p2.isList hu', RcAt.tuple_list p1 p2.isList hu', RcNeAt.tuple_list p1 p2.isList hu'⟩
   | tup us =>
    obtain ⟨b, ys, rfl, q1, q2⟩ := q.sqT;cases r';obtain ⟨its2, hv', p2, _⟩ := I.tuple q1;have l2 := q2.length;have l4 := hv'.length;have el : its.toArray.size = ts.length := by simp only [aKf]; lia
    have el2 : its2.toArray.size = us.length := by simp only [aKf]; lia
    have same : ((List.range (min its.toArray.size its2.toArray.size)).all (fun j => match ts[j]?, us[j]? with | some a, some b => eqT a b | _, _ => false) && its.toArray.size == its2.toArray.size) = eqL ts us := by
     by_cases hl : ts.length = us.length
     ·rw [el, el2, <- hl, Nat.min_self, <- AM ts us hl, beq_self_eq_true, Bool.and_true]
     ·rw [AL ts us hl, el, el2, beq_false_of_ne hl, Bool.and_false]
    have e1 := RcAt.tuples p1 p2 hu' (parts hd' (by simp [dep] at hdu; lia) h2 q2 hv hv');have e2 := RcNeAt.tuples p1 p2 hu' (parts hd' (by simp [dep] at hdu; lia) h2 q2 hv hv');rw [same] at e1 e2;have rc : RcAt Ar s (.ref a) (.ref b) (eqT (.tup ts) (.tup us)) /\ RcNeAt Ar s (.ref a) (.ref b) (!eqT (.tup ts) (.tup us)) := by
     rw [eqT]; exact ⟨e1, e2⟩
    refine ⟨?_, rc⟩
    by_cases hab : a = b
    ·subst hab
     rw [CP I (.tup ts) (.tup us) (by lia) hdu h q];exact EqAt.same _
    ·exact EqAt.of_refs hab rc.1
end
def GOp (K:PySem.W.Frag) (r:R2) (F:T->T->Option T):Prop:=∀ x y t,F x y=some t->scal t=true/\∀ (H:Hp) (A A':Addr->Prop) (vx vy:V),Rep K H A x vx->Rep K H A' y vy->∀ Q:VK,Q (tv t) H->r vx vy H Q
theorem SOp.gop {K:PySem.W.Frag}{r:R2}{F:T->T->Option T}(h:SOp r F):GOp K r F:=fun x y t e=>by
 obtain⟨sx,sy,st,k⟩:=h x y t e;refine⟨st,fun H A A' vx vy rx ry Q q=>?_⟩;rw[LA sx] at rx;rw[LA sy] at ry;subst rx ry;exact k H Q q
def isB:T->Option Bool
 | .bl b=>some b
 | _=>none
def fB (f:Rho->Option T):Rho->Option Bool:=fun ρ=>(f ρ).bind isB
theorem BK {t:T}{b:Bool}(h:isB t=some b):t=.bl b:=by
 cases t<;>first | (cases h;done) | skip
 cases (aK6 h);rfl
section
variable {X:Cx}{B:Hp}{fl:List Nat}{a b c e:Expr}{es:List Expr}{f g:Rho->Option T}{fa:Rho->Option (List T)}{p q:Rho->Option Bool}{n n':Bool}{l l':Nat}{pos:Pos}{op:CmpOp}{r:R2}{F:T->T->Option T}
theorem FU (ho:OpR X (compareOp op) r) (hF:GOp X.K r F) (ha:GE X B fl a f n l) (hb:GE X B fl b g n' l') (hm:behindInMarks op b=false):GE X B fl (.Compare a [op] [b] pos) (f2 f g F) true 3:=by
 refine bD (JJ ho ha hb hm) ?_;rintro σ H Q ⟨Ex,ρ,M,t,S,hf,q⟩;obtain⟨x,hx,hf⟩:=bind_some hf;obtain⟨y,hy,hf⟩:=bind_some hf;obtain⟨st,k⟩:=hF x y t hf;refine⟨Ex,ρ,M,x,S,hx,fun vx H1 s1 rx=>⟨Ex,ρ,M,y,S.grow s1,hy,fun vy H2 s2 ry=>?_⟩⟩;exact k H2 _ _ vx vy ((rx.rep S).grow s2) (ry.rep (S.grow s1)) Q (q _ H2 (s1.trans s2) ((aL.scal st).mpr rfl))
theorem mK (ho:OpR X (compareOp op) r) (hF:GOp X.K r F) (ha:GE X B fl a f n l) (hb:GE X B fl b g n' l') (hm:behindInMarks op b=false):GT X B fl (.Compare a [op] [b] pos) (fB (f2 f g F)):=by
 refine CL (aDy ho ha hb hm) ?_;rintro σ H Q ⟨Ex,ρ,M,c,S,hf,q⟩;obtain⟨t,hf,hc⟩:=bind_some hf;cases BK hc;obtain⟨x,hx,hf⟩:=bind_some hf;obtain⟨y,hy,hf⟩:=bind_some hf;obtain⟨st,k⟩:=hF x y _ hf;refine⟨Ex,ρ,M,x,S,hx,fun vx H1 s1 rx=>⟨Ex,ρ,M,y,S.grow s1,hy,fun vy H2 s2 ry=>?_⟩⟩;exact k H2 _ _ vx vy ((rx.rep S).grow s2) (ry.rep (S.grow s1)) _ ⟨c,rfl,q H2 (s1.trans s2)⟩
def oEq:T->T->Option T:=fun x y=>if max (dep x) (dep y)<=60 then some (.bl (eqT x y)) else none
def oNe:T->T->Option T:=fun x y=>if max (dep x) (dep y)<=60 then some (.bl (!eqT x y)) else none
def yA (K:PySem.W.Frag) (neg:Bool):R2:=fun x y H Q=>∃ t u A A',max (dep t) (dep u)<=60/\Rep K H A t x/\Rep K H A' u y/\Q (.bl (if neg then !eqT t u else eqT t u)) H
theorem JC (hu:X.A.units+64<cLine):OpR X (compareOp .Eq) (yA X.K false):=by
 intro pins s σ H x y v u Q I rx ry h;obtain⟨t,u',A,A',hd,r1,r2,q⟩:=h;exact (FF I 60 X.A t u' x y v u (aMg _) (by lia) (by lia) (by lia) r1 r2 rx ry).2.1 _ _ _ _ ⟨.bl _,H,I,rfl,q⟩
theorem aCg (hu:X.A.units+64<cLine):OpR X (compareOp .NotEq) (yA X.K true):=by
 intro pins s σ H x y v u Q I rx ry h;obtain⟨t,u',A,A',hd,r1,r2,q⟩:=h;exact (FF I 60 X.A t u' x y v u (aMg _) (by lia) (by lia) (by lia) r1 r2 rx ry).2.2 _ _ _ _ ⟨.bl _,H,I,rfl,q⟩
theorem GH {K:PySem.W.Frag}:GOp K (yA K false) oEq:=by
 intro x y t h;unfold oEq at h;split at h
 ·rename_i hd
  cases h;exact⟨rfl,fun H A A' vx vy rx ry Q q=>⟨x,y,A,A',hd,rx,ry,q⟩⟩
 ·cases h
theorem WK {K:PySem.W.Frag}:GOp K (yA K true) oNe:=by
 intro x y t h;unfold oNe at h;split at h
 ·rename_i hd
  cases h;exact⟨rfl,fun H A A' vx vy rx ry Q q=>⟨x,y,A,A',hd,rx,ry,q⟩⟩
 ·cases h
theorem rX (hu:X.A.units+64<cLine) (ha:GE X B fl a f n l) (hb:GE X B fl b g n' l'):GE X B fl (.Compare a [.Eq] [b] pos) (f2 f g oEq) true 3:=FU (JC hu) GH ha hb (gO _)
theorem qF (hu:X.A.units+64<cLine) (ha:GE X B fl a f n l) (hb:GE X B fl b g n' l'):GT X B fl (.Compare a [.Eq] [b] pos) (fB (f2 f g oEq)):=mK (JC hu) GH ha hb (gO _)
theorem mL (hu:X.A.units+64<cLine) (ha:GE X B fl a f n l) (hb:GE X B fl b g n' l'):GT X B fl (.Compare a [.NotEq] [b] pos) (fB (f2 f g oNe)):=mK (aCg hu) WK ha hb (gO _)
theorem wZ (ha:GE X B fl a f n l) (hb:GE X B fl b g n' l'):GT X B fl (.Compare a [.Lt] [b] pos) (fB (f2 f g oLt)):=mK JD (SOp.gop (jA (fun _ _=>rfl) fun _ _=>rfl)) ha hb (gO _)
theorem wY (ha:GE X B fl a f n l) (hb:GE X B fl b g n' l'):GT X B fl (.Compare a [.Gt] [b] pos) (fB (f2 f g oGt)):=mK aCc (SOp.gop (jA (fun _ _=>rfl) fun _ _=>rfl)) ha hb (gO _)
theorem GY (ha:GE X B fl a f n l) (hb:GE X B fl b g n' l'):GT X B fl (.Compare a [.GtE] [b] pos) (fB (f2 f g oGe)):=mK aCb (SOp.gop (jA (fun _ _=>rfl) fun _ _=>rfl)) ha hb (gO _)
def qL:T->Bool
 | .non=>true
 | _=>false
theorem KY {K:PySem.W.Frag}{H:Hp}{A:Addr->Prop}{t:T}{v:V}(h:Rep K H A t v):decide (v=.non)=qL t:=by
 cases t with
 | non=>cases (show _=_ from h);rfl
 | bl _=>cases (show _=_ from h);rfl
 | int _=>cases (show _=_ from h);rfl
 | str _=>cases (show _=_ from h);rfl
 | lst _=>obtain⟨a,xs,rfl,_⟩:=h;rfl
 | tup _=>obtain⟨a,xs,rfl,_⟩:=h;rfl
 | exc _=>obtain⟨a,C,rfl,_⟩:=h;rfl
def oIs:T->T->Option T:=fun x y=>if qL y then some (.bl (qL x)) else none
def xO:T->T->Option T:=fun x y=>if qL y then some (.bl (!qL x)) else none
theorem HU {y:T}(h:qL y=true):y=.non:=by cases y<;>first | rfl | cases h
theorem WH {K:PySem.W.Frag}:GOp K (fun x y H Q=>y=.non/\Q (.bl (decide (x=.non))) H) oIs:=by
 intro x y t h;unfold oIs at h;split at h
 ·rename_i hy
  cases h;cases HU hy;exact⟨rfl,fun H A A' vx vy rx ry Q q=>⟨ry,by rw[KY rx];exact q⟩⟩
 ·cases h
theorem WI {K:PySem.W.Frag}:GOp K (fun x y H Q=>y=.non/\Q (.bl (!decide (x=.non))) H) xO:=by
 intro x y t h;unfold xO at h;split at h
 ·rename_i hy
  cases h;cases HU hy;exact⟨rfl,fun H A A' vx vy rx ry Q q=>⟨ry,by rw[KY rx];exact q⟩⟩
 ·cases h
theorem VQ (ha:GE X B fl a f n l) (hb:GE X B fl b g n' l'):GE X B fl (.Compare a [.Is] [b] pos) (f2 f g oIs) true 3:=FU aCd WH ha hb (gO _)
theorem WZ (ha:GE X B fl a f n l) (hb:GE X B fl b g n' l'):GT X B fl (.Compare a [.IsNot] [b] pos) (fB (f2 f g xO)):=mK aCh WI ha hb (gO _)
def vS:T->Option Bool
 | .non=>some false
 | .bl b=>some b
 | .int i=>some (i != 0)
 | .lst ts=>some (!ts.isEmpty)
 | .tup ts=>some (!ts.isEmpty)
 | .str _=>none
 | .exc _=>none
theorem aEq {K:PySem.W.Frag}{H:Hp}{A:Addr->Prop}{t:T}{v:V}{k:Bool}(h:Rep K H A t v) (e:vS t=some k):zT K v H k:=by
 cases t with
 | non=>cases (show _=_ from h);exact (aK6 e).symm
 | bl _=>cases (show _=_ from h);exact (aK6 e).symm
 | int _=>cases (show _=_ from h);exact (aK6 e).symm
 | str _=>cases e
 | exc _=>cases e
 | lst ts=>
  obtain⟨a,xs,rfl,h1,h2⟩:=h.sqL;have hl:=h2.length;refine .inl ⟨xs,h1,(aK6 e).symm.trans ?_⟩;cases ts<;>cases xs<;>simp at hl ⊢
 | tup ts=>
  obtain⟨a,xs,rfl,h1,h2⟩:=h.sqT;have hl:=h2.length;refine .inr (.inl ⟨xs,h1,(aK6 e).symm.trans ?_⟩);cases ts<;>cases xs<;>simp at hl ⊢
def fT (f:Rho->Option T):Rho->Option Bool:=fun ρ=>(f ρ).bind vS
theorem eU (h:GE X B fl e f n l) (he:∀ whole,isTrue e X.env whole=(do let v <- whole;standAt e.pos;holding [v] (truthy v)):=by intro _;rfl):GT X B fl e (fT f):=by
 refine CL (aE0 h he) ?_;rintro σ H Q ⟨Ex,ρ,M,c,S,hf,q⟩;obtain⟨t,hf,hc⟩:=bind_some hf;exact⟨Ex,ρ,M,t,S,hf,fun v H1 s1 r1=>⟨c,aEq (r1.rep S) hc,q H1 s1⟩⟩
def gQ (p:Rho->Option Bool):Rho->Option Bool:=fun ρ=>(p ρ).map (!·)
def sX (p q:Rho->Option Bool):Rho->Option Bool:=fun ρ=>(p ρ).bind fun b=>if b then q ρ else some false
def pOr (p q:Rho->Option Bool):Rho->Option Bool:=fun ρ=>(p ρ).bind fun b=>if b then some true else q ρ
theorem mO (h:GT X B fl a p):GT X B fl (.UnaryOp .Not a pos) (gQ p):=by
 refine CL (aDz h) ?_;rintro σ H Q ⟨Ex,ρ,M,c,S,hf,q⟩;unfold gQ at hf;cases e:p ρ with
 | none=>rw[e] at hf;cases hf
 | some d=>
  rw[e] at hf;cases (aK6 hf);exact⟨Ex,ρ,M,d,S,e,fun H1 s1=>q H1 s1⟩
theorem BF (h:GT X B fl a p):GW X B fl (.BoolOp .And [a] pos) p:=aE2 h
theorem xC (h:GT X B fl a p):GW X B fl (.BoolOp .Or [a] pos) p:=aE4 h
theorem BE (h:GT X B fl a p) (k:GW X B fl (.BoolOp .And (b::es) pos) q):GW X B fl (.BoolOp .And (a::b::es) pos) (sX p q):=by
 refine KG (aE1 h k) ?_;rintro σ H Q ⟨Ex,ρ,M,c,S,hf,q⟩;obtain⟨d,e,hf⟩:=bind_some hf;refine⟨Ex,ρ,M,d,S,e,fun H1 s1=>?_⟩;cases d with
 | true=>exact jN ⟨Ex,ρ,M,c,S.grow s1,hf,fun H2 s2=>q H2 (s1.trans s2)⟩
 | false=>
  cases (aK6 hf);exact jM (q H1 s1)
theorem xB (h:GT X B fl a p) (k:GW X B fl (.BoolOp .Or (b::es) pos) q):GW X B fl (.BoolOp .Or (a::b::es) pos) (pOr p q):=by
 refine KG (aE3 h k) ?_;rintro σ H Q ⟨Ex,ρ,M,c,S,hf,q⟩;obtain⟨d,e,hf⟩:=bind_some hf;refine⟨Ex,ρ,M,d,S,e,fun H1 s1=>?_⟩;cases d with
 | false=>exact jM ⟨Ex,ρ,M,c,S.grow s1,hf,fun H2 s2=>q H2 (s1.trans s2)⟩
 | true=>
  cases (aK6 hf);exact jN (q H1 s1)
theorem GW.gt (h:GW X B fl e p):GT X B fl e p:=h.pt
def zI (f:Rho->Option T):Rho->Option T:=fun ρ=>((f ρ).bind isB).map fun b=>.bl (!b)
def vT (f g:Rho->Option T):Rho->Option T:=fun ρ=>((f ρ).bind isB).bind fun b=>if b then g ρ else some (.bl false)
def vOr (f g:Rho->Option T):Rho->Option T:=fun ρ=>((f ρ).bind isB).bind fun b=>if b then some (.bl true) else g ρ
theorem AX {op:BoolOp}(h:GE X B fl a f n l):GE X B fl (.BoolOp op [a] pos) f n l:=aD1 h
theorem VV (h:GE X B fl a f n l):GE X B fl (.UnaryOp .Not a pos) (zI f) true 3:=by
 refine bD (aD0 h) ?_;rintro σ H Q ⟨Ex,ρ,M,t,S,hf,q⟩;unfold zI at hf;cases e:(f ρ).bind isB with
 | none=>rw[e] at hf;cases hf
 | some d=>
  rw[e] at hf;cases (aK6 hf);obtain⟨u,hu,hd⟩:=bind_some e;cases BK hd;exact⟨Ex,ρ,M,_,S,hu,fun v H1 s1 r1=>⟨d,(aL.scal rfl).mp r1,q _ H1 s1 ((aL.scal rfl).mpr rfl)⟩⟩
theorem AV (h:GE X B fl a f n l) (k:GE X B fl (.BoolOp .And (b::es) pos) g n' l'):GE X B fl (.BoolOp .And (a::b::es) pos) (vT f g) false l':=by
 refine bD (aCs h k) ?_;rintro σ H Q ⟨Ex,ρ,M,t,S,hf,q⟩;obtain⟨d,e,hf⟩:=bind_some hf;obtain⟨u,hu,hd⟩:=bind_some e;cases BK hd;refine⟨Ex,ρ,M,_,S,hu,fun v H1 s1 r1=>⟨d,(aL.scal rfl).mp r1,?_⟩⟩;cases d with
 | true=>exact jN ⟨Ex,ρ,M,t,S.grow s1,hf,fun v H2 s2 r2=>q v H2 (s1.trans s2) (by have z:=(r2.rep (S.grow s1)).weak fun b x=>Ad.since s1 x;cases t<;>exact z)⟩
 | false=>
  cases (aK6 hf);exact jM (q _ H1 s1 ((aL.scal rfl).mpr rfl))
def fIf (p:Rho->Option Bool) (f g:Rho->Option T):Rho->Option T:=fun ρ=>(p ρ).bind fun b=>if b then f ρ else g ρ
def hV:T->Option T
 | .int i=>some (.int (-i))
 | _=>none
theorem wQ (h:GE X B fl a f n l):GE X B fl (.UnaryOp .USub a pos) (f1 f hV) true 3:=by
 refine bD (aD4 aH5 h) ?_;rintro σ H Q ⟨Ex,ρ,M,t,S,hf,q⟩;obtain⟨x,hx,hg⟩:=bind_some hf;cases x<;>first | (cases hg;done) | skip
 cases (aK6 hg);exact⟨Ex,ρ,M,_,S,hx,fun v H1 s1 r1=>⟨_,(aL.scal rfl).mp r1,q _ H1 s1 ((aL.scal rfl).mpr rfl)⟩⟩
theorem aF:GA X B fl [] aE 3:=xW hX fun σ H Q ⟨Ex,ρ,M,ts,S,hf,q⟩=>q _ H (aN.refl H) (by cases (aK6 hf);rfl)
theorem aD (ha:GE X B fl e f n l) (hr:GA X B fl es fa l') (hs:starEach (e::es) X.env=(false,eval e X.env)::starEach es X.env:=by rfl):GA X B fl (e::es) (aC f fa) (min l l'):=by
 refine xW (eI ha hr hs) ?_;rintro σ H Q ⟨Ex,ρ,M,ts,S,hf,q⟩;obtain⟨x,hx,hf⟩:=bind_some hf;obtain⟨xs,hxs,hf⟩:=bind_some hf;cases (aK6 hf);refine⟨Ex,ρ,M,x,S,hx,fun v H1 s1 r1=>⟨Ex,ρ,M,xs,S.grow s1,hxs,fun vs H2 s2 r2=>q _ H2 (s1.trans s2) ⟨v,vs,rfl,?_,?_⟩⟩⟩
 ·exact ((r1.rep S).grow s2).weak fun b x=>x.le (Nat.min_le_left _ _)
 ·exact r2.weak fun b x=>(x.since s1).le (Nat.min_le_right _ _)
def cap:Nat:=1000000
theorem gH {n:Nat}(h:n<=cap):n<sizeLine:=by rw[sizeLine_eq];unfold cap at h;lia
def fK (fa:Rho->Option (List T)):Rho->Option T:=fun ρ=>(fa ρ).bind fun ts=>if ts.length<=cap then some (.lst ts) else none
def qC (fa:Rho->Option (List T)):Rho->Option T:=fun ρ=>(fa ρ).bind fun ts=>if ts.length<=cap then some (.tup ts) else none
theorem gK (ha:GA X B fl es fa l):GE X B fl (.List es pos) (fK fa) true l:=by
 refine bD (aCy ha) ?_;rintro σ H Q ⟨Ex,ρ,M,t,S,hf,q⟩;obtain⟨ts,hts,hf⟩:=bind_some hf;split at hf
 ·rename_i hl
  cases (aK6 hf);refine⟨Ex,ρ,M,ts,S,hts,fun vs H1 s1 r1=>⟨by rw[<- r1.length];exact aMf (gH hl),fun p hp=>q _ _ (s1.trans (cL hp _)) (aL.laid s1 hp r1)⟩⟩
 ·cases hf
theorem VZ {k:Nat}(ha:GA X B fl es fa l):GE X B fl (.Tuple es k pos) (qC fa) true l:=by
 refine bD (CD ha) ?_;rintro σ H Q ⟨Ex,ρ,M,t,S,hf,q⟩;obtain⟨ts,hts,hf⟩:=bind_some hf;split at hf
 ·rename_i hl
  cases (aK6 hf);refine⟨Ex,ρ,M,ts,S,hts,fun vs H1 s1 r1=>⟨by rw[<- r1.length];exact aMf (gH hl),fun p hp=>q _ _ (s1.trans (cL hp _)) ?_⟩⟩;have hp0:=s1.free hp;exact⟨p,vs,rfl,.inl (.inl cU),r1.grow (cL hp _)⟩
 ·cases hf
def oIx:T->T->Option T
 | .lst ts,.int i=>atI ts i
 | .tup ts,.int i=>atI ts i
 | _,_=>none
theorem RepL.at {K:PySem.W.Frag}{H:Hp}{A:Addr->Prop}{ts:List T}{xs:List V}{i:Int}{t:T}(h:RepL K H A ts xs) (e:atI ts i=some t):∃ x,atI xs i=some x/\Rep K H A t x:=by
 unfold atI at e ⊢;rw[<- h.length];cases q:ixN ts.length i with
 | none=>rw[q] at e;cases e
 | some j=>rw[q] at e;exact h.get e
theorem aW (ha:GE X B fl a f n l) (hb:GE X B fl b g n' l') (hs:DZ b:=by exact fun _ _=>rfl):GE X B fl (.Subscript a b pos) (f2 f g oIx) false l:=by
 refine bD (aCw YR ha hb hs) ?_;rintro σ H Q ⟨Ex,ρ,M,t,S,hf,q⟩;obtain⟨x,hx,hf⟩:=bind_some hf;obtain⟨y,hy,hf⟩:=bind_some hf;refine⟨Ex,ρ,M,x,S,hx,fun vx H1 s1 rx=>⟨Ex,ρ,M,y,S.grow s1,hy,fun vy H2 s2 ry=>?_⟩⟩;have rx':=(rx.rep S).grow s2;have ry':=ry.rep (S.grow s1);cases y<;>first | (cases x<;>cases hf;done) | skip
 rename_i i;cases (show _=_ from ry');cases x with
 | lst ts=>
  obtain⟨p,xs,rfl,h1,h2⟩:=rx'.sqL;obtain⟨z,hz,rz⟩:=h2.at hf;exact .inl ⟨p,xs,i,z,rfl,rfl,h1,hz,q _ _ (s1.trans s2) (by cases t<;>exact rz)⟩
 | tup ts=>
  obtain⟨p,xs,rfl,h1,h2⟩:=rx'.sqT;obtain⟨z,hz,rz⟩:=h2.at hf;exact .inr (.inl ⟨p,xs,i,z,rfl,rfl,h1,hz,q _ _ (s1.trans s2) (by cases t<;>exact rz)⟩)
 | non=>cases hf
 | bl _=>cases hf
 | int _=>cases hf
 | str _=>cases hf
 | exc _=>cases hf
def cH:List T->Option T
 | [.lst ts]=>some (.int ts.length)
 | [.tup ts]=>some (.int ts.length)
 | _=>none
def aG (fa:Rho->Option (List T)) (F:List T->Option T):Rho->Option T:=fun ρ=>(fa ρ).bind F
theorem dN {K:PySem.W.Frag}{H:Hp}{A:Addr->Prop}{t:T}{xs:List V}(h:RepL K H A [t] xs):∃ x,xs=[x]/\Rep K H A t x:=by
 obtain⟨x,r,e,h1,h2⟩:=h;cases (show _=[] from h2);exact⟨x,e,h1⟩
theorem dC {x:Str}{p':Pos}(hx:x = "len") (hg:Gl X x) (hm:X.mg x=none) (ha:GA X B fl (e::es) fa l)
  (he:starEach (e::es) X.env=(false,eval e X.env)::starEach es X.env:=by rfl) (hpl:(backTo pos (starEach es X.env)).any (·.1)=false:=by rfl):GE X B fl (.Call (.Name x p') (e::es) [] pos) (aG fa cH) true 3:=by
 subst hx;refine bD (jS RF hg hm PySem.boot_len ha (by decide) (by decide) he hpl) ?_;rintro σ H Q ⟨Ex,ρ,M,t,S,hf,q⟩;obtain⟨ts,hts,hf⟩:=bind_some hf;refine⟨Ex,ρ,M,ts,S,hts,fun vs H1 s1 r1=>?_⟩
 match ts,hf with
 | [.lst us],hf=>
  cases (aK6 hf);obtain⟨y,rfl,ry⟩:=dN r1;obtain⟨p,xs,rfl,h1,h2⟩:=ry.sqL;exact⟨p,xs,rfl,.inl h1,by rw[<- h2.length];exact q _ H1 s1 ((aL.scal rfl).mpr rfl)⟩
 | [.tup us],hf=>
  cases (aK6 hf);obtain⟨y,rfl,ry⟩:=dN r1;obtain⟨p,xs,rfl,h1,h2⟩:=ry.sqT;exact⟨p,xs,rfl,.inr h1,by rw[<- h2.length];exact q _ H1 s1 ((aL.scal rfl).mpr rfl)⟩
def mV:List T->Option T
 | [.lst ts]=>some (.lst ts)
 | [.tup ts]=>some (.lst ts)
 | _=>none
theorem wP {x:Str}{p':Pos}(hx:x = "list") (hg:Gl X x) (hm:X.mg x=none) (ha:GA X B fl (e::es) fa l)
  (he:starEach (e::es) X.env=(false,eval e X.env)::starEach es X.env:=by rfl) (hpl:(backTo pos (starEach es X.env)).any (·.1)=false:=by rfl):GE X B fl (.Call (.Name x p') (e::es) [] pos) (aG fa mV) true l:=by
 subst hx;refine bD (JI RG hg hm PyProof.Rows.boot_list ha (by decide) (by decide) he hpl) ?_;rintro σ H Q ⟨Ex,ρ,M,t,S,hf,q⟩;obtain⟨ts,hts,hf⟩:=bind_some hf;refine⟨Ex,ρ,M,ts,S,hts,fun vs H1 s1 r1=>?_⟩
 match ts,hf with
 | [.lst us],hf=>
  cases (aK6 hf);obtain⟨y,rfl,ry⟩:=dN r1;obtain⟨p,xs,rfl,h1,h2⟩:=ry.sqL;exact⟨p,xs,rfl,.inl h1,fun l hl=>q _ _ (s1.trans (cL hl _)) (aL.laid s1 hl h2)⟩
 | [.tup us],hf=>
  cases (aK6 hf);obtain⟨y,rfl,ry⟩:=dN r1;obtain⟨p,xs,rfl,h1,h2⟩:=ry.sqT;exact⟨p,xs,rfl,.inr h1,fun l hl=>q _ _ (s1.trans (cL hl _)) (aL.laid s1 hl h2)⟩
end
section
variable {X:Cx}{B:Hp}{fl:List Nat}{a b c e tg iter elt:Expr}{es ifs:List Expr}{f g:Rho->Option T}{fa:Rho->Option (List T)}{p q:Rho->Option Bool}{n n':Bool}{l l':Nat}{pos:Pos}
def aE7 (K:PySem.W.Frag):R2:=fun x y H Q=>∃ l b xs zs,x=.ref l/\y=.ref b/\SqL K H l xs/\SqL K H b zs/\xs.length+zs.length<=sizeLine/\∀ p,H p=none->Q (.ref p) (upd H p (.lst (xs++zs)))
theorem aCa:OpR X (binaryOp .Add) (aE7 X.K):=by
 intro pins s σ H x y v u Q I rx ry h;obtain⟨l,b,xs,zs,rfl,rfl,hH,hB,hz,q⟩:=h;cases rx;cases ry;obtain⟨its,r,p1,z⟩:=I.list hH;obtain⟨its2,r2,p2,z2⟩:=I.list hB;have hl:=r.length;have hl2:=r2.length;obtain⟨⟨cls,dd,data,sl⟩,n,e,hc,hd,hq⟩:=p1;obtain⟨⟨cls2,dd2,data2,sl2⟩,n2,e2,hc2,hd2,hq2⟩:=p2;simp only at hc hd hq hc2 hd2 hq2;subst hc hd hq hc2 hd2 hq2;have ea:its.toArray++its2.toArray=(its++its2).toArray:=by simp
 refine concat_meets ⟨_,e,rfl⟩ ⟨_,e2,rfl⟩ noFill_list_add seq_list_add PySem.F.slot_list_add PySem.F.entry_list_add (PySem.F.args_list_add_2 _ _) (list_addW l b its.toArray its2.toArray n n2 none none sl sl2 (by simp only[aKf];omega)) ⟨e,e2,?_⟩;rw[ea];exact⟨.ref _,_,I.lnew (t':=s.toks) (r.append r2) (by rw[aLl];omega),rfl,q _ I.fresh⟩
def qN:T->T->Option T
 | .lst xs,.lst ys=>if xs.length+ys.length<=cap then some (.lst (xs++ys)) else none
 | _,_=>none
theorem VJ (ha:GE X B fl a f n l) (hb:GE X B fl b g n' l'):GE X B fl (.BinOp a .Add b pos) (f2 f g qN) true (min l l'):=by
 refine bD (CC aCa ha hb) ?_;rintro σ H Q ⟨Ex,ρ,M,t,S,hf,q⟩;obtain⟨x,hx,hf⟩:=bind_some hf;obtain⟨y,hy,hf⟩:=bind_some hf;refine⟨Ex,ρ,M,x,S,hx,fun vx H1 s1 rx=>⟨Ex,ρ,M,y,S.grow s1,hy,fun vy H2 s2 ry=>?_⟩⟩;have rx':=(rx.rep S).grow s2;have ry':=ry.rep (S.grow s1);cases x<;>first | (cases hf;done) | skip
 cases y<;>first | (cases hf;done) | skip
 rename_i xs ys;unfold qN at hf;dsimp only at hf;split at hf
 ·rename_i hl
  cases (aK6 hf);obtain⟨p1,us,rfl,h1,h2⟩:=rx'.sqL;obtain⟨p2,ws,rfl,k1,k2⟩:=ry'.sqL;refine⟨p1,p2,us,ws,rfl,rfl,h1,k1,?_,fun p hp=>q _ _ ((s1.trans s2).trans (cL hp _)) (aL.laid (s1.trans s2) hp (RepL.app (h2.weak fun b x=>x.le (Nat.min_le_left _ _)) (k2.weak fun b x=>(x.since s1).le (Nat.min_le_right _ _))))⟩;rw[<- h2.length,<- k2.length];exact aMf (gH hl)
 ·cases hf
def aEg:R2:=fun x y H Q=>∃ l k v,x=.ref l/\y=.int k/\H l=some (.lst [v]) /\ -(2^63)<=k/\k<2^63/\k.toNat<=sizeLine/\∀ p,H p=none->Q (.ref p) (upd H p (.lst (List.replicate k.toNat v)))
theorem KZ {α:Type}(v:α):∀ k:Nat,(List.replicate k [v]).flatten=List.replicate k v
 | 0=>rfl
 | k+1=>by rw[aMe,List.flatten_cons,KZ v k,aMe];rfl
theorem aCk:OpR X (binaryOp .Mult) aEg:=by
 intro pins s σ H x y v u Q I rx ry h;obtain⟨l,k,w,rfl,rfl,hH,h1,h2,hz,q⟩:=h;exact aCj pins s σ H _ _ _ _ Q I rx ry ⟨l,k,[w],rfl,rfl,hH,h1,h2,by simpa using hz,fun p hp=>by rw[KZ];exact q p hp⟩
def xT:T->T->Option T
 | .lst [t],.int k=>if 0<=k/\k<=cap then some (.lst (List.replicate k.toNat t)) else none
 | _,_=>none
theorem KU {K:PySem.W.Frag}{H:Hp}{A:Addr->Prop}{t:T}{v:V}(h:Rep K H A t v):∀ k:Nat,RepL K H A (List.replicate k t) (List.replicate k v)
 | 0=>rfl
 | k+1=>⟨v,_,rfl,h,KU h k⟩
theorem VW (ha:GE X B fl a f true l) (hb:GE X B fl b g n' l'):GE X B fl (.BinOp a .Mult b pos) (f2 f g xT) true l:=by
 refine bD (CC aCk ha hb) ?_;rintro σ H Q ⟨Ex,ρ,M,t,S,hf,q⟩;obtain⟨x,hx,hf⟩:=bind_some hf;obtain⟨y,hy,hf⟩:=bind_some hf;refine⟨Ex,ρ,M,x,S,hx,fun vx H1 s1 rx=>⟨Ex,ρ,M,y,S.grow s1,hy,fun vy H2 s2 ry=>?_⟩⟩
 match x,y,hf with
 | .lst [z],.int k,hf=>
  unfold xT at hf;dsimp only at hf;split at hf
  ·rename_i hk
   cases (aK6 hf);obtain⟨p1,us,rfl,h0,h1,h2⟩:=rx;obtain⟨w,rfl,rw'⟩:=dN h2;cases (show vy=V.int k from (aL.scal rfl).mp ry);have hc:k.toNat<=cap:=by omega
   refine⟨p1,k,w,rfl,rfl,s2 _ _ h1,by omega,by have:=hk.2;unfold cap at this;omega,aMf (gH hc),fun p hp=>q _ _ ((s1.trans s2).trans (cL hp _)) (aL.laid (s1.trans s2) hp (KU ((rw'.grow s2).weak fun b x=>x.1) _))⟩
  ·cases hf
def cM {α:Type} (xs:List α) (lo hi st:Option Int):List α:=
 (sliceRange (sliceBounds lo hi st xs.length).1 (sliceBounds lo hi st xs.length).2.1 (sliceBounds lo hi st xs.length).2.2).filterMap (xs[·]?)
theorem KS {K:PySem.W.Frag}{H:Hp}{A:Addr->Prop}{ts:List T}{xs:List V}(h:RepL K H A ts xs):∀ is:List Nat,RepL K H A (is.filterMap (ts[·]?)) (is.filterMap (xs[·]?))
 | []=>rfl
 | i::is=>by
  have ih:=KS h is;have hl:=h.length;cases e:ts[i]? with
  | none=>
   have e':xs[i]?=none:=by
    rw[List.getElem?_eq_none_iff] at e ⊢;omega
   rw[aL7,aL7,e,e'];exact ih
  | some t=>
   obtain⟨x,ex,rx⟩:=h.get e;rw[aL7,aL7,e,ex];exact⟨x,_,rfl,rx,ih⟩
theorem aEp {K:PySem.W.Frag}{H:Hp}{A:Addr->Prop}{ts:List T}{xs:List V}(h:RepL K H A ts xs) (lo hi st:Option Int):RepL K H A (cM ts lo hi st) (cM xs lo hi st):=by
 unfold cM;rw[h.length];exact KS h _
theorem NA {xs:List V}{us:List Value}(h:aK xs us):∀ is:List Nat,aK (is.filterMap (xs[·]?)) (is.filterMap (us[·]?))
 | []=>.nil
 | i::is=>by
  have ih:=NA h is;cases e:xs[i]? with
  | none=>
   rw[aL7,aL7,e,h.none_of e];exact ih
  | some t=>
   obtain⟨x,ex,rx⟩:=h.get e;rw[aL7,aL7,e,ex];exact .cons rx ih
def GO (X:Cx) (B:Hp) (fl:List Nat) (e:Option Expr) (f:Rho->Option (Option Int)):Prop:=
 PO X e (fun σ H Q=>∃ Ex ρ M o,Sl X.K B fl Ex σ ρ M H/\f ρ=some o/\∀ H',aN H H'->Q o H')
def qQ:Rho->Option (Option Int):=fun _=>some none
def isI:T->Option Int
 | .int i=>some i
 | _=>none
def sP (f:Rho->Option T):Rho->Option (Option Int):=fun ρ=>((f ρ).bind isI).map some
theorem wW:GO X B fl none qQ:=fun pins s σ H Q I ⟨_,_,_,o,_,hf,q⟩=>aDg pins s σ H Q I (by cases (aK6 hf);exact q H (aN.refl H))
theorem GF (h:GE X B fl e f n l):GO X B fl (some e) (sP f):=by
 intro pins s σ H Q I hq;obtain⟨Ex,ρ,M,o,S,hf,q⟩:=hq;refine aDh h pins s σ H Q I ?_;unfold sP at hf;cases e1:(f ρ).bind isI with
 | none=>rw[e1] at hf;cases hf
 | some i=>
  rw[e1] at hf;cases (aK6 hf);obtain⟨t,ht,hi⟩:=bind_some e1;cases t<;>first | (cases hi;done) | skip
  cases (aK6 hi);exact⟨Ex,ρ,M,_,S,ht,fun v H1 s1 r1=>⟨i,(aL.scal rfl).mp r1,q H1 s1⟩⟩
def wH (f:Rho->Option T) (lo hi st:Rho->Option (Option Int)):Rho->Option T:=fun ρ=>(f ρ).bind fun x=>(lo ρ).bind fun a=>(hi ρ).bind fun b=>(st ρ).bind fun c=>
 match x with
 | .lst ts=>if c=some 0 then none else some (.lst (cM ts a b c))
 | _=>none
theorem FV {lo hi st:Option Expr}{fl' fh fs:Rho->Option (Option Int)}{p2:Pos}(he:GE X B fl e f n l) (hl:GO X B fl lo fl') (hh:GO X B fl hi fh) (hst:GO X B fl st fs)
  (hsub:∀ (v sl:Value),∃ ops,subscripted (.Slice lo hi st p2) false v sl=operate ops (getItem v sl):=by intro _ _;first | exact⟨_,rfl⟩ | (refine⟨_,?_⟩;with_unfolding_all rfl)):
  GE X B fl (.Subscript e (.Slice lo hi st p2) pos) (wH f fl' fh fs) true l:=by
 intro pins s σ H Q I hq;obtain⟨Ex,ρ,M,t,S,hf,q⟩:=hq;obtain⟨x,hx,hf⟩:=bind_some hf;obtain⟨a,ha,hf⟩:=bind_some hf;obtain⟨b,hb,hf⟩:=bind_some hf;obtain⟨c,hc,hf⟩:=bind_some hf;have hx2:∃ ts,x=.lst ts:=by
  cases x<;>first | (cases hf;done) | exact⟨_,rfl⟩
 obtain⟨ts,rfl⟩:=hx2;dsimp only at hf;split at hf
 ·cases hf
 ·rename_i hc0
  cases (aK6 hf);refine Subscript_ (thn (he pins s σ H (fun v H1=>aN H H1/\aL X.K B H M H1 n l (.lst ts) v) I ⟨Ex,ρ,M,_,S,hx,fun v H1 s1 r1=>⟨s1,r1⟩⟩) fun v s1 ⟨x,H1,I1,r1,s01,rx⟩=>?_);refine wpAny_Slice (thn (hl pins s1 σ H1 (fun o H2=>o=a/\aN H1 H2) I1 ⟨Ex,ρ,M,a,S.grow s01,ha,fun H2 s2=>⟨rfl,s2⟩⟩) fun vl s2 ⟨o,H2,I2,pl,e2,s12⟩=>?_);subst e2;refine thn (hh pins s2 σ H2 (fun o H3=>o=b/\aN H2 H3) I2 ⟨Ex,ρ,M,b,S.grow (s01.trans s12),hb,fun H3 s3=>⟨rfl,s3⟩⟩) fun vu s3 ⟨o2,H3,I3,pu,e3,s23⟩=>?_;subst e3;refine thn (hst pins s3 σ H3 (fun o H4=>o=c/\aN H3 H4) I3 ⟨Ex,ρ,M,c,S.grow ((s01.trans s12).trans s23),hc,fun H4 s4=>⟨rfl,s4⟩⟩) fun vs s4 ⟨o3,H4,I4,pst,e4,s34⟩=>?_;subst e4;have I5:Inv X pins σ H4 { s4 with heap:=s4.heap.push { cls:=.type "slice",data:=.fields #[vl,vu,vs] } }:=I4.kept (t':=s4.toks) fun b ob q=>aKh _ q;have rx':=(rx.rep S).grow ((s12.trans s23).trans s34);obtain⟨p1,us,rfl,h1,h2⟩:=rx'.sqL;cases r1;obtain⟨its,rv,pl',hz⟩:=I5.list h1;have hlen:=rv.length;show wpAny (model X.prog X.w) X.A (subscriptTail e (.Slice lo hi st p2) (.ref p1) (.ref s4.heap.objs.size)) (EP X pins σ Q) X.xe { s4 with heap:=s4.heap.push { cls:=.type "slice",data:=.fields #[vl,vu,vs] } };obtain⟨ops,hops⟩:=hsub (.ref p1) (.ref s4.heap.objs.size);refine tail_any (ops:=ops) (pl'.isList.typeIs) slot_list_getitem.lookup ?_ hops;refine wpAny_getItem_list_slice pl'.isList (Heap.IsSliceOf.new ..) pl pu pst hc0 ?_ (by rw[aKf];omega);have e0:slicePick its.toArray o o2 o3=(cM its o o2 o3).toArray:=by
   unfold slicePick cM;simp
  rw[e0];have e1:cM its o o2 o3=(sliceRange (sliceBounds o o2 o3 us.length).1 (sliceBounds o o2 o3 us.length).2.1 (sliceBounds o o2 o3 us.length).2.2).filterMap (its[·]?):=by
   unfold cM;rw[hlen]
  have hv:aK (cM us o o2 o3) (cM its o o2 o3):=by
   rw[e1];exact NA rv _
  have hzz:(cM us o o2 o3).length<=sizeLine:=by
   rw[hv.length];have:=slicePick_size_le its.toArray o o2 o3;rw[e0] at this;simp only[aKf] at this;omega
  have hnew:H4 (s4.heap.push { cls:=.type "slice",data:=.fields #[vl,vu,vs] }).objs.size=none:=I5.hok.fresh (aMg _);refine⟨.ref _,_,I5.lnew (t':=s4.toks) hv hzz,rfl,q _ _ (((s01.trans s12).trans (s23.trans s34)).trans (cL hnew _)) ?_⟩;exact aL.laid ((s01.trans s12).trans (s23.trans s34)) hnew (aEp h2 _ _ _)
def Am (sc:Bool) (A:Addr->Prop) (H:Hp):Addr->Prop:=fun a=>sc=false/\(A a\/H a=none)
def rJ (K:PySem.W.Frag) (J:It) (ps:List (T × V)) (ts:List T) (sc:Bool):Prop:=
 ∀ (H:Hp) (A:Addr->Prop),(∀ p∈ps,Rep K H A p.1 p.2)->∀ i:Nat,(∀ t,ts[i]?=some t->J.go i H/\∀ x H',J.yld i H x H'->aN H H'/\Rep K H' (Am sc A H) t x)/\(ts.length<=i->J.stop i H)
def tGI (K:PySem.W.Frag) (B:Hp) (fl:List Nat) (f:Rho->Option (List T)) (l:Nat) (sc:Bool):TI:=fun σ H R=>
 ∃ Ex ρ M ts,Sl K B fl Ex σ ρ M H/\f ρ=some ts/\∀ J H' ps,aN H H'->(∀ p∈ps,Rep K H' (Ad B H M l) p.1 p.2)->rJ K J ps ts sc->R J H'
def GI (X:Cx) (B:Hp) (fl:List Nat) (tg e:Expr) (f:Rho->Option (List T)) (l:Nat) (sc:Bool):Prop:=PI X tg e (tGI X.K B fl f l sc)
theorem xY {t t':TI}(h:PI X tg e t) (k:∀ σ H R,t' σ H R->t σ H R):PI X tg e t':=fun pins s σ H R I q=>h pins s σ H R I (k σ H R q)
def isL:T->Option (List T)
 | .lst ts=>some ts
 | _=>none
def fL (f:Rho->Option T):Rho->Option (List T):=fun ρ=>(f ρ).bind isL
def gN:T->Option (List T)
 | .lst ts=>if bR ts then some ts else none
 | _=>none
def fFL (f:Rho->Option T):Rho->Option (List T):=fun ρ=>(f ρ).bind gN
theorem ZQ {pins:List (Addr × Obj)}{s:Shared}{σ:St}{H:Hp}{R:It->Hp->Prop}{Ex:List (T × V)}{ρ:Rho}{M:List Addr}{ts:List T}{sc:Bool}(h:GE X B fl e f n l) (I:Inv X pins σ H s) (S:Sl X.K B fl Ex σ ρ M H) (ht:f ρ=some (.lst ts)) (hsc:sc=true->bR ts=true)
  (q:∀ J H' ps,aN H H'->(∀ p∈ps,Rep X.K H' (Ad B H M l) p.1 p.2)->rJ X.K J ps ts sc->R J H'):
  wpAny (model X.prog X.w) X.A (eval e X.env) (fun v s1=>wpAny (model X.prog X.w) X.A (pyIter v) (PIE X pins σ tg R) X.xe s1) X.xe s:=by
 refine thn (h pins s σ H (fun v H1=>aN H H1/\aL X.K B H M H1 n l (.lst ts) v) I ⟨Ex,ρ,M,_,S,ht,fun v H1 s1 r1=>⟨s1,r1⟩⟩) fun v s1 ⟨x,H1,I1,r1,s01,rx⟩=>?_;have rx':=rx.rep S;obtain⟨a,xs,rfl,hs,hr⟩:=rx'.sqL;cases r1;obtain⟨its,rv,p,hz⟩:=I1.list hs;refine wpAny_pyIter_list p.isList ?_;refine⟨s1.heap.objs.size,[s1.heap.objs.size],_,_,H1,rfl,I1.kept (t':=s1.toks) fun b o e=>aKh _ e,aH1 a _,⟨_,aKu _ rfl,rfl,rfl⟩,fun b hb=>?_,?_⟩
 ·have e:b=s1.heap.objs.size:=by simpa using hb
  subst e;exact I1.fpOk (aMg _) (I1.hok.fresh (aMg _))
 ·refine q (Itl X.K a) H1 [(.lst ts,.ref a)] s01 (fun p hp=>by cases aM8.mp hp;exact rx') ?_
  intro H2 A hA i;obtain⟨a',ys,e,hs2,hr2⟩:=(hA _ aKa).sqL;cases e;refine⟨fun t hti=>?_,fun hi=>⟨ys,hs2,by rw[<- hr2.length];exact hi⟩⟩;obtain⟨y,hy,ry⟩:=hr2.get hti;refine⟨⟨ys,y,hs2,hy⟩,fun z H3 hz=>?_⟩;obtain⟨rfl,hz⟩:=hz;have:=hz ys hs2;rw[hy] at this;cases (aK6 this);refine⟨aN.refl _,?_⟩;cases sc with
  | false=>exact ry.weak fun b x=>⟨rfl,.inl x⟩
  | true=>
   have hs:G.im t=true:=aKc.mp (hsc rfl) t (List.mem_of_getElem? hti);exact qS t hs ry
theorem eA (h:GE X B fl e f n l):GI X B fl tg e (fFL f) l true:=by
 intro pins s σ H R I hq;obtain⟨Ex,ρ,M,ts,S,hf,q⟩:=hq;obtain⟨t,ht,hl⟩:=bind_some hf;cases t<;>first | (cases hl;done) | skip
 unfold gN at hl;dsimp only at hl;split at hl
 ·rename_i hfl
  cases (aK6 hl);exact ZQ h I S ht (fun _=>hfl) q
 ·cases hl
def rangeT (lo:Int) (n:Nat):List T:=(List.range n).map fun (i:Nat)=>T.int (lo+(i:Int))
def cI:List T->Option (List T)
 | [.int j]=>if j.natAbs<2^62 then some (rangeT 0 j.toNat) else none
 | _=>none
def eZ:List T->Option (List T)
 | [.int i,.int j]=>if i.natAbs<2^62/\j.natAbs<2^62 then some (rangeT i (j-i).toNat) else none
 | _=>none
def bY (fa:Rho->Option (List T)) (o:List T->Option (List T)):Rho->Option (List T):=fun ρ=>(fa ρ).bind o
theorem NB {K:PySem.W.Frag}(lo:Int) (n:Nat):rJ K (Itr lo n) [] (rangeT lo n) true:=by
 intro H A _ i;unfold rangeT;refine⟨fun t ht=>?_,fun hi=>by show n<=i;simpa using hi⟩;rw[aLh] at ht;cases e:(List.range n)[i]? with
 | none=>rw[e] at ht;cases ht
 | some k=>
  rw[e] at ht;cases (aK6 ht);obtain⟨h1,h2⟩:=aKb.mp e;rw[List.getElem_range] at h2;subst h2;refine⟨by show i<n;simpa using h1,fun x H' hx=>?_⟩;obtain⟨rfl,rfl⟩:=hx;exact⟨aN.refl _,rfl⟩
theorem dS {x:Str}{p':Pos}(hx:x = "range") (hg:Gl X "range") (hm:X.mg "range" = none) (ha:GA X B fl [a] fa l) (hs:starEach [a] X.env=[(false,eval a X.env)]:=by rfl):GI X B fl tg (.Call (.Name x p') [a] [] pos) (bY fa cI) 3 true:=by
 subst hx;refine xY (aDa hg hm ha hs) ?_;rintro σ H R ⟨Ex,ρ,M,ts,S,hf,q⟩;obtain⟨us,hus,hf⟩:=bind_some hf;refine⟨Ex,ρ,M,us,S,hus,fun vs H1 s1 r1=>?_⟩
 match us,hf with
 | [.int j],hf=>
  unfold cI at hf;dsimp only at hf;split at hf
  ·rename_i hj
   cases (aK6 hf);obtain⟨y,rfl,ry⟩:=dN r1;cases (show _=_ from ry);exact⟨j,rfl,by omega,by omega,q _ H1 [] s1 (fun _ z=>nomatch z) (NB 0 j.toNat)⟩
  ·cases hf
theorem wU {x:Str}{p':Pos}(hx:x = "range") (hg:Gl X "range") (hm:X.mg "range" = none) (ha:GA X B fl [a,b] fa l) (hs:starEach [a,b] X.env=[(false,eval a X.env),(false,eval b X.env)]:=by rfl) (hs2:starEach [b] X.env=[(false,eval b X.env)]:=by rfl):GI X B fl tg (.Call (.Name x p') [a,b] [] pos) (bY fa eZ) 3 true:=by
 subst hx;refine xY (aDb hg hm ha hs hs2) ?_;rintro σ H R ⟨Ex,ρ,M,ts,S,hf,q⟩;obtain⟨us,hus,hf⟩:=bind_some hf;refine⟨Ex,ρ,M,us,S,hus,fun vs H1 s1 r1=>?_⟩
 match us,hf with
 | [.int i,.int j],hf=>
  unfold eZ at hf;dsimp only at hf;split at hf
  ·rename_i hj
   cases (aK6 hf);obtain⟨y,r,e,ry,h2⟩:=r1;obtain⟨y2,rfl,ry2⟩:=dN h2;subst e;cases (show _=_ from ry);cases (show _=_ from ry2);exact⟨i,j,rfl,by omega,q _ H1 [] s1 (fun _ z=>nomatch z) (NB i (j-i).toNat)⟩
  ·cases hf
end
def bP (src:List (Option Nat)) (ρ:Rho):Rho:=src.map fun o=>o.bind fun i=>(ρ[i]?).join
def bK (p:Rho->Option Bool) (f:Rho->Option T) (ρ:Rho):List T->Option (List T)
 | []=>some []
 | t::ts=>(p (ρ.set 0 (some t))).bind fun b=>if b then (f (ρ.set 0 (some t))).bind fun x=>(bK p f ρ ts).map (x :: ·) else bK p f ρ ts
def cW (fi:Rho->Option (List T)) (src:List (Option Nat)) (p:Rho->Option Bool) (f:Rho->Option T):Rho->Option T:=fun ρ=>
 (fi ρ).bind fun ts=>(bK p f (bP src ρ) ts).bind fun us=>if us.length<=cap then some (.lst us) else none
def bI:Rho->Option Bool:=fun _=>some true
def GIf (X:Cx) (B:Hp) (fl:List Nat) (ifs:List Expr) (p:Rho->Option Bool):Prop:=PIf X ifs (tGT X.K B fl p)
theorem fP {X:Cx}{B:Hp}{fl:List Nat}:GIf X B fl [] bI:=fun pins s σ H Q I ⟨_,_,_,b,_,hf,q⟩=>aDe pins s σ H Q I (by cases (aK6 hf);exact q H (aN.refl H))
theorem wV {X:Cx}{B:Hp}{fl:List Nat}{c:Expr}{p:Rho->Option Bool}(h:GT X B fl c p):GIf X B fl [c] p:=aDf h
theorem sA {α:Type}{l:List (Option α)}{i:Nat}{t:α}(h:(l[i]?).join=some t):l[i]?=some (some t):=by
 cases e:l[i]? with
 | none=>rw[e] at h;cases h
 | some o=>rw[e] at h;cases (show o=some t from h);rfl
theorem MP {src:List (Option Nat)}{ρ:Rho}{j:Nat}{t:T}(h:(bP src ρ)[j]?=some (some t)):∃ i,src[j]?=some (some i)/\ρ[i]?=some (some t):=by
 unfold bP at h;rw[aLh] at h;cases e:src[j]? with
 | none=>rw[e] at h;cases h
 | some o=>
  rw[e] at h;cases o with
  | none=>cases (aK6 h)
  | some i=>exact⟨i,rfl,sA (aK6 h)⟩
theorem MQ {src:List (Option Nat)}{σ:St}{j i:Nat}{v:V}(h:src[j]?=some (some i)) (e:σ[i]?=some (some v)):(cE src σ)[j]?=some (some v):=by
 unfold cE;rw[aLh,h];show some ((σ[i]?).join)=_;rw[e];rfl
structure FlOk (X:Cx) (N':List Str) (src:List (Option Nat)) (fl fl':List Nat) (li:Nat) (sc:Bool):Prop where
 nd:N'.Nodup
 own:src[0]?=some none
 cap:∀ (j i:Nat),src[j]?=some (some i)->fl'.getD j 1=fl.getD i 1
 pos:1<=fl'.getD 0 1
 le:sc=false->fl'.getD 0 1<=li
 xN:∀ (j i:Nat),src[j]?=some (some i)->N'[j]?=X.N[i]?/\j<N'.length
 lf:fl'.length=src.length
section
variable {X:Cx}{K:PySem.W.Frag}{B H:Hp}{fl fl':List Nat}{src:List (Option Nat)}{N':List Str}{Ex:List (T × V)}{σ σ1:St}{ρ:Rho}{M:List Addr}{li:Nat}{sc:Bool}
theorem Sl.block {t:T}{x:V}(F:FlOk X N' src fl fl' li sc) (S:Sl K B fl Ex σ ρ M H) (h0:∀ j,j≠0->σ1[j]?=(cE src σ)[j]?) (hl:σ1.length=src.length) (r:Rep K H (Ad B H M (min (fl'.getD 0 1) 2)) t x):
  Sl K B fl' Ex (σ1.set 0 (some x)) ((bP src ρ).set 0 (some t)) M H:=by
 have get:∀ j u,((bP src ρ).set 0 (some t))[j]?=some (some u)->(j=0/\u=t)\/(j≠0/\∃ i,src[j]?=some (some i)/\ρ[i]?=some (some u)):=fun j u e=>by
  by_cases hj:j=0
  ·subst hj
   left
   refine⟨rfl,?_⟩
   by_cases hz:0<(bP src ρ).length
   ·rw[aLi hz] at e
    cases (aK6 e);rfl
   ·have:((bP src ρ).set 0 (some t))=[]:=by
     have:(bP src ρ)=[]:=List.length_eq_zero_iff.mp (by omega);rw[this];rfl
    rw[this] at e;cases e
  ·right
   rw[aKg (Ne.symm hj)] at e;exact⟨hj,MP e⟩
 have put:∀ j i v,j≠0->src[j]?=some (some i)->σ[i]?=some (some v)->(σ1.set 0 (some x))[j]?=some (some v):=fun j i v hj e1 e2=>by
  rw[aKg (Ne.symm hj),h0 j hj];exact MQ e1 e2
 have hl0:0<σ1.length:=by
  have:=(aKb.mp F.own).1;omega
 obtain⟨g,hg,ap⟩:=S.mu;refine⟨S.same,fun j u e k=>?_,⟨fun j=>g (((src[j]?).join).getD 0),fun j u e k hm=>?_,fun j j' c d u u' us ws hne e e' k k' hm hm'=>?_⟩,S.ex,S.mB,by rw[aLs,hl];exact Nat.le_of_eq F.lf⟩
 ·rcases get j u e with ⟨rfl,rfl⟩ | ⟨hj,i,e1,e2⟩
  ·exact⟨x,by rw[aLi hl0],r⟩
  ·rw[F.cap j i e1] at k ⊢
   obtain⟨v,e3,r3⟩:=S.slot i u e2 k;exact⟨v,put j i v hj e1 e3,r3⟩
 ·rcases get j u e with ⟨rfl,rfl⟩ | ⟨hj,i,e1,e2⟩
  ·exact absurd k (by have:=F.pos;omega)
  ·rw[F.cap j i e1] at k
   obtain⟨v,e4,e5⟩:=hg i u e2 k hm;simp only[show ((src[j]?).join).getD 0=i by rw[e1];rfl];exact⟨v,put j i _ hj e1 e4,e5⟩
 ·rcases get j u e with ⟨rfl,rfl⟩ | ⟨hj,i,e1,e2⟩
  ·exact absurd k (by have:=F.pos;omega)
  ·rcases get j' u' e' with ⟨rfl,rfl⟩ | ⟨hj',i',e1',e2'⟩
   ·exact absurd k' (by have:=F.pos;omega)
   ·rw[F.cap j i e1] at k
    rw[F.cap j' i' e1'] at k';have hii:j≠j'->i≠i':=fun hj z=>by
     subst z;have q1:=F.xN j i e1;have q2:=F.xN j' i e1';have:N'[j]?=N'[j']?:=q1.1.trans q2.1.symm;rw[aK8 q1.2,aK8 q2.2] at this;exact hj ((List.getElem_inj F.nd).mp (aK6 this))
    simp only[show ((src[j]?).join).getD 0=i by rw[e1];rfl,show ((src[j']?).join).getD 0=i' by rw[e1'];rfl];exact ap i i' c d u u' us ws (hne.imp hii id) e2 e2' k k' hm hm'
end
theorem Sl.mores {K:PySem.W.Frag}{B H1 H':Hp}{fl:List Nat}{Ex:List (T × V)}{σ:St}{ρ:Rho}{M:List Addr}(Ds:List Addr) (S:Sl K B fl Ex σ ρ M H1) (hD:∀ D∈Ds,H1 D=none/\H' D≠none) (s:aN H1 H'):Sl K B fl Ex σ ρ (Ds++M) H' where
 same:=S.same.trans s
 slot:=fun i t e k=>by
  obtain⟨v,e1,r⟩:=S.slot i t e k;refine⟨v,e1,Rep.keep (fun b _ e=>fA (fun o q=>s b o q) e) (fun b o _ e=>s b o e) (fun b x y=>⟨fun z w=>?_,x.2.1,fun z=>by omega⟩) t r⟩;rcases aLy.mp w with w | w
  ·exact y (hD b w).1
  ·exact x.1 z w
 mu:=by
  obtain⟨g,hg,ap⟩:=S.mu;refine⟨g,fun i t e k hm=>?_,ap⟩;obtain⟨v,e1,e2,e3⟩:=hg i t e k hm;refine⟨v,e1,e2.grow s,fun c us h=>?_⟩;obtain⟨xs,q1,r,q3⟩:=e3 c us h;refine⟨xs,s _ _ q1,RepL.keep (fun b _ e=>fA (fun o q=>s b o q) e) (fun b o _ e=>s b o e) (fun b x y=>⟨fun z w=>?_,x.2.1,fun z=>by omega⟩) us r,aM0 _ q3⟩;rcases aLy.mp w with w | w
  ·exact y (hD b w).1
  ·exact x.1 z w
 ex:=fun p hp=>by
  refine Rep.keep (fun b _ e=>fA (fun o q=>s b o q) e) (fun b o _ e=>s b o e) (fun b x y=>⟨fun z w=>?_,x.2.1,fun z=>by omega⟩) p.1 (S.ex p hp);rcases aLy.mp w with w | w
  ·exact y (hD b w).1
  ·exact x.1 z w
 mB:=fun a ha=>by
  rcases aLy.mp ha with ha | ha
  ·exact⟨S.same.free (hD a ha).1,(hD a ha).2⟩
  ·exact⟨(S.mB a ha).1,fun z=>(S.mB a ha).2 (s.free z)⟩
 len:=S.len
theorem Sl.more {K:PySem.W.Frag}{B H1 H':Hp}{fl:List Nat}{Ex:List (T × V)}{σ:St}{ρ:Rho}{M:List Addr}{D:Addr}(S:Sl K B fl Ex σ ρ M H1) (hD:H1 D=none) (s:aN H1 H') (hn:H' D≠none):Sl K B fl Ex σ ρ (D::M) H':=
 Sl.mores [D] S (fun _ h=>by cases aM8.mp h;exact⟨hD,hn⟩) s
theorem SH {p:Rho->Option Bool}{f:Rho->Option T}{ρ:Rho}{t:T}{ts us:List T}(h:bK p f ρ (t::ts)=some us):
  ∃ b,p (ρ.set 0 (some t))=some b/\((b=true/\∃ x r,f (ρ.set 0 (some t))=some x/\bK p f ρ ts=some r/\us=x::r)\/(b=false/\bK p f ρ ts=some us)):=by
 unfold bK at h;obtain⟨b,hb,h⟩:=bind_some h;refine⟨b,hb,?_⟩;cases b with
 | true=>
  left
  rw[if_pos rfl] at h;obtain⟨x,hx,h⟩:=bind_some h;cases e:bK p f ρ ts with
  | none=>rw[e] at h;cases h
  | some r=>rw[e] at h;cases (aK6 h);exact⟨rfl,x,r,hx,rfl,rfl⟩
 | false=>
  right
  rw[if_neg aKr] at h;exact⟨rfl,h⟩
section
variable {X:Cx}{B:Hp}{fl fl':List Nat}{elt iter:Expr}{x0:Str}{p0:Pos}{ifs:List Expr}{scope:Scope}{pos:Pos}{N':List Str}{src:List (Option Nat)}{fi:Rho->Option (List T)}{p:Rho->Option Bool}{f:Rho->Option T}{n sc:Bool}{l li:Nat}
theorem AF (F:FlOk X N' src fl fl' li sc) (hl1':1<=l) {σ:St}{H:Hp}{Q:VK}(h:tG X.K B fl (cW fi src p f) true l σ H Q):
  vR (tGI X.K B fl fi li sc) (cE src) (jK 0) (tGT X.K B fl' p) (tG X.K B fl' f n l) σ H Q:=by
 obtain⟨Ex,ρ,M,t,S,hf,q⟩:=h;obtain⟨ts,hts,hf⟩:=bind_some hf;obtain⟨fin,hfin,hf⟩:=bind_some hf;split at hf
 rotate_left
 ·cases hf
 rename_i hcap;cases (aK6 hf);refine⟨Ex,ρ,M,ts,S,hts,fun J H1 ps s01 rp wk=>?_⟩;intro D hD;have hlen:0<src.length:=by
  have:=(aKb.mp F.own).1;exact this
 refine⟨fun i m σ1 H2=>m=ts.length-i/\i<=ts.length/\aN H1 H2/\σ1.length=src.length/\(∀ j,j≠0->σ1[j]?=(cE src σ)[j]?) /\
  ∃ us rest xs,us++rest=fin/\bK p f (bP src ρ) (ts.drop i)=some rest/\H2 D=some (.lst xs)/\RepL X.K H2 (fun b=>Ad B H M l b/\b≠D) us xs,?_,?_⟩
 ·refine⟨ts.length,by simp,aMx _,cL hD _,by unfold cE;simp,fun _ _=>rfl,[],fin,[],rfl,by simpa using hfin,cU,rfl⟩
 ·rintro i m σ1 H2 ⟨rfl,hi,s12,hl1,hσ,us,rest,xs,e1,e2,e3,e4⟩
  have hD2:H2 D≠none:=by rw[e3];simp
  have S2:=(S.grow s01).more hD s12 hD2;have rp1:∀ pv∈ps,Rep X.K H1 (fun b=>Ad B H M li b/\b≠D) pv.1 pv.2:=fun pv hpv=>Rep.keep (fun _ _ e=>e) (fun _ _ _ e=>e) (fun b x y=>⟨x,fun z=>y (z ▸ hD)⟩) pv.1 (rp pv hpv);have w:=wk H2 _ (fun pv hpv=>(rp1 pv hpv).grow s12) i
  by_cases hlt:i<ts.length
  ·refine .inr ?_
   have et:ts[i]?=some ts[i]:=aK8 hlt;obtain⟨go,yl⟩:=w.1 _ et;refine⟨go,fun x H3 hy=>?_⟩;obtain⟨s23,rx⟩:=yl x H3 hy;rw[List.drop_eq_getElem_cons hlt] at e2;obtain⟨b,hb,hcase⟩:=SH e2;have S3:=S2.grow s23;have rx':Rep X.K H3 (Ad B H3 (D::M) (min (fl'.getD 0 1) 2)) ts[i] x:=rx.weak fun c hc=>by
    obtain⟨h0,hc⟩:=hc;rcases hc with hc | hc
    ·refine⟨fun z w=>?_,fun z=>hc.1.2.1 (by have:=F.le h0;omega),fun z=>by omega⟩
     rcases aKi.mp w with rfl | w
     ·exact hc.2 rfl
     ·exact hc.1.1 (by have:=F.le h0;omega) w
    ·exact⟨fun _ z=>(S2.mB c z).2 hc,fun _=>S2.same.free hc,fun z=>by omega⟩
   have Sb:=Sl.block (σ1:=σ1) F S3 hσ hl1 rx';show tGT X.K B fl' p (σ1.set 0 (some x)) H3 _;refine⟨Ex,_,D::M,b,Sb,hb,fun H5 s35=>?_⟩;have hσ':∀ j,j≠0->(σ1.set 0 (some x))[j]?=(cE src σ)[j]?:=fun j hj=>by rw[aKg (Ne.symm hj)];exact hσ j hj
   rcases hcase with ⟨rfl,y,r,hy',hr,rfl⟩ | ⟨rfl,hr⟩
   ·refine jN ⟨Ex,_,D::M,y,Sb.grow s35,hy',fun v H6 s56 rv=>?_⟩
    have s26:=(s23.trans s35).trans s56;have e5:=s26 _ _ e3;have hl:xs.length<sizeLine:=by
     rw[<- e4.length];refine gH (aMh ?_ hcap);rw[<- e1];simp
    refine⟨xs,e5,hl,ts.length-(i+1),by omega,rfl,hlt,?_,by simpa using hl1,hσ',us++[y],r,xs++[v],by rw[<- e1];simp,hr,cU,?_⟩
    ·intro c o hc
     have:c≠D:=fun z=>by rw[z,hD] at hc;cases hc
     rw[aS this];exact (s12.trans s26) c o hc
    ·have k1:RepL X.K H6 (fun b=>Ad B H M l b/\b≠D) us xs:=e4.grow s26
     have k2:Rep X.K H6 (fun b=>Ad B H M l b/\b≠D) y v:=by
      have z:=rv.rep (Sb.grow s35);exact z.weak fun c hc=>⟨⟨fun k w=>hc.1 k (aK9 _ w),hc.2.1,fun k=>((s01.trans s12).trans (s23.trans s35)).free (hc.2.2 k)⟩,fun w=>hc.1 hl1' (by rw[w];exact aKa)⟩
     exact (RepL.app k1 (RepL.one k2)).keep (fun c _ e=>gR e5 e) (fun c o hc e=>by rw[aS hc.2];exact e) (fun c hc _=>hc) _
   ·refine jM ⟨ts.length-(i+1),by omega,rfl,hlt,(s12.trans s23).trans s35,by simpa using hl1,hσ',us,rest,xs,e1,hr,(s23.trans s35) _ _ e3,e4.grow (s23.trans s35)⟩
  ·have ei:i=ts.length:=by omega
   subst ei;refine .inl ⟨w.2 (aMg _),?_⟩;rw[List.drop_eq_nil_of_le (aMg _)] at e2;cases (aK6 (show some []=some rest from e2));rw[aL3] at e1;subst e1;exact q _ H2 (s01.trans s12) ⟨D,xs,rfl,s01.free hD,e3,e4⟩
def sW:Option NameKind->Bool
 | some .local=>true
 | some .cell=>true
 | _=>false
theorem KQ {env:Env}:∀ {names:List (Str × NameKind)}{x:Str},names.lookup x=some .cell ->
  (names.map fun (n,k)=>if (k == NameKind.free&&env.scope.kind == .function&&env.kindOf n == some .cell) then (n,NameKind.cell) else (n,k)).lookup x=some .cell
 | [],_,h=>by cases h
 | (n,k)::r,x,h=>by
  rw[aLu] at h;rw[aLv]
  by_cases hx:(x == n)=true
  ·rw[hx] at h
   have h':k=NameKind.cell:=aK6 h;subst h';show ((n,NameKind.cell)::_).lookup x=_;rw[aLu,hx]
  ·have hx':(x == n)=false:=by simpa using hx
   rw[hx'] at h;have ih:=KQ (env:=env) h;dsimp only
   split<;>(rw[aLu,hx'];exact ih)
theorem JO {X:Cx}{scope:Scope}{N':List Str}{cl:List (Str × Addr)}{C:Addr}{s:Shared}{H:Hp}{ex:List Addr}{i:Nat}{x:Str}{p:Pos}(hN:N'.Nodup) (hi:N'[i]?=some x) (hx:sW (scope.names.lookup x)=true):
  PG (cxB X scope N' cl C s H ex) (.Name x p) (jK i):=by
 cases q:scope.names.lookup x with
 | none=>rw[q] at hx;cases hx
 | some k=>
  rw[q] at hx;cases k with
  | «local»=>exact xX hN hi (.inl (lookup_relabel_local q)) (.inr (lookup_relabel_local q))
  | cell=>exact xX hN hi (.inr (KQ q)) (.inl (show qK (scope.names.lookup x)=true by rw[q];rfl))
  | _=>cases hx
theorem rW (S:BlkOk X scope N' src) (F:FlOk X N' src fl fl' li sc) (hl1:1<=l) (hc:X.calm=true) (hi:GI X B fl (.Name x0 p0) iter fi li sc) (hN:N'[0]?=some x0) (hx:sW (scope.names.lookup x0)=true)
  (hb:∀ cl C s H ex,GIf (cxB X scope N' cl C s H ex) B fl' ifs p/\GE (cxB X scope N' cl C s H ex) B fl' elt f n l)
  (hs:∀ x,foldedSetIterable iter X.env x=pure x:=by intro _;rfl):GE X B fl (.ListComp elt [⟨.Name x0 p0,iter,ifs,0⟩] scope pos) (cW fi src p f) true l:=by
 refine bD (JL (wi:=tGI X.K B fl fi li sc) (g:=jK 0) (tc:=tGT X.K B fl' p) (te:=tG X.K B fl' f n l) S hc hi (fun cl C s H ex=>⟨?_,(hb cl C s H ex).1,(hb cl C s H ex).2⟩) hs) fun σ H Q h=>AF F hl1 h;exact JO F.nd hN hx
theorem GU {i:Nat}{x:Str}{pos' spos:Pos}(S:BlkOk X scope N' src) (hc:X.calm=true) (hi:GI X B fl (.Name x0 p0) iter fi li sc) (hnd:N'.Nodup) (hN0:N'[0]?=some x0) (hx0:sW (scope.names.lookup x0)=true)
  (hb:∀ cl C s H ex,GIf (cxB X scope N' cl C s H ex) B fl' ifs p/\GE (cxB X scope N' cl C s H ex) B fl' elt f n l) (hN:X.N.Nodup) (hiN:X.N[i]?=some x) (hx:Loc X.env.scope x)
  (hsw:swapsWith (.ListComp elt [⟨.Name x0 p0,iter,ifs,0⟩] scope pos) (some (.Name x pos')) spos.line X.env=pure true)
  (hs:∀ x,foldedSetIterable iter X.env x=pure x) (hf:X.fn x=true\/X.env.scope.names.lookup x=some .local):
  PS X (.Assign [.Name x pos'] (.ListComp elt [⟨.Name x0 p0,iter,ifs,0⟩] scope pos) spos) (zG (vR (tGI X.K B fl fi li sc) (cE src) (jK 0) (tGT X.K B fl' p) (tG X.K B fl' f n l)) (jK i)):=by
 refine aDp hN hiN hx S hc hi (fun cl C s H ex=>⟨?_,(hb cl C s H ex).1,(hb cl C s H ex).2⟩) hsw hs hf;exact JO hnd hN0 hx0
end
inductive Out where
 | nx (ρ:Rho) | rt (t:T) | bk (ρ:Rho) | ct (ρ:Rho)
def okO:T->Bool
 | .lst _=>true
 | t=>im t
def DW (K:PySem.W.Frag) (B H:Hp) (M:List Addr) (H':Hp):List T->List V->Prop
 | [],xs=>xs=[]
 | t::ts,xs=>∃ x r,xs=x::r/\okO t=true/\aL K B H M H' true 3 t x/\DW K B H M H' ts r
def Dst (ts:List T) (xs:List V):Prop:=∀ (c d:Nat) (us ws:List T) (a:Addr),c≠d->ts[c]?=some (.lst us)->ts[d]?=some (.lst ws)->xs[c]?=some (.ref a)->xs[d]?=some (.ref a)->False
def QG (K:PySem.W.Frag) (B H:Hp) (M:List Addr) (H':Hp) (t:T) (v:V):Prop:=∃ p ts xs,t=.tup ts/\v=.ref p/\Rd H' p (.tup xs)/\DW K B H M H' ts xs/\Dst ts xs
def RtX (K:PySem.W.Frag) (B H:Hp) (n:Bool) (l:Nat) (t:T) (v:V):Prop:=if l=4 then QG K B B [] H t v else aL K B B [] H n l t v
theorem RtX.of {K:PySem.W.Frag}{B H:Hp}{n:Bool}{l:Nat}{t:T}{v:V}(hl:l≠4):RtX K B H n l t v ↔ aL K B B [] H n l t v:=by unfold RtX;rw[if_neg hl]
def zM (K:PySem.W.Frag) (B:Hp) (fl:List Nat) (n:Bool) (l:Nat) (Ex:List (T × V)) (D:Ends):Out->Prop
 | .nx ρ=>∀ σ M H,Sl K B fl Ex σ ρ M H->D.nx σ H
 | .bk ρ=>∀ σ M H,Sl K B fl Ex σ ρ M H->D.bk σ H
 | .ct ρ=>∀ σ M H,Sl K B fl Ex σ ρ M H->D.ct σ H
 | .rt t=>∀ v H,aN B H->RtX K B H n l t v->D.rt v H
def tS (K:PySem.W.Frag) (B:Hp) (fl:List Nat) (n:Bool) (l:Nat) (run:Rho->Option Out):TS:=fun D σ H=>
 ∃ Ex ρ M o,Sl K B fl Ex σ ρ M H/\run ρ=some o/\zM K B fl n l Ex D o
def GS (X:Cx) (B:Hp) (fl:List Nat) (n:Bool) (l:Nat) (st:Stmt) (run:Rho->Option Out):Prop:=PS X st (tS X.K B fl n l run)
def GSs (X:Cx) (B:Hp) (fl:List Nat) (n:Bool) (l:Nat) (st:List Stmt) (run:Rho->Option Out):Prop:=PSs X st (tS X.K B fl n l run)
def bO:Rho->Option Out:=fun ρ=>some (.nx ρ)
def aH (r1 r2:Rho->Option Out):Rho->Option Out:=fun ρ=>(r1 ρ).bind fun o=>match o with | .nx ρ'=>r2 ρ' | o=>some o
def aO (i:Nat) (f:Rho->Option T):Rho->Option Out:=fun ρ=>(f ρ).map fun t=>.nx (ρ.set i (some t))
def okM:T->Bool
 | .lst _=>true
 | t=>im t
def dA (i:Nat) (f:Rho->Option T):Rho->Option Out:=fun ρ=>(f ρ).bind fun t=>if okM t then some (.nx (ρ.set i (some t))) else none
def rIf (p:Rho->Option Bool) (r1 r2:Rho->Option Out):Rho->Option Out:=fun ρ=>(p ρ).bind fun b=>if b then r1 ρ else r2 ρ
def aP (f:Rho->Option T):Rho->Option Out:=fun ρ=>(f ρ).map .rt
def aEh (i:Nat):Rho->Option Out:=fun ρ=>(aA i ρ).bind fun t=>match t with | .lst ts=>if bR ts then some (.rt (.lst ts)) else none | _=>none
def tD (i:Nat) (f:Rho->Option T):Rho->Option Out:=fun ρ=>(aA i ρ).bind fun t=>(f ρ).bind fun x=>match t with | .lst ts=>if ts.length<cap then some (.nx (ρ.set i (some (.lst (ts++[x]))))) else none | _=>none
def hZ (i:Nat) (fi f:Rho->Option T):Rho->Option Out:=fun ρ=>(f ρ).bind fun x=>(aA i ρ).bind fun t=>(fi ρ).bind fun k=>match t,k with | .lst ts,.int j=>(ixN ts.length j).map fun j'=>.nx (ρ.set i (some (.lst (ts.set j' x)))) | _,_=>none
def bL (j:Nat) (body:Rho->Option Out):List T->Rho->Option Out
 | [],ρ=>some (.nx ρ)
 | t::ts,ρ=>(body (ρ.set j (some t))).bind fun o=>match o with | .nx ρ'=>bL j body ts ρ' | .ct ρ'=>bL j body ts ρ' | .bk ρ'=>some (.nx ρ') | .rt t=>some (.rt t)
def bW (j:Nat) (fi:Rho->Option (List T)) (body:Rho->Option Out):Rho->Option Out:=fun ρ=>(fi ρ).bind fun ts=>bL j body ts ρ
section
variable {K:PySem.W.Frag}{B H H':Hp}{fl:List Nat}{Ex:List (T × V)}{σ:St}{ρ:Rho}{M:List Addr}{n:Bool}{l:Nat}{t:T}{v:V}{i:Nat}
theorem dX {ρ:Rho}{i j:Nat}{t u:T}(h:(ρ.set i (some t))[j]?=some (some u)):(j=i/\u=t/\i<ρ.length)\/(j≠i/\ρ[j]?=some (some u)):=by
 by_cases hj:j=i
 ·subst hj
  left
  by_cases hl:j<ρ.length
  ·rw[aLi hl] at h
   cases (aK6 h);exact⟨rfl,rfl,hl⟩
  ·rw[List.getElem?_eq_none_iff.mpr (by rw[aLs];omega)] at h
   cases h
 ·right
  rw[aKg (Ne.symm hj)] at h;exact⟨hj,h⟩
theorem Sl.set (S:Sl K B fl Ex σ ρ M H) (hi:i<fl.length) (h1:1<=fl.getD i 1\/im t=true) (r:Rep K H (Ad B H M (min (fl.getD i 1) 2)) t v):Sl K B fl Ex (σ.set i (some v)) (ρ.set i (some t)) M H where
 same:=S.same
 slot:=fun j u e k=>by
  rcases dX e with ⟨rfl,rfl,_⟩ | ⟨hj,e⟩
  ·exact⟨v,by rw[aLi (aKe hi S.len)],r⟩
  ·obtain⟨w,e1,r1⟩:=S.slot j u e k
   exact⟨w,by rw[aKg (Ne.symm hj)];exact e1,r1⟩
 mu:=by
  obtain⟨g,hg,ap⟩:=S.mu;refine⟨g,fun j u e k hm=>?_,fun j j' c d u u' us ws hne e e' k k' hm hm'=>?_⟩
  ·rcases dX e with ⟨rfl,rfl,_⟩ | ⟨hj,e⟩
   ·rcases h1 with h1 | h1
    ·omega
    ·rw[hm] at h1;cases h1
   ·obtain⟨w,e2,e3⟩:=hg j u e k hm
    exact⟨w,by rw[aKg (Ne.symm hj)];exact e2,e3⟩
  ·rcases dX e with ⟨rfl,rfl,_⟩ | ⟨hj,e⟩
   ·rcases h1 with h1 | h1
    ·omega
    ·rw[sE hm] at h1;cases h1
   ·rcases dX e' with ⟨rfl,rfl,_⟩ | ⟨hj',e'⟩
    ·rcases h1 with h1 | h1
     ·omega
     ·rw[sE hm'] at h1;cases h1
    ·exact ap j j' c d u u' us ws hne e e' k k' hm hm'
 ex:=S.ex
 mB:=S.mB
 len:=by rw[aLs];exact S.len
theorem Sl.setC {ga:Nat->Addr}(Ds:List Addr) (S:Sl K B fl Ex σ ρ M H) (hi:i<fl.length) (h0:fl.getD i 1=0) (s:aN H H') (hD:∀ D∈Ds,H D=none/\H' D≠none) (hm0:im t=false) (sh:eR K H' t v ga)
  (r:∀ c us,dF t c us->∃ xs,H' (ga c)=some (.lst xs)/\RepL K H' (fun b=>Ad B H M 2 b/\b ∉ Ds) us xs/\ga c∈Ds) (dj:∀ c d us ws,c≠d->dF t c us->dF t d ws->ga c≠ga d):
  Sl K B fl Ex (σ.set i (some v)) (ρ.set i (some t)) (Ds++M) H':=by
 have S':=Sl.mores Ds S hD s;obtain⟨g,hg,ap⟩:=S.mu;have hold:∀ j c u us,ρ[j]?=some (some u)->fl.getD j 1=0->dF u c us->g j c ∉ Ds:=fun j c u us e k h z=>by
  obtain⟨_,_,_,e3⟩:=hg j u e k (sE h);obtain⟨xs,q,_⟩:=e3 c us h;rw[(hD _ z).1] at q;cases q
 have gmo:∀ j u,ρ[j]?=some (some u)->fl.getD j 1=0->im u=false->∃ v,σ[j]?=some (some v)/\DX K B (Ds++M) H' u v (g j):=fun j u e k hm=>by
  obtain⟨v,e1,e2,e3⟩:=hg j u e k hm;refine⟨v,e1,e2.grow s,fun c us h=>?_⟩;obtain⟨xs,q1,r,q3⟩:=e3 c us h;refine⟨xs,s _ _ q1,RepL.keep (fun b _ e=>fA (fun o q=>s b o q) e) (fun b o _ e=>s b o e) (fun b x y=>⟨fun z w=>?_,x.2.1,fun z=>by omega⟩) us r,aM0 _ q3⟩;rcases aLy.mp w with w | w
  ·exact y (hD b w).1
  ·exact x.1 z w
 refine⟨S'.same,fun j u e k=>?_,⟨fun j=>if j=i then ga else g j,fun j u e k hm=>?_,fun j j' c d u u' us ws hne e e' k k' hm hm'=>?_⟩,S'.ex,S'.mB,by rw[aLs];exact S.len⟩
 ·rcases dX e with ⟨rfl,rfl,_⟩ | ⟨hj,e⟩
  ·rcases k with k | k
   ·omega
   ·rw[hm0] at k;cases k
  ·obtain⟨w,e1,r1⟩:=S'.slot j u e k
   exact⟨w,by rw[aKg (Ne.symm hj)];exact e1,r1⟩
 ·rcases dX e with ⟨rfl,rfl,_⟩ | ⟨hj,e⟩
  ·simp only[if_pos]
   refine⟨v,by rw[aLi (aKe hi S.len)],sh,fun c us h=>?_⟩;obtain⟨xs,q1,q2,q3⟩:=r c us h;refine⟨xs,q1,q2.weak fun b x=>⟨fun z w=>?_,fun z=>x.1.2.1 z,fun z=>by omega⟩,aLz _ q3⟩;rcases aLy.mp w with w | w
   ·exact x.2 w
   ·exact x.1.1 z w
  ·simp only[if_neg hj]
   obtain⟨v1,e2,e3⟩:=gmo j u e k hm;exact⟨v1,by rw[aKg (Ne.symm hj)];exact e2,e3⟩
 ·rcases dX e with ⟨z1,z2,_⟩ | ⟨hj,f⟩
  ·rcases dX e' with ⟨z1',z2',_⟩ | ⟨hj',f'⟩
   ·subst z2 z2'
    have hcd:c≠d:=by
     rcases hne with h | h
     ·exact absurd (z1.trans z1'.symm) h
     ·exact h
    simp only[if_pos z1,if_pos z1'];exact dj c d us ws hcd hm hm'
   ·simp only[if_pos z1,if_neg hj']
    subst z2;obtain⟨_,_,_,q3⟩:=r c us hm;exact fun z=>hold j' d u' ws f' k' hm' (by rw[<- z];exact q3)
  ·rcases dX e' with ⟨z1',z2',_⟩ | ⟨hj',f'⟩
   ·simp only[if_pos z1',if_neg hj]
    subst z2';obtain⟨_,_,_,q3⟩:=r d ws hm';exact fun z=>hold j c u us f k hm (by rw[z];exact q3)
   ·simp only[if_neg hj,if_neg hj']
    exact ap j j' c d u u' us ws hne f f' k k' hm hm'
theorem Sl.setM {ts:List T}{xs:List V}{a:Addr}(S:Sl K B fl Ex σ ρ M H) (hi:i<fl.length) (h0:fl.getD i 1=0) (s:aN H H') (hn:H a=none) (ha:H' a=some (.lst xs)) (r:RepL K H' (fun b=>Ad B H M 2 b/\b≠a) ts xs):
  Sl K B fl Ex (σ.set i (some (.ref a))) (ρ.set i (some (.lst ts))) (a::M) H':=
 Sl.setC (ga:=fun _=>a) [a] S hi h0 s (fun D h=>by cases aM8.mp h;exact⟨hn,by rw[ha];simp⟩) rfl rfl (fun c us h=>by
  obtain⟨_,rfl⟩:=h;exact⟨xs,ha,r.weak fun b x=>⟨x.1,fun z=>x.2 (aM8.mp z)⟩,aM8.mpr rfl⟩) (fun c d us ws hne h h'=>by
  obtain⟨rfl,_⟩:=h;obtain⟨rfl,_⟩:=h';exact absurd rfl hne)
theorem Sl.writeC {t':T}{us:List T}{xs ys:List V}{a:Addr}{c:Nat}(S:Sl K B fl Ex σ ρ M H) (h0:fl.getD i 1=0) (e0:ρ[i]?=some (some t)) (hc:dF t c us) (hm1:im t'=false) (hm:a∈M) (ha:H a=some (.lst xs))
  (sh:∀ v ga,eR K H t v ga->σ[i]?=some (some v)->ga c=a/\eR K H t' v ga) {us':List T} (h1:∀ d ws,dF t' d ws->(d=c/\ws=us')\/(d≠c/\dF t d ws)) (r:RepL K H (Ad B H M 2) us' ys):
  Sl K B fl Ex σ (ρ.set i (some t')) M (upd H a (.lst ys)):=by
 have kp:∀ {l:Nat} (b:Addr) (o:HO),1<=l->Ad B H M l b->H b=some o->upd H a (.lst ys) b=some o:=fun b o hl hb e=>by
  rw[aS (fun z=>hb.1 hl (by rw[z];exact hm))];exact e
 obtain⟨g,hg,ap⟩:=S.mu;have gi:g i c=a:=by
  obtain⟨v1,s1,q1,_⟩:=hg i t e0 h0 (sE hc);exact (sh v1 _ q1 s1).1
 have has:∀ d ws,dF t' d ws->∃ ws',dF t d ws':=fun d ws h=>by
  rcases h1 d ws h with ⟨rfl,_⟩ | ⟨_,h⟩
  ·exact⟨us,hc⟩
  ·exact⟨ws,h⟩
 refine⟨fun b o e=>?_,fun j u e k=>?_,⟨g,fun j u e k hM=>?_,fun j j' d d' u u' ws ws' hne e e' k k' hM hM'=>?_⟩,fun p hp=>?_,fun b hb=>⟨(S.mB b hb).1,?_⟩,S.len⟩
 ·rw[aS (fun z=>by rw[z,(S.mB a hm).1] at e;cases e)]
  exact S.same b o e
 ·rcases dX e with ⟨rfl,rfl,_⟩ | ⟨hj,e⟩
  ·rcases k with k | k
   ·omega
   ·rw[hm1] at k;cases k
  ·obtain⟨w,e1,r1⟩:=S.slot j u e k
   rcases k with k | k
   ·exact⟨w,e1,Rep.keep (fun _ _ e=>gR ha e) (fun b o x e=>kp b o (by omega) x e) (fun b x _=>x.any (by omega)) u r1⟩
   ·exact⟨w,e1,yH (fun _ _ e=>gR ha e) u k r1⟩
 ·rcases dX e with ⟨rfl,rfl,_⟩ | ⟨hj,e⟩
  ·obtain⟨v1,s1,q1,q2⟩:=hg j t e0 h0 (sE hc)
   refine⟨v1,s1,(sh v1 _ q1 s1).2.keep fun _ _ e=>gR ha e,fun d ws h=>?_⟩;rcases h1 d ws h with ⟨rfl,rfl⟩ | ⟨hd,h'⟩
   ·rw[gi]
    exact⟨ys,cU,RepL.keep (fun _ _ e=>gR ha e) (fun b o x e=>kp b o (by omega) x e) (fun b x _=>x.any (by omega)) _ r,hm⟩
   ·obtain⟨zs,f1,f2,f3⟩:=q2 d ws h'
    have hne:g j d≠a:=fun z=>ap j j d c t t ws us (.inr hd) e0 e0 h0 h0 h' hc (z.trans gi.symm);exact⟨zs,by rw[aS hne];exact f1,RepL.keep (fun _ _ e=>gR ha e) (fun b o x e=>kp b o (by omega) x e) (fun b x _=>x.any (by omega)) ws f2,f3⟩
  ·obtain⟨v1,e1,e2,e3⟩:=hg j u e k hM
   refine⟨v1,e1,e2.keep fun _ _ e=>gR ha e,fun d ws h=>?_⟩;obtain⟨zs,f1,f2,f3⟩:=e3 d ws h;have hne:g j d≠a:=fun z=>ap j i d c u t ws us (.inl hj) e e0 k h0 h hc (z.trans gi.symm);exact⟨zs,by rw[aS hne];exact f1,RepL.keep (fun _ _ e=>gR ha e) (fun b o x e=>kp b o (by omega) x e) (fun b x _=>x.any (by omega)) ws f2,f3⟩
 ·have lk:∀ j u d ws,(ρ.set i (some t'))[j]?=some (some u)->dF u d ws->∃ u' ws',ρ[j]?=some (some u')/\dF u' d ws':=fun j u d ws e h=>by
   rcases dX e with ⟨z1,z2,_⟩ | ⟨_,f⟩
   ·subst z2
    obtain⟨ws',h'⟩:=has d ws h;exact⟨t,ws',by rw[z1];exact e0,h'⟩
   ·exact⟨u,ws,f,h⟩
  obtain⟨w,x,ew,hw⟩:=lk j u d ws e hM;obtain⟨w',x',ew',hw'⟩:=lk j' u' d' ws' e' hM';exact ap j j' d d' w w' x x' hne ew ew' k k' hw hw'
 ·exact Rep.keep (fun _ _ e=>gR ha e) (fun b o x e=>kp b o (by omega) x e) (fun b x _=>x.any (by omega)) p.1 (S.ex p hp)
 ·by_cases hb':b=a
  ·rw[hb',cU];simp
  ·rw[aS hb'];exact (S.mB b hb).2
theorem Sl.write {ts us:List T}{xs ys:List V}{a:Addr}(S:Sl K B fl Ex σ ρ M H) (h0:fl.getD i 1=0) (e0:ρ[i]?=some (some (.lst ts))) (ea:σ[i]?=some (some (.ref a))) (hm:a∈M) (ha:H a=some (.lst xs)) (r:RepL K H (Ad B H M 2) us ys):
  Sl K B fl Ex σ (ρ.set i (some (.lst us))) M (upd H a (.lst ys)):=
 S.writeC (c:=0) (us':=us) h0 e0 ⟨rfl,rfl⟩ rfl hm ha (fun v ga q e=>by
  rw[ea] at e;have h1:V.ref a=v:=aK6 (aK6 e);have h2:v=V.ref (ga 0):=q;exact⟨(V.ref.inj (h1.trans h2)).symm,h2⟩) (fun d ws h=>.inl h) r
theorem Sl.fewer {ps:List (T × V)}(S:Sl K B fl (ps++Ex) σ ρ M H):Sl K B fl Ex σ ρ M H:=⟨S.same,S.slot,S.mu,fun q hq=>S.ex q (aM0 _ hq),S.mB,S.len⟩
theorem Sl.plus {ps:List (T × V)}(S:Sl K B fl Ex σ ρ M H) (r:∀ p∈ps,Rep K H (Ad B H M 1) p.1 p.2):Sl K B fl (ps++Ex) σ ρ M H:=⟨S.same,S.slot,S.mu,fun q hq=>by
 rcases aLy.mp hq with hq | hq
 ·exact r q hq
 ·exact S.ex q hq,S.mB,S.len⟩
end
section
variable {X:Cx}{B:Hp}{fl:List Nat}{n n':Bool}{l l':Nat}{st:Stmt}{rest body els:List Stmt}{r r1 r2:Rho->Option Out}{e c:Expr}{f g:Rho->Option T}{p:Rho->Option Bool}{pos pos':Pos}{i:Nat}{x:Str}
theorem bU:GSs X B fl n l [] bO:=JZ aDt fun D σ H ⟨Ex,ρ,M,o,S,hr,q⟩=>by
 cases (aK6 hr);exact q σ M H S
theorem aI (h1:GS X B fl n l st r1) (h2:GSs X B fl n l rest r2):GSs X B fl n l (st::rest) (aH r1 r2):=by
 refine JZ (aDs h1 h2) ?_;rintro D σ H ⟨Ex,ρ,M,o,S,hr,q⟩;obtain⟨o1,h1,hr⟩:=bind_some hr;refine⟨Ex,ρ,M,o1,S,h1,?_⟩;cases o1 with
 | nx ρ'=>exact fun σ' M' H' S'=>⟨Ex,ρ',M',o,S',hr,q⟩
 | rt t=>cases (aK6 hr);exact q
 | bk ρ'=>cases (aK6 hr);exact q
 | ct ρ'=>cases (aK6 hr);exact q
theorem aJ (h1:GS X B fl n l st r1):GSs X B fl n l [st] r1:=aDu h1
theorem aU (i:Nat) (he:GE X B fl e f n' l') (hN:X.N.Nodup) (hi:X.N[i]?=some x) (hx:Loc X.env.scope x) (hfl:(decide (i<fl.length)&&decide (1<=fl.getD i 1)&&decide (fl.getD i 1<=l'))=true)
  (hs:swapsWith e (some (.Name x pos')) pos.line X.env=pure false:=by rfl) (hf:X.fn x=true\/X.env.scope.names.lookup x=some .local:=by first | exact .inl rfl | exact .inr rfl | assumption):
  GS X B fl n l (.Assign [.Name x pos'] e pos) (aO i f):=by
 refine eB (JY hN hi hx he hs hf) ?_;rintro D σ H ⟨Ex,ρ,M,o,S,hr,q⟩;simp only[aKn,decide_eq_true_eq] at hfl;unfold aO at hr;cases e1:f ρ with
 | none=>rw[e1] at hr;cases hr
 | some t=>
  rw[e1] at hr;cases (aK6 hr);refine⟨Ex,ρ,M,t,S,e1,fun v H1 s1 rx=>q _ M H1 ((S.grow s1).set hfl.1.1 (.inl hfl.1.2) ?_)⟩;exact (rx.rep S).weak fun b x=>⟨fun z=>x.1 (by omega),fun z=>x.2.1 (by omega),fun z=>by omega⟩
theorem LR {ρ:Rho}{σ:St}{H H1:Hp}{M:List Addr}{Ex:List (T × V)}{t:T}{v:V}{o:Out}{D:Ends}(S:Sl X.K B fl Ex σ ρ M H) (hfl:i<fl.length/\fl.getD i 1=0/\2<=l')
  (hr:(if okM t then some (Out.nx (ρ.set i (some t))) else none)=some o) (q:zM X.K B fl n l Ex D o) (s1:aN H H1) (rx:aL X.K B H M H1 true l' t v):D.nx (σ.set i (some v)) H1:=by
 split at hr
 rotate_left
 ·cases hr
 rename_i hok;cases (aK6 hr)
 by_cases hl:∃ ts,t=.lst ts
 ·obtain⟨ts,rfl⟩:=hl
  obtain⟨a,xs,rfl,h1,h2,h3⟩:=rx;exact q _ _ H1 (S.setM hfl.1 hfl.2.1 s1 h1 h2 (h3.weak fun b x=>⟨x.1.le hfl.2.2,x.2⟩))
 ·have him:im t=true:=by
   cases t with
   | lst ts=>exact absurd ⟨ts,rfl⟩ hl
   | non=>exact hok
   | bl _=>exact hok
   | int _=>exact hok
   | str _=>exact hok
   | tup _=>exact hok
   | exc _=>exact hok
  exact q _ _ H1 ((S.grow s1).set hfl.1 (.inr him) (qS t him (rx.rep S)))
theorem gZ (i:Nat) (he:GE X B fl e f true l') (hN:X.N.Nodup) (hi:X.N[i]?=some x) (hx:Loc X.env.scope x) (hfl:(decide (i<fl.length)&&decide (fl.getD i 1=0)&&decide (2<=l'))=true)
  (hs:swapsWith e (some (.Name x pos')) pos.line X.env=pure false:=by rfl) (hf:X.fn x=true\/X.env.scope.names.lookup x=some .local:=by first | exact .inl rfl | exact .inr rfl | assumption):
  GS X B fl n l (.Assign [.Name x pos'] e pos) (dA i f):=by
 refine eB (JY hN hi hx he hs hf) ?_;rintro D σ H ⟨Ex,ρ,M,o,S,hr,q⟩;simp only[aKn,decide_eq_true_eq,and_assoc] at hfl;obtain⟨t,e1,hr⟩:=bind_some hr;exact⟨Ex,ρ,M,t,S,e1,fun v H1 s1 rx=>LR S hfl hr q s1 rx⟩
section
variable {elt iter:Expr}{x0:Str}{p0 cpos:Pos}{ifs:List Expr}{scope:Scope}{N':List Str}{src:List (Option Nat)}{fl':List Nat}{fi:Rho->Option (List T)}{li:Nat}{sc:Bool}{spos:Pos}
theorem WQ (i:Nat) (S:BlkOk X scope N' src) (F:FlOk X N' src fl fl' li sc) (hc:X.calm=true) (hi:GI X B fl (.Name x0 p0) iter fi li sc) (hN0:N'[0]?=some x0) (hx0:sW (scope.names.lookup x0)=true)
  (hb:∀ cl C s H ex,GIf (cxB X scope N' cl C s H ex) B fl' ifs p/\GE (cxB X scope N' cl C s H ex) B fl' elt f n' l') (hN:X.N.Nodup) (hiN:X.N[i]?=some x) (hx:Loc X.env.scope x) (hfl:(decide (i<fl.length)&&decide (1<=fl.getD i 1)&&decide (fl.getD i 1<=l')&&decide (1<=l'))=true)
  (hsw:swapsWith (.ListComp elt [⟨.Name x0 p0,iter,ifs,0⟩] scope cpos) (some (.Name x pos')) spos.line X.env=pure true:=by rfl)
  (hs:∀ x,foldedSetIterable iter X.env x=pure x:=by intro _;rfl) (hf:X.fn x=true\/X.env.scope.names.lookup x=some .local:=by first | exact .inl rfl | exact .inr rfl | assumption):
  GS X B fl n l (.Assign [.Name x pos'] (.ListComp elt [⟨.Name x0 p0,iter,ifs,0⟩] scope cpos) spos) (aO i (cW fi src p f)):=by
 refine eB (GU S hc hi F.nd hN0 hx0 hb hN hiN hx hsw hs hf) ?_;rintro D σ H ⟨Ex,ρ,M,o,S,hr,q⟩;simp only[aKn,decide_eq_true_eq] at hfl;unfold aO at hr;cases e1:cW fi src p f ρ with
 | none=>rw[e1] at hr;cases hr
 | some t=>
  rw[e1] at hr;cases (aK6 hr);refine AF F hfl.2 ⟨Ex,ρ,M,t,S,e1,fun v H1 s1 rx=>q _ M H1 ((S.grow s1).set hfl.1.1.1 (.inl hfl.1.1.2) ?_)⟩;exact (rx.rep S).weak fun b x=>⟨fun z=>x.1 (by omega),fun z=>x.2.1 (by omega),fun z=>by omega⟩
theorem sD (i:Nat) (S:BlkOk X scope N' src) (F:FlOk X N' src fl fl' li sc) (hc:X.calm=true) (hi:GI X B fl (.Name x0 p0) iter fi li sc) (hN0:N'[0]?=some x0) (hx0:sW (scope.names.lookup x0)=true)
  (hb:∀ cl C s H ex,GIf (cxB X scope N' cl C s H ex) B fl' ifs p/\GE (cxB X scope N' cl C s H ex) B fl' elt f n' l') (hN:X.N.Nodup) (hiN:X.N[i]?=some x) (hx:Loc X.env.scope x) (hfl:(decide (i<fl.length)&&decide (fl.getD i 1=0)&&decide (2<=l'))=true)
  (hsw:swapsWith (.ListComp elt [⟨.Name x0 p0,iter,ifs,0⟩] scope cpos) (some (.Name x pos')) spos.line X.env=pure true:=by rfl)
  (hs:∀ x,foldedSetIterable iter X.env x=pure x:=by intro _;rfl) (hf:X.fn x=true\/X.env.scope.names.lookup x=some .local:=by first | exact .inl rfl | exact .inr rfl | assumption):
  GS X B fl n l (.Assign [.Name x pos'] (.ListComp elt [⟨.Name x0 p0,iter,ifs,0⟩] scope cpos) spos) (dA i (cW fi src p f)):=by
 refine eB (GU S hc hi F.nd hN0 hx0 hb hN hiN hx hsw hs hf) ?_;rintro D σ H ⟨Ex,ρ,M,o,S,hr,q⟩;simp only[aKn,decide_eq_true_eq,and_assoc] at hfl;obtain⟨t,e1,hr⟩:=bind_some hr;exact AF F (by have:=hfl.2.2;omega) ⟨Ex,ρ,M,t,S,e1,fun v H1 s1 rx=>LR S hfl hr q s1 rx⟩
end
theorem bS (hc:GT X B fl c p) (ha:GSs X B fl n l body r1) (hb:GSs X B fl n l els r2):GS X B fl n l (.If c body els pos) (rIf p r1 r2):=by
 refine eB (aDn hc ha hb) ?_;rintro D σ H ⟨Ex,ρ,M,o,S,hr,q⟩;obtain⟨b,hb,hr⟩:=bind_some hr;refine⟨Ex,ρ,M,b,S,hb,fun H1 s1=>?_⟩;cases b with
 | true=>exact jN ⟨Ex,ρ,M,o,S.grow s1,hr,q⟩
 | false=>exact jM ⟨Ex,ρ,M,o,S.grow s1,hr,q⟩
theorem aEr {ρ:Rho}{σ:St}{H H1:Hp}{M:List Addr}{Ex:List (T × V)}{t:T}{v:V}(S:Sl X.K B fl Ex σ ρ M H) (h:(n=true->n'=true)/\(l=0\/2<=l')) (rx:aL X.K B H M H1 n' l' t v):aL X.K B B [] H1 n l t v:=by
 have ad:∀ b,Ad B H M l' b->Ad B B [] l b:=fun b x=>⟨fun _ z=>by simp at z,fun z=>x.2.1 (by omega),fun z=>x.2.1 (by omega)⟩;cases n with
 | false=>cases t<;>exact (rx.rep S).weak ad
 | true=>
  have e:=h.1 rfl;subst e;cases t with
  | lst ts=>
   obtain⟨a,xs,e,h1,h2,h3⟩:=rx;exact⟨a,xs,e,S.same.free h1,h2,h3.weak fun b x=>⟨ad b x.1,x.2⟩⟩
  | non=>exact rx
  | bl _=>exact rx
  | int _=>exact rx
  | str _=>exact rx
  | tup _=>exact Rep.weak ad rx
  | exc _=>exact rx
theorem BA (i:Nat) {apos p2:Pos}(he:GE X B fl e f n' l') (h1:(decide (fl.getD i 1=0)&&decide (2<=l'))=true) (hN:X.N[i]?=some x:=by rfl) (hv:Vis X.env.scope x:=by first | exact Or.inl rfl | exact Or.inr (Or.inl rfl) | exact Or.inr (Or.inr rfl))
  (hd:(x == ("__debug__" : Str))=false:=by decide) (hcd:(x == ("__classdict__" : Str))=false:=by decide)
  (hbase:attributeBase (.Name x p2) "append" X.env (eval (.Name x p2) X.env)=eval (.Name x p2) X.env:=by rfl)
  (hfew:((backTo pos' (starEach [e] X.env)).all (fun x=>!x.1)&&(backToKw pos' (keywordEach [] X.env)).all (fun x=>x.1.isSome)
   && decide (([e]:List Expr).length+([]:List Keyword).length+(if ([]:List Keyword).isEmpty then 0 else 1)<30))=true:=by rfl)
  (hline:(apos.endLine == pos'.line)=true:=by rfl) (hs:starEach [e] X.env=[(false,eval e X.env)]:=by rfl) (hsw:swapsWith (.Call (.Attribute (.Name x p2) "append" apos) [e] [] pos') none pos.line X.env=pure false:=by rfl):
  GS X B fl n l (.Expr (.Call (.Attribute (.Name x p2) "append" apos) [e] [] pos') pos) (tD i f):=by
 simp only[aKn,decide_eq_true_eq] at h1;refine eB (CH (CB PySem.F.plainAttrs_list PySem.F.slot_list_append PySem.F.type_list_append IW (pv (X:=X) i hN hv hd hcd) (eI he hX hs) hbase hfew hline hs rfl) hsw) ?_;rintro D σ H ⟨Ex,ρ,M,o,S,hr,q⟩;obtain⟨t,e1,hr⟩:=bind_some hr;obtain⟨y,e2,hr⟩:=bind_some hr;cases t<;>first | (cases hr;done) | skip
 dsimp only at hr;split at hr
 ·rename_i hl
  cases (aK6 hr);have e1':=sA e1;obtain⟨a,ts,xs,e3,e4,e5,e6,e7⟩:=S.muL i _ e1' h1.1;cases e3;refine⟨_,e4,.inl ⟨rfl,xs,SqL.of e5⟩,?_⟩;refine⟨Ex,ρ,M,y,S,e2,fun v H1 s1 rx=>?_⟩;refine⟨a,xs,v,rfl,rfl,s1 _ _ e5,by rw[<- e6.length];exact gH (aMf hl),?_⟩;refine q σ M _ ((S.grow s1).write h1.1 e1' e4 e7 (s1 _ _ e5) (RepL.app ((e6.grow s1).weak fun b x=>x.any (by omega)) (RepL.one ((rx.rep S).weak fun b x=>?_))));exact⟨fun z=>x.1 (by omega),fun z=>x.2.1 (by omega),fun z=>by omega⟩
 ·cases hr
theorem mJ (i:Nat) {k:Expr}{fk:Rho->Option T}{nk:Bool}{lk:Nat}{p2 p3:Pos}(he:GE X B fl e f n' l') (hk:GE X B fl k fk nk lk) (h1:(decide (fl.getD i 1=0)&&decide (2<=l'))=true) (hN:X.N[i]?=some x:=by rfl)
  (hv:Vis X.env.scope x:=by first | exact Or.inl rfl | exact Or.inr (Or.inl rfl) | exact Or.inr (Or.inr rfl))
  (hd:(x == ("__debug__" : Str))=false:=by decide) (hcd:(x == ("__classdict__" : Str))=false:=by decide)
  (ha:∀ v,assign (.Subscript (.Name x p2) k p3) X.env v=(do
   let ov <- holding [v] (eval (.Name x p2) X.env)
   let iv <- holding [v,ov] (eval k X.env)
   standAt p3
   holding [v,ov,iv] (setItem ov iv v)
   release [v,ov,iv] []):=by intro _;rfl)
  (hs:swapsWithSole [.Subscript (.Name x p2) k p3] e pos.line X.env=pure false:=by rfl) (hw:swappedStores [.Subscript (.Name x p2) k p3] e X.env=pure none:=by rfl)
  (h2:(assignEach [.Subscript (.Name x p2) k p3] X.env).map (·.2)=[assign (.Subscript (.Name x p2) k p3) X.env]:=by rfl):
  GS X B fl n l (.Assign [.Subscript (.Name x p2) k p3] e pos) (hZ i fk f):=by
 simp only[aKn,decide_eq_true_eq] at h1;refine eB (aDm he (aD6 (pv (X:=X) i hN hv hd hcd) hk aFj ha) hs hw h2) ?_;rintro D σ H ⟨Ex,ρ,M,o,S,hr,q⟩;obtain⟨y,e2,hr⟩:=bind_some hr;obtain⟨t,e1,hr⟩:=bind_some hr;obtain⟨kk,ek,hr⟩:=bind_some hr;have ht2:∃ ts j,t=.lst ts/\kk=.int j:=by
  cases t<;>first | (cases hr;done) | skip
  cases kk<;>first | (cases hr;done) | exact⟨_,_,rfl,rfl⟩
 obtain⟨ts,j,rfl,rfl⟩:=ht2;dsimp only at hr;cases ej:ixN ts.length j with
 | none=>rw[ej] at hr;cases hr
 | some j'=>
  rw[ej] at hr;cases (aK6 hr);have e1':=sA e1;refine⟨Ex,ρ,M,y,S,e2,fun v H1 s1 rx=>?_⟩;obtain⟨a,ts',xs,e3,e4,e5,e6,e7⟩:=S.muL i _ e1' h1.1;cases e3;refine⟨_,e4,?_⟩;refine⟨Ex,ρ,M,_,S.grow s1,ek,fun vk H2 s2 rk=>?_⟩;have S2:=S.grow (s1.trans s2);refine⟨a,xs,j,j',rfl,(aL.scal rfl).mp rk,(s1.trans s2) _ _ e5,by rw[<- e6.length];exact ej,?_⟩;refine q σ M _ (S2.write h1.1 e1' e4 e7 ((s1.trans s2) _ _ e5) (RepL.set j' ((rx.rep S).grow s2 |>.weak fun b x=>?_) ((e6.grow (s1.trans s2)).weak fun b x=>x.any (by omega))));exact⟨fun z=>x.1 (by omega),fun z=>x.2.1 (by omega),fun z=>by omega⟩
theorem cA (j:Nat) {iter:Expr}{fi:Rho->Option (List T)}{li:Nat}{sc:Bool}{tpos:Pos}(hp:PassesOwn (model X.prog X.w) X.A X.env X.xe) (hc:X.calm=true) (hi:GI X B fl (.Name x tpos) iter fi li sc) (hN:X.N.Nodup) (hj:X.N[j]?=some x) (hx:Loc X.env.scope x)
  (hb:GSs X B fl n l body r) (hfl:(decide (j<fl.length)&&decide (fl.getD j 1=1)&&decide (1<=li))=true)
  (hs:∀ x,foldedSetIterable iter X.env x=pure x:=by intro _;rfl) (hf:X.fn x=true\/X.env.scope.names.lookup x=some .local:=by first | exact .inl rfl | exact .inr rfl | assumption):
  GS X B fl n l (.For (.Name x tpos) iter body [] pos) (bW j fi r):=by
 simp only[aKn,decide_eq_true_eq,and_assoc] at hfl;refine eB (JX hp hc hi (xX hN hj hx hf) hb hs) ?_;rintro D σ H ⟨Ex,ρ,M,o,S,hr,q⟩;obtain⟨ts,hts,hr⟩:=bind_some hr;refine⟨Ex,ρ,M,ts,S,hts,fun J H1 ps s1 rp wk=>?_⟩;refine⟨fun i m σ1 H2=>m=ts.length-i/\i<=ts.length/\∃ ρ1 M1,Sl X.K B fl (ps++Ex) σ1 ρ1 M1 H2/\bL j r (ts.drop i) ρ1=some o,⟨ts.length,by simp,aMx _,ρ,M,(S.grow s1).plus (fun p hp=>(rp p hp).weak fun b x=>⟨fun z=>x.1 (by omega),fun z=>by omega,fun z=>by omega⟩),hr⟩,?_⟩;rintro i m σ1 H2 ⟨rfl,hi,ρ1,M1,S1,e1⟩;have w:=wk H2 _ (fun p hp=>S1.ex p (aLz _ hp)) i
 by_cases hlt:i<ts.length
 ·have et:ts[i]?=some ts[i]:=aK8 hlt
  obtain⟨go,yl⟩:=w.1 _ et;rw[List.drop_eq_getElem_cons hlt] at e1;unfold bL at e1;obtain⟨o1,h1,e1⟩:=bind_some e1;refine .inr ⟨go,fun σ' H'=>∃ ρ1 M1,Sl X.K B fl (ps++Ex) σ' ρ1 M1 H'/\bL j r (ts.drop (i+1)) ρ1=some o,fun σ' H' ⟨ρ',M',S',e'⟩=>⟨ts.length-(i+1),by omega,rfl,hlt,ρ',M',S',e'⟩,fun y H3 hy=>?_⟩;obtain⟨s23,ry⟩:=yl y H3 hy;have ry':Rep X.K H3 (Ad B H3 M1 (min (fl.getD j 1) 2)) ts[i] y:=ry.weak fun c hc=>by
   obtain⟨_,hc⟩:=hc;rcases hc with hc | hc
   ·exact⟨fun z=>hc.1 (aMg _),fun z=>by omega,fun z=>by omega⟩
   ·exact⟨fun _ z=>(S1.mB c z).2 hc,fun z=>by omega,fun z=>by omega⟩
  refine⟨ps++Ex,_,M1,o1,(S1.grow s23).set hfl.1 (.inl (by omega)) ry',h1,?_⟩;cases o1 with
  | nx ρ'=>exact fun σ' M' H' S'=>⟨ρ',M',S',e1⟩
  | ct ρ'=>exact fun σ' M' H' S'=>⟨ρ',M',S',e1⟩
  | bk ρ'=>cases (aK6 e1);exact fun σ' M' H' S'=>q σ' M' H' S'.fewer
  | rt t=>cases (aK6 e1);exact q
 ·have ei:i=ts.length:=by omega
  subst ei;rw[List.drop_eq_nil_of_le (aMg _)] at e1;cases (aK6 (show some (Out.nx ρ1)=some o from e1));exact .inl ⟨w.2 (aMg _),q σ1 M1 H2 S1.fewer⟩
end
def spT (K:PySem.W.Frag) (F:List T->Option T) (n:Bool) (l:Nat):Sp:=fun vs H Q _=>
 ∃ ts t,RepL K H (fun _=>True) ts vs/\F ts=some t/\∀ v H',aN H H'->aL K H H [] H' n l t v->Q v H'
structure Cal (P:Program) (w:World) (K:PySem.W.Frag) (mg:Str->Option Value) (base:Heap) (x:Str) (k:Nat) (ps:List Str) (F:List T->Option T) (n:Bool) (l:Nat):Prop where
 ex:∃ f fd,FnOk P w K mg base CX0 k f fd ps (spT K F n l)/\mg x=some (.ref f)/\PySem.W.keepIn K (.ref f)=true/\fE K fd ps []
section
variable {X:Cx}{B:Hp}{fl:List Nat}{e:Expr}{es:List Expr}{f:Rho->Option T}{fa:Rho->Option (List T)}{n n':Bool}{l l' k:Nat}{pos p':Pos}{x:Str}{ps:List Str}{F:List T->Option T}
theorem aL.called {K:PySem.W.Frag}{H H1 H2:Hp}{Ex:List (T × V)}{σ:St}{ρ:Rho}{M:List Addr}{t:T}{v:V}(S:Sl K B fl Ex σ ρ M H) (s1:aN H H1) (hl:l=0\/l=3) (r:aL K H1 H1 [] H2 n l t v):aL K B H M H2 n l t v:=by
 have S1:=S.grow s1;have ad:∀ b,Ad H1 H1 [] l b->Ad B H M l b:=fun b x=>by
  rcases hl with rfl | rfl
  ·exact Ad.zero
  ·have hn:=x.2.2 (by lia)
   exact⟨fun _ z=>(S1.mB b z).2 hn,fun _=>S1.same.free hn,fun _=>s1.free hn⟩
 cases n with
 | false=>cases t<;>exact Rep.weak ad r
 | true=>
  cases t with
  | lst ts=>
   obtain⟨a,xs,e,h1,h2,h3⟩:=r;exact⟨a,xs,e,s1.free h1,h2,h3.weak fun b x=>⟨ad b x.1,x.2⟩⟩
  | non=>exact r
  | bl _=>exact r
  | int _=>exact r
  | str _=>exact r
  | tup _=>exact Rep.weak ad r
  | exc _=>exact r
theorem aR (C:Cal X.prog X.w X.K X.mg X.base x k ps F n l) (hr:Room k X.A) (hg:Gl X x) (ha:GA X B fl (e::es) fa l') (hl:(decide (l=0)||decide (l=3))=true:=by rfl) (hdb:(x == ("__debug__" : Str))=false:=by decide)
  (he:starEach (e::es) X.env=(false,eval e X.env)::starEach es X.env:=by rfl) (hpl:(backTo pos (starEach es X.env)).any (·.1)=false:=by rfl):GE X B fl (.Call (.Name x p') (e::es) [] pos) (aG fa F) n l:=by
 obtain⟨f,fd,FO,hm,hk,hb⟩:=C.ex;refine bD (JH FO hr hg hm hk hb .nil JF ha hdb he hpl) ?_;rintro σ H Q ⟨Ex,ρ,M,t,S,hf,q⟩;obtain⟨ts,hts,hf⟩:=bind_some hf;simp only[aKt,decide_eq_true_eq] at hl;refine⟨Ex,ρ,M,ts,S,hts,fun vs H1 s1 r1=>?_⟩;show spT X.K F n l (vs++[]) H1 Q E0;rw[aL3];exact⟨ts,t,r1.weak fun _ _=>trivial,hf,fun v H2 s2 r2=>q v H2 (s1.trans s2) (r2.called S s1 hl)⟩
end
section
variable {P:Program}{w:World}{K:PySem.W.Frag}{mg:Str->Option Value}{base:Heap}
def pU:Out->T->Prop
 | .rt t,u=>t=u
 | .nx _,u=>u=.non
 | _,_=>False
theorem DB {H:Hp}{fl:List Nat}{N ps:List Str}{ts:List T}{vs:List V}(hfl:fl.length=N.length) (hp:∀ i,i<ps.length->fl.getD i 1=1) (hl:ts.length=ps.length) (r:RepL K H (fun _=>True) ts vs) (hN:ps.length<=N.length):
  Sl K H fl [] (L2.start N vs) (ts.map some++List.replicate (N.length-ps.length) none) [] H:=by
 have hlv:=r.length;have get:∀ i t,(ts.map some++List.replicate (N.length-ps.length) none)[i]?=some (some t)->ts[i]?=some t/\i<ps.length:=fun i t e=>by
  by_cases hi:i<ts.length
  ·rw[List.getElem?_append_left (by simpa using hi),aLh] at e
   rw[aK8 hi] at e ⊢;exact⟨aK6 e,by lia⟩
  ·rw[List.getElem?_append_right (by simpa using hi),List.getElem?_replicate] at e
   split at e<;>cases e
 refine⟨aN.refl H,fun i t e k=>?_,⟨fun _ _=>0,fun i t e k=>?_,fun i j c d t u us ws _ e _ k=>?_⟩,fun p hp=>by simp at hp,fun a ha=>by simp at ha,?_⟩
 ·obtain⟨e1,hi⟩:=get i t e
  obtain⟨v,e2,r2⟩:=r.get e1;refine⟨v,?_,r2.weak fun b _=>?_⟩
  ·unfold L2.start
   rw[List.getElem?_append_left (by rw[aLo];lia),aLh,e2]
   rfl
  ·rw[hp i hi]
   exact⟨fun _ z=>by simp at z,fun z=>by lia,fun z=>by lia⟩
 ·obtain⟨_,hi⟩:=get i t e
  rw[hp i hi] at k;cases k
 ·obtain⟨_,hi⟩:=get i t e
  rw[hp i hi] at k;cases k
 ·unfold L2.start
  rw[hfl,aLl,aLo,List.length_replicate];lia
theorem gfn {x qual:Str}{st:Stmt}{f:Addr}{fd:FuncData}{N ps:List Str}{k:Nat}{fl:List Nat}{n:Bool}{l:Nat}{F:List T->Option T}{run:Rho->Option Out}(Fu:Fun K x qual st f fd) (S:FnScope N ps (defScope st))
  (hfl:fl.length=N.length) (hp:∀ i,i<ps.length->fl.getD i 1=1) (hlen:∀ ts t,F ts=some t->ts.length=ps.length)
  (hb:∀ (cdv:Value) (A:Around) (outer:List Env) (s:Shared) (H:Hp) (E:XK),Room k (A.deeper (envOfC qual (defScope st) s.heap.objs.size f cdv)) ->
   GSs (aQ CX0 P w K mg base N qual (defScope st) f cdv A outer s H E).nox H fl n l (defBody st) run)
  (hrun:∀ ts t,F ts=some t->∃ o,run (ts.map some++List.replicate (N.length-ps.length) none)=some o/\pU o t) (hl4:l≠4:=by decide):FnOk P w K mg base CX0 (k+1) f fd ps (spT K F n l):=by
 have hN:ps.length<=N.length:=by have:=congrArg List.length S.pre;rw[aLt] at this;lia
 refine Fu.ok S (fun vs H Q E h=>?_) (fun cdv A outer s H vs Q E hr h=>?_)
 ·obtain⟨ts,t,r,hf,_⟩:=h
  rw[<- r.length];exact hlen ts t hf
 ·obtain⟨ts,t,r,hf,q⟩:=h
  refine⟨_,hb cdv A outer s H E hr,?_⟩;obtain⟨o,ho,hi⟩:=hrun ts t hf;refine⟨[],_,[],o,DB hfl hp (hlen ts t hf) r hN,ho,?_⟩;cases o with
  | rt u=>
   cases (show u=t from hi);exact fun v H' s' r'=>q v H' s' ((RtX.of hl4).mp r')
  | nx ρ'=>
   cases (show t=.non from hi);exact fun σ' M' H' S'=>q _ H' S'.same ((aL.scal rfl).mpr rfl)
  | bk _=>exact False.elim hi
  | ct _=>exact False.elim hi
end
def MX:T->String
 | .non => "NoneType"
 | .bl _ => "bool"
 | .int _ => "int"
 | .str _ => "str"
 | .lst _ => "list"
 | .tup _ => "tuple"
 | .exc _ => "NoneType"
def xD (c:String):T->Bool
 | .non=>c == "NoneType"
 | .bl _=>c == "bool" || c == "int"
 | .int _=>c == "int"
 | .str _=>c == "str"
 | .lst _=>c == "list"
 | .tup _=>c == "tuple"
 | .exc _=>c == "NoneType"
def vV (c:String):Prop:=(∀ (K:PySem.W.Frag) (t:T),PySem.W.kitOne K (.type (MX t)) (.type c)=some (xD c t))/\c∈(["int","bool","list","tuple","str"]:List String)
theorem XZ:vV "int" := ⟨by intro K t;cases t<;>rfl,by simp⟩
theorem XY:vV "bool" := ⟨by intro K t;cases t<;>rfl,by simp⟩
theorem YA:vV "list" := ⟨by intro K t;cases t<;>rfl,by simp⟩
section
variable {X:Cx}{B:Hp}{fl:List Nat}{e:Expr}{es:List Expr}{f:Rho->Option T}{fa:Rho->Option (List T)}{n n':Bool}{l l' k:Nat}{pos p' p2:Pos}{x:Str}{ps:List Str}{F:List T->Option T}
theorem XX {pins:List (Addr × Obj)}{σ:St}{H:Hp}{s:Shared}{A:Around}{E:Value->Shared->Prop}{Q:Value->Shared->Prop}{c:Value}{b:Bool}{Ad:Addr->Prop}{t:T}{v:V}{u:Value}(I:Inv X pins σ H s) (r:Rep X.K H Ad t v) (rx:aV v u)
  (e:PySem.W.kitOne X.K (.type (MX t)) c=some b) (hx:∀ nm C,t=.exc nm->fF X.K nm C->PySem.W.kitOne X.K (.ref C) c=some b) (h:∀ tk,Q (.bool b) { s with toks:=tk }):wpAny (model X.prog X.w) A (call (.builtin "isinstance") [u,c]) Q E s:=by
 cases t with
 | non=>cases (show _=_ from r);cases rx;exact aN4 PySem.W.kitx_none I.kIn True.intro e (fun z=>nomatch z) h
 | bl y=>cases (show _=_ from r);cases rx;exact aN4 PySem.W.kitx_bool I.kIn True.intro e (fun z=>nomatch z) h
 | int y=>cases (show _=_ from r);obtain⟨k,rfl⟩:=rx;exact aN4 PySem.W.kitx_int I.kIn True.intro e (fun z=>nomatch z) h
 | str y=>cases (show _=_ from r);obtain⟨k,rfl⟩:=rx;exact aN4 PySem.W.kitx_str I.kIn True.intro e (fun z=>nomatch z) h
 | lst ts=>
  obtain⟨a,xs,rfl,h1,h2⟩:=r.sqL;cases rx;obtain⟨its,_,⟨o,m,h3,h4,_,_⟩,_⟩:=I.list h1;exact aN4 PySem.W.kitx_list I.kIn ⟨o,h3,h4⟩ e (fun z=>nomatch z) h
 | tup ts=>
  obtain⟨a,xs,rfl,h1,h2⟩:=r.sqT;cases rx;obtain⟨its,_,⟨o,h3,h4,_⟩,_⟩:=I.tuple h1;exact aN4 PySem.W.kitx_tuple I.kIn ⟨o,h3,h4⟩ e (fun z=>nomatch z) h
 | exc nm=>
  obtain⟨a,C,rfl,k,h1⟩:=r;cases rx;have ho:∃ oe,s.heap.get? a=some oe/\oe.cls=.ref C:=by
   rcases h1 with h1 | ⟨o,h1⟩
   ·obtain⟨⟨oe,vs,g1,g2,_⟩,_⟩:=I.hok a _ h1
    exact⟨oe,g1,g2⟩
   ·obtain⟨_,⟨oe,vs,g1,g2,_⟩,_⟩:=I.hok a _ h1
    exact⟨oe,g1,g2⟩
  exact aN4 (k.2.1 a) I.kIn ho (hx nm C rfl k) (fun z=>nomatch z) h
def qO (c:String):T->Option T:=fun t=>some (.bl (xD c t))
theorem AW {x y:Str}{c:String}(hx:x = "isinstance") (hc:vV c) (hg:Gl X x) (hm:X.mg x=none) (hg':Gl X y) (hm':X.mg y=none) (hv:bootBuiltins y=some (.type c)) (he:GE X B fl e f n l)
  (hn:y ≠ "__name__" := by decide) (hd:(y == ("__debug__" : Str))=false:=by decide)
  (h1:starEach [e,.Name y p2] X.env=(false,eval e X.env)::starEach [.Name y p2] X.env:=by rfl) (h2:starEach [.Name y p2] X.env=[(false,eval (.Name y p2) X.env)]:=by rfl) (hpl:(backTo pos (starEach [.Name y p2] X.env)).any (·.1)=false:=by rfl):
  GE X B fl (.Call (.Name x p') [e,.Name y p2] [] pos) (f1 f (qO c)) true 3:=by
 subst hx;have cr:eN X (.builtin "isinstance") (fun xs H Q=>∃ v t A,xs=[v,.ty c]/\Rep X.K H A t v/\Q (.bl (xD c t)) H):=by
  intro pins s σ H xs us Q I r h;obtain⟨v,t,A,rfl,rt,q⟩:=h;obtain⟨u,w',rfl,r1,r2⟩:=zJ r;cases r2;exact XX I rt r1 (hc.1 X.K t) (fun nm C e k=>by
   subst e;have:=k.2.2 c hc.2;rw[this];have hc2:=hc.2;simp only[aKi,aMb,or_false] at hc2;rcases hc2 with rfl | rfl | rfl | rfl | rfl<;>rfl) fun tk=>⟨.bl _,H,I.tok tk,rfl,q⟩
 refine bD (jS cr hg hm PyProof.Rows.boot_isinstance (eI he (eI (JG (v:=.ty c) hg' hm' hv rfl hn hd) hX h2) h1) (by decide) (by decide) h1 hpl) ?_;rintro σ H Q ⟨Ex,ρ,M,t,S,hf,q⟩;obtain⟨u,hu,hf⟩:=bind_some hf;cases (aK6 hf);exact⟨Ex,ρ,M,u,S,hu,fun v H1 s1 r1=>⟨v,u,_,rfl,r1.rep S,q _ H1 s1 ((aL.scal rfl).mpr rfl)⟩⟩
def xK:T->Option T
 | .int i=>some (.int (Builtin.Int.intBits i:Nat))
 | _=>none
theorem aA9:MtR X "int.bit_length" (fun x xs H Q=>∃ i,x=.int i/\xs=[]/\Q (.int ((Builtin.Int.intBits i:Nat):Int)) H):=by
 intro pins s σ H x xs v us Q I rx rs h;obtain⟨i,rfl,rfl,q⟩:=h;obtain⟨t,rfl⟩:=rx;cases rs;exact call_int_bit_length ⟨.int _,H,I.tok _,⟨_,rfl⟩,q⟩
theorem FT {apos:Pos}(he:GE X B fl e f n l) (hbase:attributeBase e "bit_length" X.env (eval e X.env)=eval e X.env:=by rfl) (hline:(apos.endLine == pos.line)=true:=by rfl):
  GE X B fl (.Call (.Attribute e "bit_length" apos) [] [] pos) (f1 f xK) true 3:=by
 refine bD (aCu PySem.F.plainAttrs_int slot_int_bit_length type_int_bit_length aA9 he hbase hline) ?_;rintro σ H Q ⟨Ex,ρ,M,t,S,hf,q⟩;obtain⟨u,hu,hf⟩:=bind_some hf;have hi:∃ i,u=.int i:=by cases u<;>first | (cases hf;done) | exact⟨_,rfl⟩
 obtain⟨i,rfl⟩:=hi;cases (aK6 hf);refine⟨Ex,ρ,M,_,S,hu,fun v H1 s1 r1=>?_⟩;cases (show v=V.int i from (aL.scal rfl).mp r1);exact⟨rfl,i,rfl,rfl,q _ H1 s1 ((aL.scal rfl).mpr rfl)⟩
theorem aC5:OpR X (binaryOp .FloorDiv) (rI (fun _ j=>0<j/\j<2^200) fun i j=>.int (i / j)):=opI fun i j _ _ _ _ _ hc q=>by
 refine floordiv_int (by omega) ?_ (.inl (PyProof.noPylong_of_log2 ?_))
 ·rw[Int.fdiv_eq_ediv_of_nonneg _ (by omega)]
  exact q
 ·have:j.natAbs.log2<200:=(Nat.log2_lt (by omega)).mpr (by omega)
  omega
end
section
variable {X:Cx}{B:Hp}{fl:List Nat}{a b:Expr}{f g:Rho->Option T}{n n':Bool}{l l':Nat}{pos:Pos}
theorem gJ (ha:GE X B fl a f n l) (hb:GE X B fl b g n' l'):GE X B fl (.BinOp a .FloorDiv b pos) (f2 f g bV) true 3:=fO aC5 (rE (fun _ _ k=>by simpa using k) (fun _ _=>rfl) fun _ _=>rfl) ha hb
end
def BM:Option NameKind->Bool
 | some .local=>true
 | _=>false
def HQ:Option NameKind->Bool
 | some .cell=>true
 | some .free=>true
 | _=>false
def ES (env:Env) (N N':List Str) (src:List (Option Nat)) (scope:Scope):Bool:=
 (match scope.kind with | .function=>true | _=>false) &&
 scope.names.all (fun y=>match y.2 with | .cell=>qK (scope.names.lookup y.1) | _=>true) &&
 scope.names.all (fun y=>match y.2 with | .local=>BM (scope.names.lookup y.1) | _=>true) &&
 scope.names.all (fun y=>match y.2 with | .free=>HQ (env.kindOf y.1) | _=>true) &&
 (src.length == N'.length) &&
 (List.range src.length).all (fun j=>match src[j]? with | some (some i)=>(match N'[j]?,N[i]? with | some a,some b=>a == b && !BM (scope.names.lookup a) && !qK (scope.names.lookup a) | _,_=>false) | _=>true)
theorem dO {X:Cx}{scope:Scope}{N':List Str}{src:List (Option Nat)}(h:ES X.env X.N N' src scope=true):BlkOk X scope N' src:=by
 unfold ES at h;simp only[aKn] at h;obtain⟨⟨⟨⟨⟨h1,h2⟩,h3⟩,h4⟩,h5⟩,h6⟩:=h;refine⟨?_,fun y hy e=>?_,fun y hy e=>?_,fun y hy e=>?_,fun j i e=>?_,eq_of_beq h5⟩
 ·cases q:scope.kind<;>rw[q] at h1<;>first | rfl | cases h1
 ·have:=aKc.mp h2 y hy
  rw[e] at this;exact HR this
 ·have:=aKc.mp h3 y hy
  rw[e] at this;have this:BM (scope.names.lookup y.1)=true:=this;cases q:scope.names.lookup y.1 with
  | none=>rw[q] at this;cases this
  | some k=>rw[q] at this;cases k<;>first | rfl | cases this
 ·have:=aKc.mp h4 y hy
  rw[e] at this;have this:HQ (X.env.kindOf y.1)=true:=this;cases q:X.env.kindOf y.1 with
  | none=>rw[q] at this;cases this
  | some k=>rw[q] at this;cases k<;>first | exact .inl rfl | exact .inr rfl | cases this
 ·have hj:j<src.length:=(aKb.mp e).1
  have:=aKc.mp h6 j (aKd.mpr hj);rw[e] at this;dsimp only at this;cases q:N'[j]? with
  | none=>rw[q] at this;cases this
  | some a=>
   cases q2:X.N[i]? with
   | none=>rw[q,q2] at this;cases this
   | some b=>
    rw[q,q2] at this;simp only[aKn] at this;have e1:=eq_of_beq this.1.1;subst e1;refine⟨a,rfl,rfl,fun z=>?_,fun z=>?_⟩
    ·have t2:=this.1.2
     rw[z] at t2;cases t2
    ·have t2:=this.2
     rw[z] at t2;cases t2
def sK:List Str->Bool
 | []=>true
 | x::r=>!(r.any (· == x))&&sK r
theorem fV:∀ {l:List Str},sK l=true->l.Nodup
 | [],_=>List.nodup_nil
 | x::r,h=>by
  unfold sK at h;simp only[aKn] at h;refine aM9.mpr ⟨fun hx=>?_,fV h.2⟩;have h1:=h.1;rw[Bool.not_eq_true',List.any_eq_false] at h1;exact h1 x hx (beq_self_eq_true x)
def ET (N N':List Str) (src:List (Option Nat)) (fl fl':List Nat) (li:Nat) (sc:Bool):Bool:=
 sK N'&&(match src with | none::_=>true | _=>false)&&decide (1<=fl'.getD 0 1)&&(sc||decide (fl'.getD 0 1<=li))&&(fl'.length == src.length)&&(src.length == N'.length) &&
 (List.range src.length).all (fun j=>match src[j]? with | some (some i)=>(match N'[j]?,N[i]? with | some a,some b=>a == b | _,_=>false)&&(fl'.getD j 1 == fl.getD i 1) | _=>true)
theorem fN {X:Cx}{N':List Str}{src:List (Option Nat)}{fl fl':List Nat}{li:Nat}{sc:Bool}(h:ET X.N N' src fl fl' li sc=true):FlOk X N' src fl fl' li sc:=by
 unfold ET at h;simp only[aKn,decide_eq_true_eq] at h;obtain⟨⟨⟨⟨⟨⟨h1,h2⟩,h3⟩,h4⟩,h5⟩,h6⟩,h7⟩:=h;have key:∀ j i,src[j]?=some (some i)->(∃ a,N'[j]?=some a/\X.N[i]?=some a)/\fl'.getD j 1=fl.getD i 1:=fun j i e=>by
  have hj:j<src.length:=(aKb.mp e).1;have:=aKc.mp h7 j (aKd.mpr hj);rw[e] at this;dsimp only at this;simp only[aKn] at this;refine⟨?_,eq_of_beq this.2⟩;have t1:=this.1;cases q:N'[j]? with
  | none=>rw[q] at t1;cases t1
  | some a=>
   cases q2:X.N[i]? with
   | none=>rw[q,q2] at t1;cases t1
   | some b=>
    rw[q,q2] at t1;exact⟨a,rfl,by rw[eq_of_beq t1]⟩
 refine⟨fV h1,?_,fun j i e=>(key j i e).2,h3,fun z=>by simpa [z] using h4,fun j i e=>?_,eq_of_beq h5⟩
 ·cases src with
  | nil=>cases h2
  | cons o r=>cases o<;>first | rfl | cases h2
 ·obtain⟨⟨a,e1,e2⟩,_⟩:=key j i e
  refine⟨e1.trans e2.symm,?_⟩;exact (aKb.mp e1).1
@[simp] theorem jn {α:Type} (x:Option α):(some x).join=x:=by cases x<;>rfl
@[simp] theorem fVar_at (i:Nat) (ρ:Rho):aA i ρ=(ρ[i]?).join:=id rfl
@[simp] theorem fC_at (t:T) (ρ:Rho):fC t ρ=some t:=id rfl
@[simp] theorem f1_at (f:Rho->Option T) (F:T->Option T) (ρ:Rho):f1 f F ρ=(f ρ).bind F:=id rfl
@[simp] theorem f2_at (f g:Rho->Option T) (F:T->T->Option T) (ρ:Rho):f2 f g F ρ=(f ρ).bind fun x=>(g ρ).bind fun y=>F x y:=id rfl
@[simp] theorem aNil_at (ρ:Rho):aE ρ=some []:=id rfl
@[simp] theorem aCons_at (f:Rho->Option T) (g:Rho->Option (List T)) (ρ:Rho):aC f g ρ=(f ρ).bind fun x=>(g ρ).bind fun y=>some (x::y):=id rfl
@[simp] theorem fCall_at (fa:Rho->Option (List T)) (F:List T->Option T) (ρ:Rho):aG fa F ρ=(fa ρ).bind F:=id rfl
@[simp] theorem fB_at (f:Rho->Option T) (ρ:Rho):fB f ρ=(f ρ).bind isB:=id rfl
@[simp] theorem fT_at (f:Rho->Option T) (ρ:Rho):fT f ρ=(f ρ).bind vS:=id rfl
@[simp] theorem fL_at (f:Rho->Option T) (ρ:Rho):fL f ρ=(f ρ).bind isL:=id rfl
@[simp] theorem fFL_at (f:Rho->Option T) (ρ:Rho):fFL f ρ=(f ρ).bind gN:=id rfl
@[simp] theorem pNot_at (p:Rho->Option Bool) (ρ:Rho):gQ p ρ=(p ρ).map (!·):=id rfl
@[simp] theorem pAnd_at (p q:Rho->Option Bool) (ρ:Rho):sX p q ρ=(p ρ).bind fun b=>if b then q ρ else some false:=id rfl
@[simp] theorem pOr_at (p q:Rho->Option Bool) (ρ:Rho):pOr p q ρ=(p ρ).bind fun b=>if b then some true else q ρ:=id rfl
@[simp] theorem pYes_at (ρ:Rho):bI ρ=some true:=id rfl
@[simp] theorem vNot_at (f:Rho->Option T) (ρ:Rho):zI f ρ=((f ρ).bind isB).map fun b=>.bl (!b):=id rfl
@[simp] theorem vAnd_at (f g:Rho->Option T) (ρ:Rho):vT f g ρ=((f ρ).bind isB).bind fun b=>if b then g ρ else some (.bl false):=id rfl
@[simp] theorem vOr_at (f g:Rho->Option T) (ρ:Rho):vOr f g ρ=((f ρ).bind isB).bind fun b=>if b then some (.bl true) else g ρ:=id rfl
@[simp] theorem fIf_at (p:Rho->Option Bool) (f g:Rho->Option T) (ρ:Rho):fIf p f g ρ=(p ρ).bind fun b=>if b then f ρ else g ρ:=id rfl
@[simp] theorem fLst_at (fa:Rho->Option (List T)) (ρ:Rho):fK fa ρ=(fa ρ).bind fun ts=>if ts.length<=cap then some (.lst ts) else none:=id rfl
@[simp] theorem fTup_at (fa:Rho->Option (List T)) (ρ:Rho):qC fa ρ=(fa ρ).bind fun ts=>if ts.length<=cap then some (.tup ts) else none:=id rfl
@[simp] theorem fRange_at (fa:Rho->Option (List T)) (o:List T->Option (List T)) (ρ:Rho):bY fa o ρ=(fa ρ).bind o:=id rfl
@[simp] theorem fComp_at (fi:Rho->Option (List T)) (src:List (Option Nat)) (p:Rho->Option Bool) (f:Rho->Option T) (ρ:Rho):cW fi src p f ρ =
 (fi ρ).bind fun ts=>(bK p f (bP src ρ) ts).bind fun us=>if us.length<=cap then some (.lst us) else none:=id rfl
@[simp] theorem oNone_at (ρ:Rho):qQ ρ=some none:=id rfl
@[simp] theorem oSome_at (f:Rho->Option T) (ρ:Rho):sP f ρ=((f ρ).bind isI).map some:=id rfl
@[simp] theorem fSlice_at (f:Rho->Option T) (lo hi st:Rho->Option (Option Int)) (ρ:Rho):wH f lo hi st ρ=(f ρ).bind fun x=>(lo ρ).bind fun a=>(hi ρ).bind fun b=>(st ρ).bind fun c=>
 match x with
 | .lst ts=>if c=some 0 then none else some (.lst (cM ts a b c))
 | _=>none:=id rfl
@[simp] theorem rNext_at (ρ:Rho):bO ρ=some (.nx ρ):=id rfl
@[simp] theorem rSeq_at (r1 r2:Rho->Option Out) (ρ:Rho):aH r1 r2 ρ=(r1 ρ).bind fun o=>match o with | .nx ρ'=>r2 ρ' | o=>some o:=id rfl
@[simp] theorem rSet_at (i:Nat) (f:Rho->Option T) (ρ:Rho):aO i f ρ=(f ρ).map fun t=>.nx (ρ.set i (some t)):=id rfl
@[simp] theorem rSetM_at (i:Nat) (f:Rho->Option T) (ρ:Rho):dA i f ρ=(f ρ).bind fun t=>if okM t then some (.nx (ρ.set i (some t))) else none:=id rfl
@[simp] theorem okM_lst (ts:List T):okM (.lst ts)=true:=rfl
@[simp] theorem okM_non:okM .non=true:=rfl
@[simp] theorem rIf_at (p:Rho->Option Bool) (r1 r2:Rho->Option Out) (ρ:Rho):rIf p r1 r2 ρ=(p ρ).bind fun b=>if b then r1 ρ else r2 ρ:=id rfl
@[simp] theorem rRet_at (f:Rho->Option T) (ρ:Rho):aP f ρ=(f ρ).map .rt:=id rfl
@[simp] theorem rRetM_at (i:Nat) (ρ:Rho):aEh i ρ=(aA i ρ).bind fun t=>match t with | .lst ts=>if bR ts then some (.rt (.lst ts)) else none | _=>none:=id rfl
@[simp] theorem rApp_at (i:Nat) (f:Rho->Option T) (ρ:Rho):tD i f ρ=(aA i ρ).bind fun t=>(f ρ).bind fun x=>match t with | .lst ts=>if ts.length<cap then some (.nx (ρ.set i (some (.lst (ts++[x]))))) else none | _=>none:=id rfl
@[simp] theorem rPut_at (i:Nat) (fi f:Rho->Option T) (ρ:Rho):hZ i fi f ρ=(f ρ).bind fun x=>(aA i ρ).bind fun t=>(fi ρ).bind fun k=>match t,k with | .lst ts,.int j=>(ixN ts.length j).map fun j'=>.nx (ρ.set i (some (.lst (ts.set j' x)))) | _,_=>none:=id rfl
@[simp] theorem rFor_at (j:Nat) (fi:Rho->Option (List T)) (body:Rho->Option Out) (ρ:Rho):bW j fi body ρ=(fi ρ).bind fun ts=>bL j body ts ρ:=id rfl
@[simp] theorem oI_int (C:Int->Int->Bool) (h:Int->Int->T) (i j:Int):oI C h (.int i) (.int j)=if C i j then some (h i j) else none:=id rfl
@[simp] theorem oAdd_int (i j:Int):bM (.int i) (.int j)=some (.int (i+j)):=id rfl
@[simp] theorem oSub_int (i j:Int):cZ (.int i) (.int j)=some (.int (i-j)):=id rfl
theorem qP {i j:Int}(h:fR i j=true):bH (.int i) (.int j)=some (.int (i*j)):=by simp[bH,h]
theorem hO {i j:Int}(h:0<j) (h2:j<2^200):bV (.int i) (.int j)=some (.int (i / j)):=by simp only[bV,oI_int];rw[if_pos (by simp[h];exact h2)]
theorem cR {i j:Int}(h:0<j):aY (.int i) (.int j)=some (.int (i%j)):=by simp[aY,h]
theorem aAw {i j:Int}(h:0<=j):jR (.int i) (.int j)=some (.int (i / 2^j.toNat)):=by simp[jR,h]
theorem aAu {i j:Int}(h:0<=j) (h2:j<=1000000) (h3:i.natAbs<2^64):cJ (.int i) (.int j)=some (.int (i*2^j.toNat)):=by simp only[cJ,oI_int];rw[if_pos (by simp[h,h2];exact h3)]
@[simp] theorem oAnd_int (i j:Int):jP (.int i) (.int j)=some (.int (Builtin.bitAnd i j)):=id rfl
@[simp] theorem oOr_int (i j:Int):oOr (.int i) (.int j)=some (.int (Builtin.bitOr i j)):=id rfl
@[simp] theorem oXor_int (i j:Int):BW (.int i) (.int j)=some (.int (Builtin.bitXor i j)):=id rfl
@[simp] theorem oLt_int (i j:Int):oLt (.int i) (.int j)=some (.bl (decide (i<j))):=id rfl
@[simp] theorem oLe_int (i j:Int):oLe (.int i) (.int j)=some (.bl (decide (i<=j))):=id rfl
@[simp] theorem oGt_int (i j:Int):oGt (.int i) (.int j)=some (.bl (decide (j<i))):=id rfl
@[simp] theorem oGe_int (i j:Int):oGe (.int i) (.int j)=some (.bl (decide (j<=i))):=id rfl
@[simp] theorem isB_bl (b:Bool):isB (.bl b)=some b:=id rfl
@[simp] theorem truT_bl (b:Bool):vS (.bl b)=some b:=id rfl
@[simp] theorem truT_int (i:Int):vS (.int i)=some (i != 0):=id rfl
@[simp] theorem isL_lst (ts:List T):isL (.lst ts)=some ts:=id rfl
@[simp] theorem isI_int (i:Int):isI (.int i)=some i:=id rfl
@[simp] theorem gScal_int (i:Int):bF (.int i)=some (.int i):=id rfl
@[simp] theorem gScal_bl (i:Bool):bF (.bl i)=some (.bl i):=id rfl
@[simp] theorem oLen_lst (ts:List T):cH [.lst ts]=some (.int ts.length):=id rfl
@[simp] theorem oList_lst (ts:List T):mV [.lst ts]=some (.lst ts):=id rfl
@[simp] theorem oIx_lst (ts:List T) (i:Int):oIx (.lst ts) (.int i)=atI ts i:=id rfl
@[simp] theorem oInst_at (c:String) (t:T):qO c t=some (.bl (xD c t)):=id rfl
@[simp] theorem oBits_int (i:Int):xK (.int i)=some (.int (Builtin.Int.intBits i:Nat)):=id rfl
theorem aAn {xs ys:List T}(h:xs.length+ys.length<=cap):qN (.lst xs) (.lst ys)=some (.lst (xs++ys)):=by simp[qN,h]
def tI (ns:List Int):List T:=ns.map T.int
@[simp] theorem tI_length (ns:List Int):(tI ns).length=ns.length:=by simp[tI]
@[simp] theorem tI_nil:tI []=[]:=rfl
@[simp] theorem tI_cons (n:Int) (ns:List Int):tI (n::ns)=.int n::tI ns:=rfl
theorem MH (ns ms:List Int):tI (ns++ms)=tI ns++tI ms:=by simp[tI]
theorem AR:∀ ns:List Int,bR (tI ns)=true
 | []=>rfl
 | n::ns=>by simp[bR,tI,im]
theorem AH:∀ ns:List Int,depL (tI ns)=0
 | []=>rfl
 | n::ns=>by
  have:=AH ns;show max (dep (.int n)) (depL (tI ns))=0;rw[this];rfl
@[simp] theorem oEq_int (i j:Int):oEq (.int i) (.int j)=some (.bl (i == j)):=rfl
@[simp] theorem oNe_int (i j:Int):oNe (.int i) (.int j)=some (.bl (!(i == j))):=rfl
theorem dJ (ns:List Int):gN (.lst (tI ns))=some (tI ns):=by simp[gN,AR]
theorem FQ (ns:List Int):mH (.lst (tI ns))=some (.lst (tI ns)):=by simp[mH,AR]
theorem LW (ns:List Int) (a b c:Option Int):cM (tI ns) a b c=tI (cM ns a b c):=by
 unfold cM tI;rw[aLo,List.map_filterMap]
 congr 1
 funext i
 simp
theorem QP {α β:Type}(f:α->β) (xs:List α) (i:Int):atI (xs.map f) i=(atI xs i).map f:=by
 unfold atI;rw[aLo];cases ixN xs.length i with
 | none=>rfl
 | some j=>simp
theorem QT (ns:List Int) (i:Int):atI (tI ns) i=(atI ns i).map T.int:=QP _ _ _
theorem QS {α:Type}{xs:List α}{i:Nat}(h:i<xs.length):atI xs (i:Int)=some xs[i]:=QQ (aK8 h)
theorem QR {α:Type}{xs:List α}{i:Int}(h0:0<=i) (h:i<xs.length):atI xs i=some (xs[i.toNat]'(by lia)):=by
 have e:((i.toNat:Nat):Int)=i:=by lia
 have:=QS (xs:=xs) (i:=i.toNat) (by lia);rw[e] at this;exact this
theorem EV {p:Rho->Option Bool}{f:Rho->Option T}{ρ:Rho}(c:T->Bool) (h:T->T):∀ ts:List T,(∀ t∈ts,p (ρ.set 0 (some t))=some (c t))->(∀ t∈ts,c t=true->f (ρ.set 0 (some t))=some (h t))->bK p f ρ ts=some ((ts.filter c).map h)
 | [],_,_=>rfl
 | t::ts,h1,h2=>by
  have ih:=EV (p:=p) (f:=f) (ρ:=ρ) c h ts (fun u hu=>h1 u (aK9 _ hu)) (fun u hu=>h2 u (aK9 _ hu));unfold bK;rw[h1 t aKa];cases hc:c t with
  | true=>
   have:=h2 t aKa hc;simp[this,ih,hc]
  | false=>simp[ih,hc]
theorem SI {f:Rho->Option T}{ρ:Rho}(h:T->T) (ts:List T) (h2:∀ t∈ts,f (ρ.set 0 (some t))=some (h t)):bK bI f ρ ts=some (ts.map h):=by
 rw[EV (fun _=>true) h ts (fun _ _=>rfl) (fun t ht _=>h2 t ht)]
 congr 2
 exact List.filter_eq_self.mpr fun _ _=>rfl
theorem IT {lo:Int}{n:Nat}{t:T}(h:t∈rangeT lo n):∃ i:Nat,i<n/\t=.int (lo+i):=by
 unfold rangeT at h;obtain⟨i,hi,rfl⟩:=aM5.mp h;exact⟨i,aKd.mp hi,rfl⟩
theorem SJ {f:Rho->Option T}{ρ:Rho}{lo:Int}{n:Nat}(h:Nat->T) (h2:∀ i,i<n->f (ρ.set 0 (some (.int (lo+i))))=some (h i)):bK bI f ρ (rangeT lo n)=some ((List.range n).map h):=by
 have key:∀ is:List Nat,(∀ i∈is,i<n)->bK bI f ρ (is.map fun (i:Nat)=>T.int (lo+(i:Int)))=some (is.map h):=by
  intro is
  induction is with
  | nil=>intro _;rfl
  | cons i r ih=>
   intro hi;have e:=h2 i (hi i aKa);have ih':=ih fun j hj=>hi j (aK9 _ hj);rw[aLv];unfold bK;simp[e,ih']
 exact key (List.range n) fun i hi=>aKd.mp hi
theorem eY (n:Nat) (h:n<2^62):cI [.int (n:Int)]=some (rangeT 0 n):=by
 unfold cI;dsimp only;rw[if_pos (by lia)];simp
theorem FP {j:Nat}{body:Rho->Option Out}{ρ:Rho}{r:T}(c:T->Bool):∀ ts:List T,(∀ t∈ts,body (ρ.set j (some t))=if c t then some (.nx (ρ.set j (some t))) else some (.rt r)) ->
  ∀ ρ1,(∀ t,ρ1.set j (some t)=ρ.set j (some t))->∃ ρ',bL j body ts ρ1=(if ts.all c then some (.nx ρ') else some (.rt r))/\∀ t,ρ'.set j (some t)=ρ.set j (some t)
 | [],_,ρ1,h1=>⟨ρ1,by simp[bL],h1⟩
 | t::ts,h,ρ1,h1=>by
  unfold bL;rw[h1 t,h t aKa];cases hc:c t with
  | true=>
   obtain⟨ρ',e,q⟩:=FP c ts (fun u hu=>h u (aK9 _ hu)) (ρ.set j (some t)) (fun u=>by simp);exact⟨ρ',by simpa [hc] using e,q⟩
  | false=>exact⟨ρ1,by simp[hc],h1⟩
theorem rS {j:Nat}{body:Rho->Option Out}(I:Nat->Rho->Prop) (ts:List T) (h:∀ i (hi:i<ts.length) ρ,I i ρ->∃ ρ',(body (ρ.set j (some ts[i]))=some (.nx ρ')\/body (ρ.set j (some ts[i]))=some (.ct ρ'))/\I (i+1) ρ'):
  ∀ ρ,I 0 ρ->∃ ρ',bL j body ts ρ=some (.nx ρ')/\I ts.length ρ':=by
 have key:∀ (us:List T) (k:Nat),us=ts.drop k->k<=ts.length->∀ ρ,I k ρ->∃ ρ',bL j body us ρ=some (.nx ρ')/\I ts.length ρ':=by
  intro us
  induction us with
  | nil=>
   intro k e hk ρ hI;have:ts.length<=k:=by
    have:=congrArg List.length e;simp at this;lia
   have e2:k=ts.length:=by lia
   subst e2;exact⟨ρ,rfl,hI⟩
  | cons u r ih=>
   intro k e hk ρ hI;have hk':k<ts.length:=by
    have:=congrArg List.length e;simp at this;lia
   rw[List.drop_eq_getElem_cons hk'] at e;cases e;obtain⟨ρ',hb,hI'⟩:=h k hk' ρ hI;obtain⟨ρ2,h2,hI2⟩:=ih (k+1) rfl hk' ρ' hI';refine⟨ρ2,?_,hI2⟩;unfold bL;rcases hb with hb | hb<;>rw[hb]<;>exact h2
 exact fun ρ hI=>key ts 0 (by simp) (aMx _) ρ hI
mutual
def bZ:T->T->Bool
 | .non,.non=>true
 | .bl a,.bl b=>a == b
 | .int a,.int b=>a == b
 | .str a,.str b=>decide (a=b)
 | .lst xs,.lst ys=>sameL xs ys
 | .tup xs,.tup ys=>sameL xs ys
 | .exc a,.exc b=>decide (a=b)
 | _,_=>false
def sameL:List T->List T->Bool
 | [],[]=>true
 | x::xs,y::ys=>bZ x y&&sameL xs ys
 | _,_=>false
end
mutual
theorem LM:∀ (t u:T),bZ t u=true->t=u
 | .non,u,h=>by cases u<;>simp[bZ] at h ⊢
 | .bl a,u,h=>by cases u<;>simp[bZ] at h ⊢;exact h
 | .int a,u,h=>by cases u<;>simp[bZ] at h ⊢;exact h
 | .str a,u,h=>by cases u<;>simp[bZ] at h ⊢;exact h
 | .exc a,u,h=>by cases u<;>simp[bZ] at h ⊢;exact h
 | .lst xs,.lst ys,h=>by rw[bZ] at h;rw[sameL_eq xs ys h]
 | .tup xs,.tup ys,h=>by rw[bZ] at h;rw[sameL_eq xs ys h]
 | .lst xs,.non,h=>by simp[bZ] at h
 | .lst xs,.bl _,h=>by simp[bZ] at h
 | .lst xs,.int _,h=>by simp[bZ] at h
 | .lst xs,.str _,h=>by simp[bZ] at h
 | .lst xs,.tup _,h=>by simp[bZ] at h
 | .lst xs,.exc _,h=>by simp[bZ] at h
 | .tup xs,.non,h=>by simp[bZ] at h
 | .tup xs,.bl _,h=>by simp[bZ] at h
 | .tup xs,.int _,h=>by simp[bZ] at h
 | .tup xs,.str _,h=>by simp[bZ] at h
 | .tup xs,.lst _,h=>by simp[bZ] at h
 | .tup xs,.exc _,h=>by simp[bZ] at h
theorem sameL_eq:∀ (xs ys:List T),sameL xs ys=true->xs=ys
 | [],[],_=>rfl
 | [],_::_,h=>by simp[sameL] at h
 | _::_,[],h=>by simp[sameL] at h
 | x::xs,y::ys,h=>by
  rw[sameL,aKn] at h;rw[LM x y h.1,sameL_eq xs ys h.2]
end
def CW:Option T->Option T->Bool
 | some t,some u=>bZ t u
 | none,none=>true
 | _,_=>false
theorem LL {a b:Option T}(h:CW a b=true):a=b:=by
 cases a<;>cases b<;>first | rfl | cases h | skip
 rw[LM _ _ h]
theorem below {P:Int->Prop}(n:Nat) (f:Nat->Bool) (h:(List.range n).all f=true) (hP:∀ k:Nat,f k=true->P k) {g:Int}(h0:0<=g) (h1:g<n):P g:=by
 have:=aKc.mp h g.toNat (aKd.mpr (by lia));have:=hP _ this
 rwa [Int.toNat_of_nonneg h0] at this
def cV:List T->Option (List Int)
 | []=>some []
 | .int i::r=>(cV r).map (i :: ·)
 | _=>none
theorem pY:∀ ns:List Int,cV (tI ns)=some ns
 | []=>rfl
 | n::ns=>by
  show (cV (tI ns)).map (n :: ·)=_;rw[pY ns];rfl
theorem pX:∀ {ts:List T}{ns:List Int},cV ts=some ns->ts=tI ns
 | [],ns,h=>by cases (aK6 h);rfl
 | .int i::r,ns,h=>by
  cases e:cV r with
  | none=>rw[cV,e] at h;cases h
  | some ms=>
   rw[cV,e] at h;cases (aK6 h);rw[pX e];rfl
 | .non::_,_,h=>by cases h
 | .bl _::_,_,h=>by cases h
 | .str _::_,_,h=>by cases h
 | .lst _::_,_,h=>by cases h
 | .tup _::_,_,h=>by cases h
 | .exc _::_,_,h=>by cases h
theorem KN (n:Nat):rangeT 0 n=(List.range n).map fun (i:Nat)=>T.int (i:Int):=by
 unfold rangeT;simp
theorem qR {K:PySem.W.Frag}{H:Hp}{A:Addr->Prop}:∀ {ns:List Int}{xs:List V},RepL K H A (tI ns) xs->xs=ns.map V.int
 | [],_,h=>h
 | n::ns,_,h=>by
  obtain⟨x,r,e,h1,h2⟩:=h;rw[e,qR h2,(show x=.int n from h1)];rfl
def tB (bs:List Bool):List T:=bs.map T.bl
theorem KW {K:PySem.W.Frag}{H:Hp}{A:Addr->Prop}:∀ {ns:List Bool}{xs:List V},RepL K H A (G.tB ns) xs->xs=ns.map V.bl
 | [],_,h=>h
 | n::ns,_,h=>by
  obtain⟨x,r,e,h1,h2⟩:=h;rw[e,KW h2,(show x=.bl n from h1)];rfl
def gG:List T->Option (List Bool)
 | []=>some []
 | .bl i::r=>(gG r).map (i :: ·)
 | _=>none
theorem ED:∀ ns:List Bool,gG (G.tB ns)=some ns
 | []=>rfl
 | n::ns=>by
  show (gG (G.tB ns)).map (n :: ·)=_;rw[ED ns];rfl
theorem EC:∀ {ts:List T}{ns:List Bool},gG ts=some ns->ts=G.tB ns
 | [],ns,h=>by cases (aK6 h);rfl
 | .bl i::r,ns,h=>by
  cases e:gG r with
  | none=>rw[gG,e] at h;cases h
  | some ms=>
   rw[gG,e] at h;cases (aK6 h);rw[EC e];rfl
 | .non::_,_,h=>by cases h
 | .int _::_,_,h=>by cases h
 | .str _::_,_,h=>by cases h
 | .lst _::_,_,h=>by cases h
 | .tup _::_,_,h=>by cases h
 | .exc _::_,_,h=>by cases h
theorem JV (ns:List Int):∀ j,j<=ns.length->preSum (fun i=>ns.getD i 0) j=(ns.take j).sum
 | 0,_=>by simp[preSum]
 | j+1,h=>by
  rw[preSum,JV ns j (by lia),List.take_succ,List.sum_append];simp[aK7,show j<ns.length by lia]
section
variable {X:Cx}{B:Hp}{fl:List Nat}{e:Expr}{es:List Expr}{f:Rho->Option T}{fa:Rho->Option (List T)}{n n':Bool}{l l' k:Nat}{pos p' p2:Pos}{x:Str}{ps:List Str}{F:List T->Option T}
theorem BJ {pins:List (Addr × Obj)}{σ:St}{H:Hp}{s s':Shared}(I:Inv X pins σ H s) (o:Obj) (m:Moved [s.heap.objs.size] (fun a b=>b=a) { s with heap:=s.heap.push o } s'):Inv X pins σ H s':=by
 have I2:Inv X pins σ H { s with heap:=s.heap.push o }:=I.kept (t':=s.toks) fun b ob q=>aKh _ q;obtain⟨h',g',d',t',o'⟩:=s';obtain⟨m1,m2,m3,m4,m5⟩:=m;cases (show g'=s.gens from m2);cases (show d'=s.drawn from m3);cases (show o'=s.os from m4);have fp:=I.fpOk (aMg s.heap.objs.size) (I.hok.fresh (aMg _));exact L2.Inv.turned (s:={ s with heap:=s.heap.push o }) (h':=h') (t':=t') (it:=s.heap.objs.size) I2 (fun b ob hb q=>m1 b ob (by simpa using hb) q) fp.1 fp.2.1 fp.2.2.2.1 fp.2.2.2.2.1 fp.2.2.2.2.2
theorem RJ (hc:X.calm=true):eN X (.builtin "sum") (fun xs H Q=>∃ (a:Addr) (ns:List Int),xs=[.ref a]/\SqL X.K H a (ns.map V.int)/\Q (.int ns.sum) H):=by
 intro pins s σ H xs us Q I r h;obtain⟨a,ns,rfl,hS,q⟩:=h;obtain⟨u,rfl,ru⟩:=pR r;cases ru;obtain⟨its,rv,p,hz⟩:=I.list hS;have hl:=rv.length;have ha:a<s.heap.objs.size:=by obtain⟨o,n,e,_⟩:=p;exact aKx e
 refine call_sum_walkAnyS (wpAny_pyIter_list p.isList ?_);refine⟨s.heap.objs.size,[s.heap.objs.size,a],[s.heap.objs.size],_,its.toArray.size,_,_,fun i=>ns.getD i 0,rfl,(Walks.list (A:=X.A.in1) (I.ok.hd hc) s.heap.objs.size a (aMo ha) its.toArray).toS,⟨⟨_,aKu _ rfl,rfl,rfl⟩,p.isList.push _⟩,fun b hb=>?_,fun i v hv=>?_,fun s' t' mv=>?_⟩
 ·simp only[aKi,List.mem_nil_iff,or_false] at hb
  rw[aKy];rcases hb with rfl | rfl
  ·exact aMl _
  ·exact aMk ha
 ·have hv':its[i]?=some v:=by simpa using hv
  have hi:i<its.length:=(aKb.mp hv').1;have hin:i<ns.length:=by rw[aLo] at hl;lia
  have e1:(ns.map V.int)[i]?=some (V.int (ns.getD i 0)):=by
   rw[aLh,aK8 hin];simp[aK7,hin]
  obtain⟨u,e2,ru⟩:=rv.get e1;rw[hv'] at e2;cases (aK6 e2);exact ru
 ·have es:its.toArray.size=ns.length:=by simp only[aKf];rw[<- hl];simp
  rw[es,JV ns ns.length (aMg _),List.take_length];exact⟨.int ns.sum,H,BJ I _ mv,⟨_,rfl⟩,q⟩
theorem RD (hc:X.calm=true):eN X (.builtin "all") (fun xs H Q=>∃ (a:Addr) (bs:List Bool),xs=[.ref a]/\SqL X.K H a (bs.map V.bl)/\Q (.bl (bs.all id)) H):=by
 intro pins s σ H xs us Q I r h;obtain⟨a,ns,rfl,hS,q⟩:=h;obtain⟨u,rfl,ru⟩:=pR r;cases ru;obtain⟨its,rv,p,hz⟩:=I.list hS;have hl:=rv.length;have ha:a<s.heap.objs.size:=by obtain⟨o,n,e,_⟩:=p;exact aKx e
 refine call_all_walkS (wpAny_pyIter_list p.isList ?_);refine⟨s.heap.objs.size,[s.heap.objs.size,a],[s.heap.objs.size],_,its.toArray.size,_,_,fun i=>ns.getD i true,rfl,(Walks.list (A:=X.A.in1) (I.ok.hd hc) s.heap.objs.size a (aMo ha) its.toArray).toS,⟨⟨_,aKu _ rfl,rfl,rfl⟩,p.isList.push _⟩,fun i v s0 Q0 E0 hv hq=>?_,fun s' mv=>?_⟩
 ·have hv':its[i]?=some v:=by simpa using hv
  have hi:i<its.length:=(aKb.mp hv').1;have hin:i<ns.length:=by rw[aLo] at hl;lia
  have e1:(ns.map V.bl)[i]?=some (V.bl (ns.getD i true)):=by
   rw[aLh,aK8 hin];simp[aK7,hin]
  obtain⟨u,e2,ru⟩:=rv.get e1;rw[hv'] at e2;cases (aK6 e2);cases ru;exact wpAny_truthy_bool hq
 ·have es:its.toArray.size=ns.length:=by simp only[aKf];rw[<- hl];simp
  have ea:(List.range ns.length).all (fun i=>ns.getD i true)=ns.all id:=by
   rw[aKp,aKc,aKc]
   constructor
   ·intro h x hx
    obtain⟨i,hi,rfl⟩:=aM4.mp hx;have:=h i (aKd.mpr hi)
    simpa [aK7,hi] using this
   ·intro h i hi
    have hi:=aKd.mp hi;have:=h ns[i] (List.getElem_mem hi)
    simpa [aK7,hi] using this
  rw[es,ea];exact⟨.bl (ns.all id),H,BJ I _ mv,rfl,q⟩
def sQ:List T->Option T
 | [.lst ts]=>(cV ts).map fun ns=>.int ns.sum
 | _=>none
def sL:List T->Option T
 | [.lst ts]=>(gG ts).map fun ns=>.bl (ns.all id)
 | _=>none
theorem FW (hx:x = "sum") (hc:X.calm=true) (hg:Gl X x) (hm:X.mg x=none) (ha:GA X B fl (e::es) fa l)
  (he:starEach (e::es) X.env=(false,eval e X.env)::starEach es X.env:=by rfl) (hpl:(backTo pos (starEach es X.env)).any (·.1)=false:=by rfl):GE X B fl (.Call (.Name x p') (e::es) [] pos) (aG fa sQ) true 3:=by
 subst hx;refine bD (jS (RJ hc) hg hm PyProof.Rows.boot_sum ha (by decide) (by decide) he hpl) ?_;rintro σ H Q ⟨Ex,ρ,M,t,S,hf,q⟩;obtain⟨ts,hts,hf⟩:=bind_some hf;refine⟨Ex,ρ,M,ts,S,hts,fun vs H1 s1 r1=>?_⟩
 match ts,hf with
 | [.lst us],hf=>
  have hf:(cV us).map (fun ns=>T.int ns.sum)=some t:=hf;cases ea:cV us with
  | none=>rw[ea] at hf;cases hf
  | some ns=>
   rw[ea] at hf;cases (aK6 hf);cases pX ea;obtain⟨y,rfl,ry⟩:=dN r1;obtain⟨p,xs,rfl,h1,h2⟩:=ry.sqL;cases qR h2;exact⟨p,ns,rfl,h1,q _ H1 s1 ((aL.scal rfl).mpr rfl)⟩
theorem FS (hx:x = "all") (hc:X.calm=true) (hg:Gl X x) (hm:X.mg x=none) (ha:GA X B fl (e::es) fa l)
  (he:starEach (e::es) X.env=(false,eval e X.env)::starEach es X.env:=by rfl) (hpl:(backTo pos (starEach es X.env)).any (·.1)=false:=by rfl):GE X B fl (.Call (.Name x p') (e::es) [] pos) (aG fa sL) true 3:=by
 subst hx;refine bD (jS (RD hc) hg hm (by decide +kernel) ha (by decide) (by decide) he hpl) ?_;rintro σ H Q ⟨Ex,ρ,M,t,S,hf,q⟩;obtain⟨ts,hts,hf⟩:=bind_some hf;refine⟨Ex,ρ,M,ts,S,hts,fun vs H1 s1 r1=>?_⟩
 match ts,hf with
 | [.lst us],hf=>
  have hf:(gG us).map (fun ns=>T.bl (ns.all id))=some t:=hf;cases ea:gG us with
  | none=>rw[ea] at hf;cases hf
  | some ns=>
   rw[ea] at hf;cases (aK6 hf);cases EC ea;obtain⟨y,rfl,ry⟩:=dN r1;obtain⟨p,xs,rfl,h1,h2⟩:=ry.sqL;cases KW h2;exact⟨p,ns,rfl,h1,q _ H1 s1 ((aL.scal rfl).mpr rfl)⟩
def BV:List T->Option T
 | [.int i,.int j]=>some (.int (if j<i then j else i))
 | _=>none
theorem VT (hx:x = "min") (hc:X.calm=true) (hg:Gl X x) (hm:X.mg x=none) (ha:GA X B fl (e::es) fa l)
  (he:starEach (e::es) X.env=(false,eval e X.env)::starEach es X.env:=by rfl) (hpl:(backTo pos (starEach es X.env)).any (·.1)=false:=by rfl):GE X B fl (.Call (.Name x p') (e::es) [] pos) (aG fa BV) true 3:=by
 subst hx;refine bD (jS (RH hc) hg hm PyProof.Rows.boot_min ha (by decide) (by decide) he hpl) ?_;rintro σ H Q ⟨Ex,ρ,M,t,S,hf,q⟩;obtain⟨ts,hts,hf⟩:=bind_some hf;refine⟨Ex,ρ,M,ts,S,hts,fun vs H1 s1 r1=>?_⟩
 match ts,hf with
 | [.int i,.int j],hf=>
  cases (aK6 hf);obtain⟨y,r,e,ry,h2⟩:=r1;obtain⟨y2,rfl,ry2⟩:=dN h2;subst e;cases (show _=_ from ry);cases (show _=_ from ry2);exact⟨i,j,rfl,q _ H1 s1 ((aL.scal rfl).mpr rfl)⟩
def xM:List T->Option T
 | [.int i]=>some (.int i)
 | [.bl b]=>some (.int (if b then 1 else 0))
 | _=>none
theorem VY (hx:x = "int") (hg:Gl X x) (hm:X.mg x=none) (ha:GA X B fl (e::es) fa l)
  (he:starEach (e::es) X.env=(false,eval e X.env)::starEach es X.env:=by rfl) (hpl:(backTo pos (starEach es X.env)).any (·.1)=false:=by rfl):GE X B fl (.Call (.Name x p') (e::es) [] pos) (aG fa xM) true 3:=by
 subst hx;refine bD (JI RE hg hm PyProof.Rows.boot_int ha (by decide) (by decide) he hpl) ?_;rintro σ H Q ⟨Ex,ρ,M,t,S,hf,q⟩;obtain⟨ts,hts,hf⟩:=bind_some hf;refine⟨Ex,ρ,M,ts,S,hts,fun vs H1 s1 r1=>?_⟩
 match ts,hf with
 | [.int i],hf=>
  cases (aK6 hf);obtain⟨y,rfl,ry⟩:=dN r1;cases (show _=_ from ry);exact .inl ⟨i,rfl,q _ H1 s1 ((aL.scal rfl).mpr rfl)⟩
 | [.bl i],hf=>
  cases (aK6 hf);obtain⟨y,rfl,ry⟩:=dN r1;cases (show _=_ from ry);exact .inr ⟨i,rfl,q _ H1 s1 ((aL.scal rfl).mpr rfl)⟩
end
theorem IZ (ns:List Int):sQ [.lst (tI ns)]=some (.int ns.sum):=by simp[sQ,pY]
theorem IY (ns:List Bool):sL [.lst (G.tB ns)]=some (.bl (ns.all id)):=by simp[sL,ED]
def aZ:Out->Option T
 | .rt t=>some t
 | .nx _=>some .non
 | _=>none
def Fof (np k:Nat) (run:Rho->Option Out) (ts:List T):Option T:=if ts.length=np then (run (ts.map some++List.replicate k none)).bind aZ else none
theorem bB {np k:Nat}{run:Rho->Option Out}{ts:List T}{t:T}(h:Fof np k run ts=some t):ts.length=np:=by
 unfold Fof at h;split at h
 ·assumption
 ·cases h
theorem bC {np k:Nat}{run:Rho->Option Out}{ts:List T}{t:T}(h:Fof np k run ts=some t):∃ o,run (ts.map some++List.replicate k none)=some o/\pU o t:=by
 unfold Fof at h;split at h
 ·obtain⟨o,e,h⟩:=bind_some h
  refine⟨o,e,?_⟩;cases o with
  | rt u=>exact aK6 h
  | nx _=>exact (aK6 h).symm
  | bk _=>cases h
  | ct _=>cases h
 ·cases h
@[simp] theorem outT_rt (t:T):aZ (.rt t)=some t:=rfl
@[simp] theorem outT_nx (ρ:Rho):aZ (.nx ρ)=some .non:=rfl
def yC:Rho->Option Out:=fun _=>none
@[simp] theorem rNone_at (ρ:Rho):yC ρ=none:=rfl
theorem GQ {X:Cx}{B:Hp}{fl:List Nat}{n:Bool}{l:Nat}{st:Stmt}:GS X B fl n l st yC:=fun pins s σ H D I h=>by
 obtain⟨_,_,_,_,_,h,_⟩:=h;cases h
def tGR (K:PySem.W.Frag) (B:Hp) (fl:List Nat) (f:Rho->Option T) (n:Bool) (l:Nat):TE:=fun σ H Q=>
 ∃ Ex ρ M t,Sl K B fl Ex σ ρ M H/\f ρ=some t/\∀ v H',aN H H'->RtX K B H' n l t v->Q v H'
def GR (X:Cx) (B:Hp) (fl:List Nat) (e:Expr) (f:Rho->Option T) (n:Bool) (l:Nat):Prop:=PE X e (tGR X.K B fl f n l)
def aG2 (K:PySem.W.Frag) (B:Hp) (fl:List Nat) (f:Rho->Option (List T)) (l:Nat):TA:=fun σ H Q=>
 ∃ Ex ρ M ts,Sl K B fl Ex σ ρ M H/\f ρ=some ts/\∀ vs H',aN H H'->RepL K H' (Ad B B [] l) ts vs->Q vs H'
def GRA (X:Cx) (B:Hp) (fl:List Nat) (es:List Expr) (f:Rho->Option (List T)) (l:Nat):Prop:=PA X es (aG2 X.K B fl f l)
def fM (i:Nat):Rho->Option T:=fun ρ=>(aA i ρ).bind fun t=>match t with | .lst ts=>if bR ts then some (.lst ts) else none | _=>none
@[simp] theorem fMut_at (i:Nat) (ρ:Rho):fM i ρ=(aA i ρ).bind fun t=>match t with | .lst ts=>if bR ts then some (.lst ts) else none | _=>none:=rfl
section
variable {X:Cx}{B:Hp}{fl:List Nat}{a b c e:Expr}{es:List Expr}{f g:Rho->Option T}{fa:Rho->Option (List T)}{p:Rho->Option Bool}{n n':Bool}{l l':Nat}{pos pos':Pos}{x:Str}
theorem aX (he:GE X B fl e f n' l') (h:((!n||n')&&(decide (l=0)||decide (2<=l'))&&decide (l≠4))=true):GR X B fl e f n l:=by
 refine bD he ?_;rintro σ H Q ⟨Ex,ρ,M,t,S,e1,q⟩;rw[aKn] at h;refine⟨Ex,ρ,M,t,S,e1,fun v H1 s1 rx=>q v H1 s1 ((RtX.of (of_decide_eq_true h.2)).mpr (aEr S ?_ rx))⟩;have h:=h.1;cases n<;>cases n'<;>simp at h ⊢<;>exact h
theorem jL (i:Nat) (hN:X.N[i]?=some x:=by rfl) (hv:Vis X.env.scope x:=by first | exact Or.inl rfl | exact Or.inr (Or.inl rfl) | exact Or.inr (Or.inr rfl)) (h4:(decide (fl.getD i 1=0)&&decide (l≠4))=true:=by rfl) (hd:(x == ("__debug__" : Str))=false:=by decide)
  (hcd:(x == ("__classdict__" : Str))=false:=by decide):GR X B fl (.Name x pos') (fM i) n l:=by
 have h4:=aKo.mp h4;have h0:fl.getD i 1=0:=of_decide_eq_true h4.1;refine bD (pv (X:=X) i hN hv hd hcd) ?_;rintro σ H Q ⟨Ex,ρ,M,t,S,hr,q⟩;obtain⟨t',e1,hr⟩:=bind_some hr;cases t'<;>first | (cases hr;done) | skip
 dsimp only at hr;split at hr
 ·rename_i hfl
  cases (aK6 hr);obtain⟨a,ts,xs,e2,e3,e4,e5,e6⟩:=S.muL i _ (sA e1) h0;cases e2;refine⟨_,e3,q _ H (aN.refl H) ((RtX.of (of_decide_eq_true h4.2)).mpr ?_)⟩;cases n with
  | true=>exact⟨a,xs,rfl,(S.mB a e6).1,e4,yG hfl e5⟩
  | false=>exact⟨a,xs,rfl,.inl ⟨⟨fun _ z=>by simp at z,fun _=>(S.mB a e6).1,fun _=>(S.mB a e6).1⟩,.inl e4⟩,yG hfl e5⟩
 ·cases hr
def UW (i:Nat):Rho->Option T:=fun ρ=>(aA i ρ).bind fun t=>match t with | .lst ts=>some (.lst ts) | _=>none
@[simp] theorem fMutD_at (i:Nat) (ρ:Rho):UW i ρ=(aA i ρ).bind fun t=>match t with | .lst ts=>some (.lst ts) | _=>none:=rfl
theorem aL.any {K:PySem.W.Frag}{H':Hp}{t:T}{v:V}(h:aL K B B [] H' n l t v):Rep K H' (Ad B B [] l) t v:=by
 cases n with
 | false=>cases t<;>exact h
 | true=>
  cases t with
  | lst ts=>
   obtain⟨a,xs,e,h1,h2,r⟩:=h;exact⟨a,xs,e,.inl ⟨⟨fun _ z=>by simp at z,fun _=>h1,fun _=>h1⟩,.inl h2⟩,r.weak fun b x=>x.1⟩
  | non=>exact h
  | bl _=>exact h
  | int _=>exact h
  | str _=>exact h
  | tup _=>exact h
  | exc _=>exact h
theorem GM:GRA X B fl [] aE l:=xW hX fun σ H Q ⟨Ex,ρ,M,ts,S,hf,q⟩=>q _ H (aN.refl H) (by cases (aK6 hf);rfl)
theorem sC (ha:GR X B fl e f false l) (hr:GRA X B fl es fa l) (hs:starEach (e::es) X.env=(false,eval e X.env)::starEach es X.env:=by rfl) (h4:(l == 4)=false:=by rfl):GRA X B fl (e::es) (aC f fa) l:=by
 refine xW (eI ha hr hs) ?_;rintro σ H Q ⟨Ex,ρ,M,ts,S,hf,q⟩;obtain⟨x,hx,hf⟩:=bind_some hf;obtain⟨xs,hxs,hf⟩:=bind_some hf;cases (aK6 hf);exact⟨Ex,ρ,M,x,S,hx,fun v H1 s1 r1=>⟨Ex,ρ,M,xs,S.grow s1,hxs,fun vs H2 s2 r2=>q _ H2 (s1.trans s2) ⟨v,vs,rfl,((RtX.of (by simpa using h4)).mp r1).any.grow s2,r2⟩⟩⟩
theorem GL {k:Nat}(ha:GRA X B fl es fa l) (h4:(l == 4)=false:=by rfl):GR X B fl (.Tuple es k pos) (qC fa) n l:=by
 refine bD (CD ha) ?_;rintro σ H Q ⟨Ex,ρ,M,t,S,hf,q⟩;obtain⟨ts,hts,hf⟩:=bind_some hf;split at hf
 ·rename_i hl
  cases (aK6 hf);refine⟨Ex,ρ,M,ts,S,hts,fun vs H1 s1 r1=>⟨by rw[<- r1.length];exact aMf (gH hl),fun p hp=>q _ _ (s1.trans (cL hp _)) ((RtX.of (by simpa using h4)).mpr ?_)⟩⟩;have z:Rep X.K (upd H1 p (.tup vs)) (Ad B B [] l) (.tup ts) (.ref p):=⟨p,vs,rfl,.inl (.inl cU),r1.grow (cL hp _)⟩;cases n<;>exact z
 ·cases hf
def QI (f:Rho->Option T) (g:Rho->Option (List T)):Rho->Option (List T):=fun ρ=>(f ρ).bind fun x=>if okO x then (g ρ).bind fun y=>some (x::y) else none
@[simp] theorem aConsO_at (f:Rho->Option T) (g:Rho->Option (List T)) (ρ:Rho):QI f g ρ=(f ρ).bind fun x=>if okO x then (g ρ).bind fun y=>some (x::y) else none:=id rfl
@[simp] theorem okO_lst (ts:List T):okO (.lst ts)=true:=id rfl
@[simp] theorem okO_int (i:Int):okO (.int i)=true:=id rfl
@[simp] theorem okO_str (i:Str):okO (.str i)=true:=id rfl
theorem aT (he:GR X B fl e f n l):GS X B fl n l (.Return (some e) pos) (aP f):=by
 refine eB (aDo he) ?_;rintro D σ H ⟨Ex,ρ,M,o,S,hr,q⟩;unfold aP at hr;cases e1:f ρ with
 | none=>rw[e1] at hr;cases hr
 | some t=>
  rw[e1] at hr;cases (aK6 hr);exact⟨Ex,ρ,M,t,S,e1,fun v H1 s1 rx=>q v H1 (S.same.trans s1) rx⟩
end
@[simp] theorem forT_nil (j:Nat) (body:Rho->Option Out) (ρ:Rho):bL j body [] ρ=some (.nx ρ):=rfl
theorem rR (j:Nat) (body:Rho->Option Out) (t:T) (ts:List T) (ρ:Rho):bL j body (t::ts) ρ =
 (body (ρ.set j (some t))).bind fun o=>match o with | .nx ρ'=>bL j body ts ρ' | .ct ρ'=>bL j body ts ρ' | .bk ρ'=>some (.nx ρ') | .rt t=>some (.rt t):=rfl
theorem aAc {i j:Int}(h:i.natAbs<2^64):fR i j=true:=by unfold fR;rw[decide_eq_true h];rfl
theorem aAe {i j:Int}(h:j.natAbs<2^64):fR i j=true:=by unfold fR;rw[decide_eq_true h];simp
theorem xJ {i j:Int}(n m:Nat) (h:i.natAbs<2^n) (h':j.natAbs<2^m) (hn:n<=1048576) (hm:m<=1048576):fR i j=true:=by
 have a:Builtin.Int.intBits i<=2^20:=aMh (intBits_le h) hn;have b:Builtin.Int.intBits j<=2^20:=aMh (intBits_le h') hm;unfold fR;rw[decide_eq_true a,decide_eq_true b];simp
theorem xQ {i j:Int}(h:i.natAbs<2^64):bH (.int i) (.int j)=some (.int (i*j)):=qP (aAc h)
theorem mX {i j:Int}(h:j.natAbs<2^64):bH (.int i) (.int j)=some (.int (i*j)):=qP (aAe h)
theorem mU {n:Nat}{i:Int}(h0:0<=i) (h:i<n):ixN n i=some i.toNat:=by unfold ixN;rw[if_pos h0,if_pos h]
theorem pP (ns:List Int) (j:Nat) (x:Int):(tI ns).set j (.int x)=tI (ns.set j x):=by unfold tI;rw[List.map_set]
theorem MI (ns:List Int) (j:Nat):(tI ns)[j]?=(ns[j]?).map T.int:=by unfold tI;rw[aLh]
theorem kY {ns:List Int}{i:Int}(h0:0<=i) (h:i<ns.length):atI (tI ns) i=some (.int (ns.getD i.toNat 0)):=by
 have hl:i.toNat<ns.length:=by lia
 rw[QT,QR h0 h,aK7,aK8 hl];rfl
theorem bJ {ns:List Int}{i:Nat}(h:i<ns.length):atI (tI ns) (i:Int)=some (.int (ns.getD i 0)):=by
 rw[kY (by lia) (by lia)];simp
theorem xS {i j:Int}(h0:i.natAbs<2^62) (h:j.natAbs<2^62):eZ [.int i,.int j]=some (rangeT i (j-i).toNat):=by
 unfold eZ;dsimp only;rw[if_pos ⟨h0,h⟩]
theorem jT (lo:Int) (n:Nat):(rangeT lo n).length=n:=by simp[rangeT]
theorem yE {lo:Int}{n i:Nat}(h:i<(rangeT lo n).length):(rangeT lo n)[i]=.int (lo+i):=by simp[rangeT]
theorem SE {f:Rho->Option T}{ρ:Rho}{lo:Int}{n:Nat}(h:Nat->Int) (h2:∀ i,i<n->f (ρ.set 0 (some (.int (lo+i))))=some (.int (h i))):bK bI f ρ (rangeT lo n)=some (tI ((List.range n).map h)):=by
 rw[SJ (fun i=>.int (h i)) h2];simp[tI]
theorem wE {f:Rho->Option T}{ρ:Rho}{ns:List Int}(h:Int->Int) (h2:∀ i∈ns,f (ρ.set 0 (some (.int i)))=some (.int (h i))):bK bI f ρ (tI ns)=some (tI (ns.map h)):=by
 rw[SI (fun t=>match t with | .int i=>.int (h i) | t=>t) (tI ns) (fun t ht=>by
  unfold tI at ht;obtain⟨i,hi,rfl⟩:=aM5.mp ht;exact h2 i hi)]
 simp[tI]
@[simp] theorem gScal_int' (i:Int):bF (.int i)=some (.int i):=rfl
@[simp] theorem flat_tI' (ns:List Int):bR (tI ns)=true:=AR ns
theorem jQ (i:Int) (j:Nat) (h:decide ((Builtin.Int.intBits i:Int)*(j:Int)<=2^27)=true):cD (.int i) (.int (j:Int))=some (.int (i^j)):=by
 unfold cD;simp only[oI_int];rw[if_pos (by simpa using h)];simp
theorem aEm {n i:Nat}(h:i<(rangeT 0 n).length):(rangeT 0 n)[i]=.int (i:Int):=by simp[rangeT]
theorem AE {f:Rho->Option T}{ρ:Rho}{n:Nat}(h:Nat->Int) (h2:∀ i,i<n->f (ρ.set 0 (some (.int (i:Int))))=some (.int (h i))):bK bI f ρ (rangeT 0 n)=some (tI ((List.range n).map h)):=
 SE h fun i hi=>by rw[Int.zero_add];exact h2 i hi
theorem mF {j n:Nat}{body:Rho->Option Out}(I:Nat->Rho->Prop) (h:∀ i,i<n->∀ ρ,I i ρ->∃ ρ',body (ρ.set j (some (.int (i:Int))))=some (.nx ρ')/\I (i+1) ρ') (ρ:Rho) (h0:I 0 ρ):∃ ρ',bL j body (rangeT 0 n) ρ=some (.nx ρ')/\I n ρ':=by
 have:=rS (j:=j) (body:=body) I (rangeT 0 n) (fun i hi ρ hI=>by
  have hi':i<n:=by rw[jT] at hi;exact hi
  obtain⟨ρ',e,q⟩:=h i hi' ρ hI;refine⟨ρ',.inl ?_,q⟩;rw[aEm];exact e) ρ h0
 rwa [jT] at this
theorem AA (a b:Nat):Builtin.bitAnd (a:Int) (b:Int)=((a&&&b:Nat):Int):=by
 unfold Builtin.bitAnd;simp
theorem rM (a:Nat):Builtin.bitAnd (a:Int) 1=((a%2:Nat):Int):=by
 have:=AA a 1;rw[Nat.and_one_is_mod] at this;exact this
theorem vY (a b:Nat):Builtin.bitOr (a:Int) (b:Int)=((a|||b:Nat):Int):=by
 unfold Builtin.bitOr Builtin.bitAnd Builtin.bitNot;have h1:¬ (0 <= -(a:Int)-1):=by lia
 have h2:¬ (0 <= -(b:Int)-1):=by lia
 rw[decide_eq_false h1,decide_eq_false h2];show -(-(((-(-(a:Int)-1)-1).toNat|||(-(-(b:Int)-1)-1).toNat:Nat):Int)-1)-1=_;have e1:(-(-(a:Int)-1)-1).toNat=a:=by lia
 have e2:(-(-(b:Int)-1)-1).toNat=b:=by lia
 rw[e1,e2];lia
theorem sO (a b:Nat):jR (.int (a:Int)) (.int (b:Int))=some (.int ((a / 2^b:Nat):Int)):=by
 rw[aAw (by lia)];simp
theorem aAv {a b:Nat}(h:a<2^64) (h2:b<=1000000):cJ (.int (a:Int)) (.int (b:Int))=some (.int ((a*2^b:Nat):Int)):=by
 rw[aAu (by lia) (by lia) (by lia)];simp
theorem gP {b:Nat}(h2:b<=1000000):cJ (.int 1) (.int (b:Int))=some (.int ((2^b:Nat):Int)):=by
 have:=aAv (a:=1) (b:=b) (by decide) h2;rw[Nat.one_mul] at this;exact this
theorem JR {α:Type}(xs:List α) (a:Nat):∀ k,((List.range k).map (a + ·)).filterMap (xs[·]?)=(xs.drop a).take k
 | 0=>by simp
 | k+1=>by
  rw[aMd,List.map_append,List.filterMap_append,JR xs a k,List.take_add_one]
  congr 1
  simp only[aLv,aLx,aL7,List.filterMap_nil,List.getElem?_drop];cases xs[a+k]?<;>rfl
theorem aFl {α:Type}(xs:List α) (lo hi:Option Int):cM xs lo hi none=(xs.drop (lo.elim 0 (clipAt xs.length))).take ((hi.elim xs.length (clipAt xs.length))-(lo.elim 0 (clipAt xs.length))):=by
 unfold cM;rw[sliceBounds_plain,sliceRange_one,JR]
theorem RX {n:Nat}{i:Int}(h:0<=i):clipAt n i=min i.toNat n:=by unfold clipAt;lia
theorem LV {α:Type}(xs:List α) {i:Int}(h:0<=i):cM xs (some i) none none=xs.drop i.toNat:=by
 rw[aFl];simp only[Option.elim,RX h];rw[List.take_of_length_le (by simp)]
 by_cases h':i.toNat<=xs.length
 ·rw[Nat.min_eq_left h']
 ·rw[Nat.min_eq_right (by lia),List.drop_eq_nil_of_le (aMg _),List.drop_eq_nil_of_le (by lia)]
def dU {α:Type} (xs:List α) (i:Int) (y:α):List α:=xs.take (min i.toNat xs.length)++y::xs.drop (min i.toNat xs.length)
def aEa:V->List V->Hp->VK->Prop:=fun x vs H Q=>∃ l xs i y,x=.ref l/\vs=[.int i,y]/\H l=some (.lst xs)/\0<=i/\i<2^63/\xs.length<sizeLine/\Q .non (upd H l (.lst (dU xs i y)))
theorem aHb {xs:List V}{us:List Value}(h:aK xs us):∀ n,aK (xs.take n) (us.take n):=by
 induction h with
 | nil=>intro n;simp;exact .nil
 | cons r t ih=>
  intro n;cases n with
  | zero=>exact .nil
  | succ n=>exact .cons r (ih n)
theorem aHa {xs:List V}{us:List Value}(h:aK xs us):∀ n,aK (xs.drop n) (us.drop n):=by
 induction h with
 | nil=>intro n;simp;exact .nil
 | cons r t ih=>
  intro n;cases n with
  | zero=>exact .cons r t
  | succ n=>exact ih n
theorem aAb {X:Cx}:MtM X "list.insert" aEa:=by
 intro pins s σ H x vs v us Q I rx rv h;obtain⟨l,xs,i,y,rfl,rfl,hH,h0,h1,hz,q⟩:=h;cases rx;obtain⟨u1,u,rfl,r1,ru⟩:=rv.two;obtain⟨tk,rfl⟩:=r1;obtain⟨z,its,n,r,hl,e⟩:=I.lstM hH;refine call_meets PySem.F.slot_list_insert ⟨_,e,rfl⟩ PySem.F.entry_list_insert (PySem.F.args_list_insert_3 _ _ _) (PySem.AutoListH.list_insert_list_int_val_1 l its.toArray n i tk u (by unfold Builtin.List.listFitsIndex;simp;lia) (by rw[aKf];lia)) ⟨e,?_⟩;refine⟨.non,_,I.lset (its':=dU its i u) hH e ?_ ?_ ?_,rfl,q⟩
 ·unfold dU
  have h0':¬ i<0:=by lia
  simp[h0'];exact List.take_of_length_le (by simp)
 ·unfold dU
  rw[hl];exact (aHb r _).append (.cons ru (aHa r _))
 ·unfold dU;simp;lia
def CM (i:Nat) (fk f:Rho->Option T):Rho->Option Out:=fun ρ=>(aA i ρ).bind fun t=>(fk ρ).bind fun k=>(f ρ).bind fun x=>match t,k with | .lst ts,.int j=>if ts.length<cap/\0<=j/\j<2^63 then some (.nx (ρ.set i (some (.lst (dU ts j x))))) else none | _,_=>none
@[simp] theorem rIns_at (i:Nat) (fk f:Rho->Option T) (ρ:Rho):CM i fk f ρ=(aA i ρ).bind fun t=>(fk ρ).bind fun k=>(f ρ).bind fun x=>match t,k with | .lst ts,.int j=>if ts.length<cap/\0<=j/\j<2^63 then some (.nx (ρ.set i (some (.lst (dU ts j x))))) else none | _,_=>none:=rfl
theorem aEo {K:PySem.W.Frag}{H:Hp}{A:Addr->Prop}{ts:List T}{xs:List V}{t:T}{x:V}(h:RepL K H A ts xs) (r:Rep K H A t x) (i:Int):RepL K H A (dU ts i t) (dU xs i x):=by
 unfold dU;rw[h.length];exact RepL.app (h.take _) ⟨x,_,rfl,r,h.drop _⟩
section
variable {X:Cx}{B:Hp}{fl:List Nat}{e k:Expr}{f fk:Rho->Option T}{n n' nk:Bool}{l l' lk:Nat}{pos pos':Pos}{x:Str}
theorem WP (i:Nat) {apos p2:Pos}(hk:GE X B fl k fk nk lk) (he:GE X B fl e f n' l') (h1:(decide (fl.getD i 1=0)&&decide (2<=l'))=true) (hN:X.N[i]?=some x:=by rfl) (hv:Vis X.env.scope x:=by first | exact Or.inl rfl | exact Or.inr (Or.inl rfl) | exact Or.inr (Or.inr rfl))
  (hd:(x == ("__debug__" : Str))=false:=by decide) (hcd:(x == ("__classdict__" : Str))=false:=by decide)
  (hbase:attributeBase (.Name x p2) "insert" X.env (eval (.Name x p2) X.env)=eval (.Name x p2) X.env:=by rfl)
  (hfew:((backTo pos' (starEach [k,e] X.env)).all (fun x=>!x.1)&&(backToKw pos' (keywordEach [] X.env)).all (fun x=>x.1.isSome)
   && decide (([k,e]:List Expr).length+([]:List Keyword).length+(if ([]:List Keyword).isEmpty then 0 else 1)<30))=true:=by rfl)
  (hline:(apos.endLine == pos'.line)=true:=by rfl) (hs:starEach [k,e] X.env=(false,eval k X.env)::starEach [e] X.env:=by rfl) (hs2:starEach [e] X.env=[(false,eval e X.env)]:=by rfl) (hpl:(backTo pos' (starEach [e] X.env)).any (·.1)=false:=by rfl) (hsw:swapsWith (.Call (.Attribute (.Name x p2) "insert" apos) [k,e] [] pos') none pos.line X.env=pure false:=by rfl):
  GS X B fl n l (.Expr (.Call (.Attribute (.Name x p2) "insert" apos) [k,e] [] pos') pos) (CM i fk f):=by
 simp only[aKn,decide_eq_true_eq] at h1;refine eB (CH (CB PySem.F.plainAttrs_list PySem.F.slot_list_insert PySem.F.type_list_insert aAb (pv (X:=X) i hN hv hd hcd) (eI hk (eI he hX hs2) hs) hbase hfew hline hs hpl) hsw) ?_;rintro D σ H ⟨Ex,ρ,M,o,S,hr,q⟩;obtain⟨t,e1,hr⟩:=bind_some hr;obtain⟨j,e0,hr⟩:=bind_some hr;obtain⟨y,e2,hr⟩:=bind_some hr;cases t<;>first | (cases hr;done) | skip
 cases j<;>first | (cases hr;done) | skip
 dsimp only at hr;split at hr
 ·rename_i hl
  cases (aK6 hr);have e1':=sA e1;obtain⟨a,ts,xs,e3,e4,e5,e6,e7⟩:=S.muL i _ e1' h1.1;cases e3;refine⟨_,e4,.inl ⟨rfl,xs,SqL.of e5⟩,?_⟩;refine⟨Ex,ρ,M,_,S,e0,fun v0 H0 s0 r0=>?_⟩;cases (aL.scal rfl).mp r0;have S0:=S.grow s0;refine⟨Ex,ρ,M,y,S0,e2,fun v H1 s1 rx=>?_⟩;refine⟨a,xs,_,v,rfl,rfl,s1 _ _ (s0 _ _ e5),hl.2.1,hl.2.2,by rw[<- e6.length];exact gH (aMf hl.1),?_⟩;refine q σ M _ ((S0.grow s1).write h1.1 e1' e4 e7 (s1 _ _ (s0 _ _ e5)) (aEo (((e6.grow s0).grow s1).weak fun b x=>x.any (by lia)) ((rx.rep S0).weak fun b x=>?_) _));exact⟨fun z=>x.1 (by lia),fun z=>x.2.1 (by lia),fun z=>by lia⟩
 ·cases hr
end
theorem HM:∀ {ns:List Int}{us:List Value},aK (ns.map V.int) us->IntsAre us ns
 | [],_,h=>by cases h;exact .nil
 | n::ns,_,h=>by
  cases h with
  | cons r t=>
   obtain⟨k,rfl⟩:=r;exact .cons n k (HM t)
theorem aAa {X:Cx}:MtR X "list.index" (fun x xs H Q=>∃ (a:Addr) (ns:List Int) (k:Int),x=.ref a/\xs=[.int k]/\SqL X.K H a (ns.map V.int)/\k∈ns/\Q (.int (ns.idxOf k:Nat)) H):=by
 intro pins s σ H x xs v us Q I rx rv h;obtain⟨a,ns,k,rfl,rfl,hS,hk,q⟩:=h;cases rx;obtain⟨u,rfl,ru⟩:=rv.one;obtain⟨t,rfl⟩:=ru;obtain⟨its,r,p,hz⟩:=I.list hS;have hi:=HM r;have hlen:=hi.length;have hj:ns.idxOf k<ns.length:=List.idxOf_lt_length_iff.mpr hk;have hz':ns.length<=sizeLine:=by simpa using hz
 rw[sizeLine_eq] at hz';obtain⟨⟨cls,dd,data,sl⟩,ho,hc,n,hd⟩:=p.isList;simp only at hc hd;subst hc hd;refine call_meets PySem.F.slot_list_index ⟨_,ho,rfl⟩ PySem.F.entry_list_index (PySem.F.args_list_index_2 _ _)
  (PySem.SeqAt.list_indexAt a its.toArray n dd sl (.int k t) (isInt k) (ns.idxOf k) (by simpa [hlen] using hj) (by lia) ?_ ?_) ⟨ho,fun y hy=>(eq_isInt k t hi y (by simpa using hy)).at _ _,⟨.int _,H,I.tok _,⟨_,rfl⟩,q⟩⟩
 ·show isInt k its[ns.idxOf k]=true
  rw[isInt_at k hi _ (by lia) hj]
  simpa using List.getElem_idxOf hj
 ·intro j hjs hlt
  show isInt k its[j]=false;rw[isInt_at k hi j (by simpa using hjs) (by lia)];exact ne_of_lt_idxOf hlt _
def xL:T->T->Option T
 | .lst ts,.int k=>(cV ts).bind fun ns=>if k∈ns then some (.int (ns.idxOf k:Nat)) else none
 | _,_=>none
theorem aAo {ns:List Int}{k:Int}(h:k∈ns):xL (.lst (tI ns)) (.int k)=some (.int (ns.idxOf k:Nat)):=by simp[xL,pY,h]
theorem VM {X:Cx}{B:Hp}{fl:List Nat}{o e:Expr}{f g:Rho->Option T}{n n':Bool}{l l':Nat}{apos pos:Pos}(ho:GE X B fl o f n l) (he:GE X B fl e g n' l')
  (hbase:attributeBase o "index" X.env (eval o X.env)=eval o X.env:=by rfl)
  (hfew:((backTo pos (starEach [e] X.env)).all (fun x=>!x.1)&&(backToKw pos (keywordEach [] X.env)).all (fun x=>x.1.isSome)
   && decide (([e]:List Expr).length+([]:List Keyword).length+(if ([]:List Keyword).isEmpty then 0 else 1)<30))=true:=by rfl)
  (hline:(apos.endLine == pos.line)=true:=by rfl) (hs:starEach [e] X.env=[(false,eval e X.env)]:=by rfl):GE X B fl (.Call (.Attribute o "index" apos) [e] [] pos) (f2 f g xL) true 3:=by
 refine bD (CB PySem.F.plainAttrs_list PySem.F.slot_list_index PySem.F.type_list_index aAa ho (eI he hX hs) hbase hfew hline hs rfl) ?_;rintro σ H Q ⟨Ex,ρ,M,t,S,hf,q⟩;obtain⟨x,hx,hf⟩:=bind_some hf;obtain⟨y,hy,hf⟩:=bind_some hf;cases x<;>first | (cases y<;>cases hf;done) | skip
 cases y<;>first | (cases hf;done) | skip
 rename_i us _ k;obtain⟨ns,ea,hg⟩:=bind_some (show ((cV us).bind fun ns=>if k∈ns then some (T.int (ns.idxOf k:Nat)) else none)=some t from hf);cases pX ea
 by_cases hk:k∈ns
 ·rw[if_pos hk] at hg
  cases (aK6 hg);refine⟨Ex,ρ,M,_,S,hx,fun v H1 s1 rx=>?_⟩;obtain⟨p,xs,rfl,h1,h2⟩:=(rx.rep S).sqL;cases qR h2;refine⟨.inl ⟨rfl,_,h1⟩,Ex,ρ,M,_,S.grow s1,hy,fun v2 H2 s2 ry=>?_⟩;cases (aL.scal rfl).mp ry;have h1':SqL X.K H2 p (ns.map V.int):=by
   rcases h1 with h | h
   ·exact .inl (fA (fun o q=>s2 _ _ q) h)
   ·exact .inr h
  exact⟨p,ns,k,rfl,rfl,h1',hk,q _ _ (s1.trans s2) ((aL.scal rfl).mpr rfl)⟩
 ·rw[if_neg hk] at hg
  cases hg
section
variable {X:Cx}{pins:List (Addr × Obj)}{σ:St}{H:Hp}{s:Shared}{h':Heap}
theorem HP {t':Nat}{fs:List Addr}{T:Addr}{ys:List V}(I:Inv X pins σ H s) (hT:s.heap.objs.size<=T) (k:∀ b o,b ∉ fs->s.heap.get? b=some o->h'.get? b=some o) (hf:∀ b∈fs,eQ X pins H b)
  (new:cN X.prog X.w (upd H T (.tup ys)) h' T (.tup ys)):Inv X pins σ (upd H T (.tup ys)) { s with heap:=h',toks:=t' }:=by
 have hn:H T=none:=I.hok.fresh hT;have nfs:∀ b u,H b=some u->b ∉ fs:=fun b u e z=>by rw[(hf b z).1] at e;cases e
 have nT:∀ b (o:Obj),s.heap.get? b=some o->b≠T:=fun b o e z=>absurd (aKe (aKx e) (by rw[z];exact hT)) (aMi _);refine I.step (g':=s.gens) (d':=s.drawn) (ch:=fs) (fun b hb=>⟨(hf b hb).2.2.2.1,(hf b hb).2.1,(hf b hb).2.2.2.2.1,(hf b hb).2.2.2.2.2⟩) (fun b o _ _ hc e _=>k b o hc e) (fun b o _ _ hc e _=>⟨o.slots,k b o hc e⟩)
  (fun b o hc e n=>by rw[aS (nT b o e)];exact n) (fun b o hc e=>⟨o,k b o hc e⟩) (fun b xs e=>by rw[aS (fS e hn)];exact e) (fun b o u e=>by rw[aS (fS e hn)];exact e) (fun b ps e=>⟨#[],by rw[aS (fS e hn),e];simp⟩) (fun m hm=>?_) (fun b u e=>?_) I.bare
 ·obtain⟨o,es,ep,ho,r⟩:=hm
  exact⟨o,es,ep,k _ o (fun z=>(hf _ z).2.1 rfl) ho,r⟩
 ·by_cases hb:b=T
  ·subst hb;rw[cU] at e;cases e;exact new
  ·rw[aS hb] at e
   refine (I.hok b u e).stay (fun c v hc q=>k c v ?_ q) (fun c q=>by rw[aS (fS q hn)];exact q) fun c xs q=>by rw[aS (fS q hn)];exact q
   rcases hc with z | z
   ·rw[z];exact nfs b u e
   ·exact nfs c _ z
theorem HN {t':Nat}{fs:List Addr}(I:Inv X pins σ H s) (k:∀ b o,b ∉ fs->s.heap.get? b=some o->h'.get? b=some o) (hf:∀ b∈fs,eQ X pins H b):Inv X pins σ H { s with heap:=h',toks:=t' }:=by
 have nfs:∀ b u,H b=some u->b ∉ fs:=fun b u e z=>by rw[(hf b z).1] at e;cases e
 refine I.step (g':=s.gens) (d':=s.drawn) (ch:=fs) (fun b hb=>⟨(hf b hb).2.2.2.1,(hf b hb).2.1,(hf b hb).2.2.2.2.1,(hf b hb).2.2.2.2.2⟩) (fun b o _ _ hc e _=>k b o hc e) (fun b o _ _ hc e _=>⟨o.slots,k b o hc e⟩)
  (fun _ _ _ _ n=>n) (fun b o hc e=>⟨o,k b o hc e⟩) (fun _ _ e=>e) (fun _ _ _ e=>e) (fun b ps e=>⟨#[],by rw[e];simp⟩) (fun m hm=>?_) (fun b u e=>?_) I.bare
 ·obtain⟨o,es,ep,ho,r⟩:=hm
  exact⟨o,es,ep,k _ o (fun z=>(hf _ z).2.1 rfl) ho,r⟩
 ·refine (I.hok b u e).stay (fun c v hc q=>k c v ?_ q) (fun _ q=>q) fun _ _ q=>q
  rcases hc with z | z
  ·rw[z];exact nfs b u e
  ·exact nfs c _ z
end
def Ite (K:PySem.W.Frag) (a:Addr):It:=
 ⟨fun i H=>∃ xs x,SqL K H a xs/\xs[i]?=some x,fun i H x H'=>∃ T y,(∀ xs,SqL K H a xs->xs[i]?=some y)/\H T=none/\x=.ref T/\H'=upd H T (.tup [.int (i:Nat),y]),fun i H=>∃ xs,SqL K H a xs/\xs.length<=i⟩
theorem cG {h:Heap}{a b:Addr}{o o':Obj}(e:h.get? a=some o) (e':h.get? b=some o') (hc:o.cls≠o'.cls):a≠b:=fun z=>by
 subst z;rw[e] at e';cases e';exact hc rfl
theorem aH0 {P:Program}{w:World}{K:PySem.W.Frag}{elts:List Expr}{k:Nat}{pos:Pos}(a e it:Addr) (hei:e≠it):Turn P w K (.Tuple elts k pos) (Ite K a) [e,it] e (fun i h=>(∃ old,IsEnum h e it i old)/\h.IsListIter it a i) where
 mem:=by simp
 obj:=fun i h st b hb=>by
  obtain⟨⟨old,he⟩,hit⟩:=st;rcases aKi.mp hb with rfl | hb
  ·exact⟨_,he,fun v z=>by cases (show Data.fields _=Data.cell v from z)⟩
  ·have eb:b=it:=by simpa using hb
   subst eb;obtain⟨o,q,c,d⟩:=hit;exact⟨o,q,fun v z=>by rw[d] at z;cases z⟩
 keep:=fun i h h' st kp=>by
  obtain⟨⟨old,he⟩,hit⟩:=st;exact⟨⟨old,kp e (by simp) _ he⟩,hit.at fun o q=>kp it (by simp) o q⟩
 item:=by
  intro X hP hw hK hc i pins s σ H E I hf st hg;subst hP hw hK;obtain⟨xs,x,hq,hx⟩:=hg;obtain⟨its,rv,p,hz⟩:=I.list hq;obtain⟨u,hu,ru⟩:=rv.get hx;obtain⟨⟨old,he⟩,hit⟩:=st;obtain⟨oit,eit,cit,dit⟩:=id hit;obtain⟨ol,el,cl,nl,dl⟩:=id p.isList;have hle:a≠e:=cG el he (by rw[cl];simp);have hli:a≠it:=cG el eit (by rw[cl,cit];simp);have W:=WalksT.enumerate (prog:=X.prog) (w:=X.w) (I.ok.hd hc) e it a hei hle hli its.toArray;have hi:i<its.toArray.size:=by
   have:=(aKb.mp hu).1
   simpa using this
  refine W.item i s _ E hi ⟨⟨old,he⟩,hit,p.isList⟩ fun T vals h1 tk hPt hT hTup hMid keep1=>⟨_,rfl,?_⟩;refine W.go elts k pos i T { s with heap:=h1,toks:=tk } _ E hMid fun h2 hSt keep2=>?_;obtain⟨t,v,hv,rfl⟩:=hPt;have hvu:v=u:=by
   have:its[i]?=some v:=by simpa using hv
   rw[hu] at this;exact (aK6 this).symm
  subst hvu;have hTw:=W.apart i T h1 hMid;obtain⟨oT,eT,cT,nT,dT⟩:=hTup;have eT2:h2.get? T=some oT:=keep2 T oT hTw eT;have new:cN X.prog X.w (upd H T (.tup [.int (i:Nat),x])) h2 T (.tup [.int (i:Nat),x]):=by
   refine⟨by rw[sizeLine_eq];show 2<=16777216;decide,[.int (i:Nat) t,v],.cons ⟨t,rfl⟩ (.cons ru .nil),⟨oT,eT2,cT,nT,dT⟩⟩
  have I2:Inv X pins σ (upd H T (.tup [.int (i:Nat),x])) { s with heap:=h2,toks:=tk }:=HP (fs:=[e,it]) I hT (fun b o hb q=>keep2 b o hb (keep1 b o hb q)) hf new;refine⟨.ref T,_,I2,rfl,⟨T,x,fun ys hy=>by rw[I.list_inj hy hq];exact hx,I.hok.fresh hT,rfl,rfl⟩,⟨hSt.1,hSt.2.1⟩,fun b hb=>?_⟩;rw[aS (fun z=>hTw (by rw[<- z];exact hb))];exact (hf b hb).1
 done:=by
  intro X hP hw hK hc i pins s σ H E I hf st hg;subst hP hw hK;obtain⟨xs,hq,hx⟩:=hg;obtain⟨its,rv,p,hz⟩:=I.list hq;obtain⟨⟨old,he⟩,hit⟩:=st;obtain⟨oit,eit,cit,dit⟩:=id hit;obtain⟨ol,el,cl,nl,dl⟩:=id p.isList;have hle:a≠e:=cG el he (by rw[cl];simp);have hli:a≠it:=cG el eit (by rw[cl,cit];simp);have hl:=rv.length;exact wpAny_pyNext_enum_end (I.ok.hd hc) he hit p.isList (by simp;lia) fun h' hx=>⟨rfl,HN (t':=s.toks) (fs:=[e,it]) I (fun b o hb q=>hx b o (fun z=>hb (by simp[z])) q) hf⟩
 self:=fun A i s Q E st h=>by
  obtain⟨⟨old,he⟩,hit⟩:=st;exact wpAny_pyIter_enum he h
def Itz (K:PySem.W.Frag) (a b:Addr):It:=
  ⟨fun i H=>∃ xs ys x y,SqL K H a xs/\SqL K H b ys/\xs[i]?=some x/\ys[i]?=some y,
   fun i H x H'=>∃ T y z,(∀ xs,SqL K H a xs->xs[i]?=some y)/\(∀ ys,SqL K H b ys->ys[i]?=some z)/\H T=none/\x=.ref T/\H'=upd H T (.tup [y,z]),
   fun i H=>∃ xs ys,SqL K H a xs/\SqL K H b ys/\(xs.length<=i\/ys.length<=i)⟩
structure ZA (z TI TO i1 i2:Addr):Prop where
 TIz:TI≠z
 TOz:TO≠z
 i1z:i1≠z
 i2z:i2≠z
 TITO:TI≠TO
 TIi1:TI≠i1
 TIi2:TI≠i2
 TOi1:TO≠i1
 TOi2:TO≠i2
 i12:i1≠i2
theorem aHo (n:Nat):ZA (n+4) (n+2) (n+3) n (n+1):=by
 have h:∀ a b:Nat,a<b->(a:Addr)≠b/\(b:Addr)≠a:=fun a b q=>⟨aMo q,aMn q⟩;exact⟨(h _ _ (by lia)).1,(h _ _ (by lia)).1,(h _ _ (by lia)).1,(h _ _ (by lia)).1,(h _ _ (by lia)).1,(h _ _ (by lia)).2,(h _ _ (by lia)).2,(h _ _ (by lia)).2,(h _ _ (by lia)).2,(h _ _ (by lia)).1⟩
theorem aH3 {P:Program}{w:World}{K:PySem.W.Frag}{elts:List Expr}{k:Nat}{pos:Pos}(a b z TI TO i1 i2:Addr) (A0:ZA z TI TO i1 i2):Turn P w K (.Tuple elts k pos) (Itz K a b) [z,TI,TO,i1,i2] z
  (fun i h=>IsZip h z TI TO .none/\IsPair h TI (.ref i1) (.ref i2)/\(∃ a b,IsPair h TO a b)/\h.IsListIter i1 a i/\h.IsListIter i2 b i) where
 mem:=by simp
 obj:=fun i h st c hc=>by
  obtain⟨hz,hTI,⟨u,v,hTO⟩,h1,h2⟩:=st;simp only[aKi,List.mem_nil_iff,or_false] at hc;rcases hc with rfl | rfl | rfl | rfl | rfl
  ·exact⟨_,hz,fun v z=>by cases (show Data.fields _=Data.cell v from z)⟩
  ·exact⟨_,hTI,fun v z=>by cases (show Data.seq _ _=Data.cell v from z)⟩
  ·exact⟨_,hTO,fun v z=>by cases (show Data.seq _ _=Data.cell v from z)⟩
  ·obtain⟨o,q,c,d⟩:=h1
   exact⟨o,q,fun v z=>by rw[d] at z;cases z⟩
  ·obtain⟨o,q,c,d⟩:=h2
   exact⟨o,q,fun v z=>by rw[d] at z;cases z⟩
 keep:=fun i h h' st kp=>by
  obtain⟨hz,hTI,⟨u,v,hTO⟩,h1,h2⟩:=st;exact⟨kp z (by simp) _ hz,kp TI (by simp) _ hTI,⟨u,v,kp TO (by simp) _ hTO⟩,h1.at fun o q=>kp i1 (by simp) o q,h2.at fun o q=>kp i2 (by simp) o q⟩
 item:=by
  intro X hP hw hK hc i pins s σ H E I hf st hg;subst hP hw hK;obtain⟨xs,ys,x,y,hq,hq',hx,hy⟩:=hg;obtain⟨its,rv,p,hzl⟩:=I.list hq;obtain⟨its',rv',p',hzl'⟩:=I.list hq';obtain⟨u,hu,ru⟩:=rv.get hx;obtain⟨u',hu',ru'⟩:=rv'.get hy;obtain⟨hz,hTI,⟨w1,w2,hTO⟩,h1,h2⟩:=st;obtain⟨o1,e1,c1,d1⟩:=id h1;obtain⟨o2,e2,c2,d2⟩:=id h2;obtain⟨ol,el,cl,nl,dl⟩:=id p.isList;obtain⟨ol',el',cl',nl',dl'⟩:=id p'.isList;have D:ZipApart z TI TO i1 i2 a b:=⟨A0.TIz,A0.TOz,A0.i1z,A0.i2z,A0.TITO,A0.TIi1,A0.TIi2,A0.TOi1,A0.TOi2,A0.i12,
   cG el hz (by rw[cl];simp),cG el hTO (by rw[cl];simp),cG el e1 (by rw[cl,c1];simp),cG el e2 (by rw[cl,c2];simp),
   cG el' hz (by rw[cl'];simp),cG el' hTO (by rw[cl'];simp),cG el' e1 (by rw[cl',c1];simp),cG el' e2 (by rw[cl',c2];simp)⟩
  have W:=WalksT.zip2 (prog:=X.prog) (w:=X.w) (I.ok.hd hc) z TI TO i1 i2 a b D its.toArray its'.toArray;have hi:i<min its.toArray.size its'.toArray.size:=by
   have a1:=(aKb.mp hu).1;have a2:=(aKb.mp hu').1;simp;lia
  refine W.item i s _ E hi ⟨hz,hTI,⟨w1,w2,hTO⟩,h1,h2,p.isList,p'.isList⟩ fun T vals h1 tk hPt hT hTup hMid keep1=>⟨_,rfl,?_⟩;refine W.go elts k pos i T { s with heap:=h1,toks:=tk } _ E hMid fun h2 hSt keep2=>?_;obtain⟨v,v',hv,hv',rfl⟩:=hPt;have hvu:v=u:=by
   have:its[i]?=some v:=by simpa using hv
   rw[hu] at this;exact (aK6 this).symm
  have hvu':v'=u':=by
   have:its'[i]?=some v':=by simpa using hv'
   rw[hu'] at this;exact (aK6 this).symm
  subst hvu hvu';have hTw:=W.apart i T h1 hMid;obtain⟨oT,eT,cT,nT,dT⟩:=hTup;have eT2:h2.get? T=some oT:=keep2 T oT hTw eT;have new:cN X.prog X.w (upd H T (.tup [x,y])) h2 T (.tup [x,y]):=by
   refine⟨by rw[sizeLine_eq];show 2<=16777216;decide,[v,v'],.cons ru (.cons ru' .nil),⟨oT,eT2,cT,nT,dT⟩⟩
  have hsub:∀ c∈[z,TO,i1,i2],c∈[z,TI,TO,i1,i2]:=by simp
  have I2:Inv X pins σ (upd H T (.tup [x,y])) { s with heap:=h2,toks:=tk }:=HP (fs:=[z,TO,i1,i2]) I hT (fun b o hb q=>keep2 b o hb (keep1 b o hb q)) (fun b hb=>hf b (hsub b hb)) new;have hTn:∀ c∈[z,TI,TO,i1,i2],c≠T:=fun c hcm zz=>by
   by_cases hcT:c=TI
   ·exact absurd (aKe (aKx hTI) hT) (by rw[<- hcT,zz];exact aMi _)
   ·refine hTw ?_
    rw[<- zz];simp only[aKi,List.mem_nil_iff,or_false] at hcm ⊢;rcases hcm with q | q | q | q | q
    ·exact .inl q
    ·exact absurd q hcT
    ·exact .inr (.inl q)
    ·exact .inr (.inr (.inl q))
    ·exact .inr (.inr (.inr q))
  refine⟨.ref T,_,I2,rfl,⟨T,x,y,fun zs hz=>by rw[I.list_inj hz hq];exact hx,fun zs hz=>by rw[I.list_inj hz hq'];exact hy,I.hok.fresh hT,rfl,rfl⟩,⟨hSt.1,hSt.2.1,hSt.2.2.1,hSt.2.2.2.1,hSt.2.2.2.2.1⟩,fun c hcm=>?_⟩;rw[aS (hTn c hcm)];exact (hf c hcm).1
 done:=by
  intro X hP hw hK hc i pins s σ H E I hf st hg;subst hP hw hK;obtain⟨xs,ys,hq,hq',hx⟩:=hg;obtain⟨its,rv,p,hzl⟩:=I.list hq;obtain⟨its',rv',p',hzl'⟩:=I.list hq';obtain⟨hz,hTI,⟨w1,w2,hTO⟩,h1,h2⟩:=st;obtain⟨o1,e1,c1,d1⟩:=id h1;obtain⟨o2,e2,c2,d2⟩:=id h2;obtain⟨ol,el,cl,nl,dl⟩:=id p.isList;obtain⟨ol',el',cl',nl',dl'⟩:=id p'.isList;have D:ZipApart z TI TO i1 i2 a b:=⟨A0.TIz,A0.TOz,A0.i1z,A0.i2z,A0.TITO,A0.TIi1,A0.TIi2,A0.TOi1,A0.TOi2,A0.i12,
   cG el hz (by rw[cl];simp),cG el hTO (by rw[cl];simp),cG el e1 (by rw[cl,c1];simp),cG el e2 (by rw[cl,c2];simp),
   cG el' hz (by rw[cl'];simp),cG el' hTO (by rw[cl'];simp),cG el' e1 (by rw[cl',c1];simp),cG el' e2 (by rw[cl',c2];simp)⟩
  have hl:=rv.length;have hl':=rv'.length;have hend:its.toArray[i]?=none\/its'.toArray[i]?=none:=by
   rcases hx with hx | hx
   ·exact .inl (by simp;lia)
   ·exact .inr (by simp;lia)
  exact wpAny_pyNext_zip_end (I.ok.hd hc) D hz hTI hTO h1 h2 p.isList p'.isList hend fun h' hk=>⟨rfl,HN (t':=s.toks) (fs:=[z,TI,TO,i1,i2]) I (fun b o hb q=>hk b o (fun x=>hb (by simp[x])) (fun x=>hb (by simp[x])) (fun x=>hb (by simp[x])) (fun x=>hb (by simp[x])) q) hf⟩
 self:=fun A i s Q E st h=>wpAny_pyIter_zip st.1 h
section
variable {X:Cx}{elts:List Expr}{k:Nat}{p2:Pos}
def XM (K:PySem.W.Frag) (ta:TA):TI:=fun σ H R=>ta σ H fun vs H1=>∃ l xs,vs=[.ref l]/\SqL K H1 l xs/\R (Ite K l) H1
theorem aD9 {a:Expr}{ta:TA}{p pos:Pos}(hg:Gl X "enumerate") (hm:X.mg "enumerate" = none) (ha:PA X [a] ta) (hs:starEach [a] X.env=[(false,eval a X.env)]:=by rfl):PI X (.Tuple elts k p2) (.Call (.Name "enumerate" p) [a] [] pos) (XM X.K ta):=by
 intro pins s σ H R I h;refine Call_ (eH I hg hm PyProof.Rows.boot_enumerate (aN3 (thn (ha pos pins s σ H _ I h) fun us s1 ⟨vs,H1,I1,r1,q1⟩=>?_) hs rfl));obtain⟨l,xs,e,hq,q⟩:=q1;subst e;cases r1 with
 | cons r rr=>
  cases rr;cases r;obtain⟨its,rv,p,hz⟩:=I1.list hq;refine call_enumerate_list p.isList fun h' he hit hsz keep=>wpAny_pyIter_enum he ?_;refine⟨_,[s1.heap.objs.size+1,s1.heap.objs.size],_,_,H1,rfl,I1.kept (t':=s1.toks) keep,aH0 l _ _ (aMn (aMl _)),⟨⟨_,he⟩,hit⟩,fun b hb=>?_,q⟩;have hb':s1.heap.objs.size<=b:=by
   simp only[aKi,List.mem_nil_iff,or_false] at hb;rcases hb with rfl | rfl<;>lia
  exact I1.fpOk hb' (I1.hok.fresh hb')
def XQ (K:PySem.W.Frag) (ta:TA):TI:=fun σ H R=>ta σ H fun vs H1=>∃ l l' xs ys,vs=[.ref l,.ref l']/\SqL K H1 l xs/\SqL K H1 l' ys/\R (Itz K l l') H1
theorem aDc {a b:Expr}{ta:TA}{p pos:Pos}(hg:Gl X "zip") (hm:X.mg "zip" = none) (ha:PA X [a,b] ta) (hs:starEach [a,b] X.env=[(false,eval a X.env),(false,eval b X.env)]:=by rfl) (hs2:starEach [b] X.env=[(false,eval b X.env)]:=by rfl):PI X (.Tuple elts k p2) (.Call (.Name "zip" p) [a,b] [] pos) (XQ X.K ta):=by
 intro pins s σ H R I h;refine Call_ (eH I hg hm PyProof.Rows.boot_zip (aN3 (thn (ha pos pins s σ H _ I h) fun us s1 ⟨vs,H1,I1,r1,q1⟩=>?_) (by rw[hs,hs2]) (by rw[hs2];rfl)));obtain⟨l,l',xs,ys,e,hq,hq',q⟩:=q1;subst e;cases r1 with
 | cons r rr=>
  cases rr with
  | cons r' rr=>
   cases rr;cases r;cases r';obtain⟨its,rv,p,hz⟩:=I1.list hq;obtain⟨its',rv',p',hz'⟩:=I1.list hq';refine call_zip_2 p.isList p'.isList fun h' a1 a2 a3 a4 a5 hsz keep=>wpAny_pyIter_zip a1 ?_;refine⟨_,[s1.heap.objs.size+4,s1.heap.objs.size+2,s1.heap.objs.size+3,s1.heap.objs.size,s1.heap.objs.size+1],_,_,H1,rfl,I1.kept (t':=s1.toks) keep,aH3 l l' _ _ _ _ _ (aHo _),⟨a1,a2,⟨_,_,a3⟩,a4,a5⟩,fun b hb=>?_,q⟩;have hb':s1.heap.objs.size<=b:=by
    simp only[aKi,List.mem_nil_iff,or_false] at hb;rcases hb with rfl | rfl | rfl | rfl | rfl<;>lia
   exact I1.fpOk hb' (I1.hok.fresh hb')
end
def cQ (n:Nat):List T->List T
 | []=>[]
 | u::us=>.tup [.int (n:Int),u]::cQ (n+1) us
theorem AJ:∀ (us:List T) (n i:Nat),(cQ n us)[i]?=(us[i]?).map fun u=>.tup [.int ((n+i:Nat):Int),u]
 | [],n,i=>by simp[cQ]
 | u::us,n,0=>by simp[cQ]
 | u::us,n,i+1=>by
  rw[cQ,List.getElem?_cons_succ,AJ us (n+1) i,List.getElem?_cons_succ]
  congr 2
  funext u
  congr 4
  omega
theorem FD:∀ (us:List T) (n:Nat),(cQ n us).length=us.length
 | [],n=>rfl
 | u::us,n=>by simp[cQ,FD us (n+1)]
def mE (fi:Rho->Option (List T)):Rho->Option (List T):=fun ρ=>(fi ρ).map (cQ 0)
@[simp] theorem fEnum_at (fi:Rho->Option (List T)) (ρ:Rho):mE fi ρ=(fi ρ).map (cQ 0):=rfl
def jB (xs ys:List T):List T:=List.zipWith (fun x y=>.tup [x,y]) xs ys
def rQ (fi gi:Rho->Option (List T)):Rho->Option (List T):=fun ρ=>(fi ρ).bind fun xs=>(gi ρ).map fun ys=>jB xs ys
@[simp] theorem fZip_at (fi gi:Rho->Option (List T)) (ρ:Rho):rQ fi gi ρ=(fi ρ).bind fun xs=>(gi ρ).map fun ys=>jB xs ys:=rfl
theorem zV {K:PySem.W.Frag}{H H':Hp}{A:Addr->Prop}{u:T}{y:V}{sc:Bool}(hsc:sc=true->im u=true) (s:aN H H') (r:Rep K H A u y):Rep K H' (Am sc A H) u y:=by
 cases sc with
 | false=>exact (r.grow s).weak fun b x=>⟨rfl,.inl x⟩
 | true=>exact qS u (hsc rfl) (r.grow s)
theorem aHe {K:PySem.W.Frag}{a:Addr}{us:List T}{sc:Bool}(hsc:sc=true->bR us=true):rJ K (Ite K a) [(.lst us,.ref a)] (cQ 0 us) sc:=by
 intro H A hA i;obtain⟨a',xs,e,hs,hr⟩:=(hA _ aKa).sqL;cases e;refine⟨fun t ht=>?_,fun hi=>⟨xs,hs,by rw[<- hr.length,<- FD us 0];exact hi⟩⟩;rw[AJ] at ht;cases hu:us[i]? with
 | none=>rw[hu] at ht;cases ht
 | some u=>
  rw[hu] at ht;cases (aK6 ht);obtain⟨y,hy,ry⟩:=hr.get hu;refine⟨⟨xs,y,hs,hy⟩,fun x H' hx=>?_⟩;obtain⟨T,y',hy',hT,rfl,rfl⟩:=hx;have:=hy' xs hs;rw[hy] at this;cases (aK6 this);have sn:=cL hT (.tup [.int (i:Nat),y]);refine⟨sn,T,[.int (i:Nat),y],rfl,.inl (.inl cU),.int (i:Nat),[y],rfl,?_,y,[],rfl,zV (fun z=>aKc.mp (hsc z) u (List.mem_of_getElem? hu)) sn ry,rfl⟩;show V.int _=V.int _
  congr 1
  omega
theorem aHf {K:PySem.W.Frag}{a b:Addr}{us ws:List T}{sc:Bool}(hsc:sc=true->bR us=true/\bR ws=true):rJ K (Itz K a b) [(.lst us,.ref a),(.lst ws,.ref b)] (jB us ws) sc:=by
 intro H A hA i;obtain⟨a',xs,e,hs,hr⟩:=(hA _ aKa).sqL;obtain⟨b',ys,e',hs',hr'⟩:=(hA _ (aK9 _ aKa)).sqL;cases e;cases e';refine⟨fun t ht=>?_,fun hi=>⟨xs,ys,hs,hs',?_⟩⟩
 ·unfold jB at ht
  rw[List.getElem?_zipWith] at ht;cases hu:us[i]? with
  | none=>rw[hu] at ht;cases ht
  | some u=>
   cases hw:ws[i]? with
   | none=>rw[hu,hw] at ht;cases ht
   | some w=>
    rw[hu,hw] at ht;cases (aK6 ht);obtain⟨y,hy,ry⟩:=hr.get hu;obtain⟨z,hz,rz⟩:=hr'.get hw;refine⟨⟨xs,ys,y,z,hs,hs',hy,hz⟩,fun x H' hx=>?_⟩;obtain⟨T,y',z',hy',hz',hT,rfl,rfl⟩:=hx;have q1:=hy' xs hs;have q2:=hz' ys hs';rw[hy] at q1;rw[hz] at q2;cases (aK6 q1);cases (aK6 q2);have sn:=cL hT (.tup [y,z]);exact⟨sn,T,[y,z],rfl,.inl (.inl cU),y,[z],rfl,zV (fun z=>aKc.mp (hsc z).1 u (List.mem_of_getElem? hu)) sn ry,z,[],rfl,zV (fun z=>aKc.mp (hsc z).2 w (List.mem_of_getElem? hw)) sn rz,rfl⟩
 ·unfold jB at hi
  rw[List.length_zipWith] at hi;rw[<- hr.length,<- hr'.length];omega
section
variable {X:Cx}{B:Hp}{fl:List Nat}{e e':Expr}{f g:Rho->Option T}{n n':Bool}{l l':Nat}{pos p' p2:Pos}{x:Str}{elts:List Expr}{k:Nat}
theorem Ad.min3 {H:Hp}{M:List Addr}{a:Addr}(h:Ad B H M (min l 3) a):Ad B H M l a:=⟨fun z=>h.1 (by omega),fun z=>h.2.1 (by omega),fun z=>h.2.2 (by omega)⟩
theorem BL {t:T}{us:List T}(h:gN t=some us):t=.lst us/\bR us=true:=by
 cases t<;>first | (cases h;done) | skip
 unfold gN at h;dsimp only at h;split at h
 ·rename_i hfl
  cases (aK6 h);exact⟨rfl,hfl⟩
 ·cases h
theorem WE {sc:Bool}{fi:Rho->Option (List T)}(hfi:∀ ρ us,fi ρ=some us->f ρ=some (.lst us)/\(sc=true->bR us=true)) (hx:x = "enumerate") (hg:Gl X x) (hm:X.mg x=none) (he:GE X B fl e f n l) (hs:starEach [e] X.env=[(false,eval e X.env)]):
  GI X B fl (.Tuple elts k p2) (.Call (.Name x p') [e] [] pos) (mE fi) l sc:=by
 subst hx;refine xY (aD9 hg hm (aD he aF hs) hs) ?_;rintro σ H R ⟨Ex,ρ,M,ts,S,hf,q⟩;unfold mE at hf;cases hu:fi ρ with
 | none=>rw[hu] at hf;cases hf
 | some us=>
  rw[hu] at hf;cases (aK6 hf);obtain⟨h1,h2⟩:=hfi ρ us hu;refine⟨Ex,ρ,M,[.lst us],S,by unfold aC aE;rw[h1];rfl,fun vs H1 s1 r1=>?_⟩;obtain⟨y,rfl,ry⟩:=dN r1;obtain⟨p,xs,rfl,h3,h4⟩:=ry.sqL;exact⟨p,xs,rfl,h3,q _ H1 [(.lst us,.ref p)] s1 (fun pv hp=>by cases aM8.mp hp;exact ry.weak fun b x=>x.min3) (aHe h2)⟩
theorem AZ (hx:x = "enumerate") (hg:Gl X x) (hm:X.mg x=none) (he:GE X B fl e f n l) (hs:starEach [e] X.env=[(false,eval e X.env)]:=by rfl):
  GI X B fl (.Tuple elts k p2) (.Call (.Name x p') [e] [] pos) (mE (fFL f)) l true:=
 WE (fun ρ us h=>by
  obtain⟨t,h1,h2⟩:=bind_some h;obtain⟨h3,h4⟩:=BL h2;exact⟨by rw[h1,h3],fun _=>h4⟩) hx hg hm he hs
theorem WF {sc:Bool}{fi gi:Rho->Option (List T)}(hfi:∀ ρ us,fi ρ=some us->f ρ=some (.lst us)/\(sc=true->bR us=true)) (hgi:∀ ρ us,gi ρ=some us->g ρ=some (.lst us)/\(sc=true->bR us=true)) (hx:x = "zip") (hg:Gl X x) (hm:X.mg x=none) (he:GE X B fl e f n l) (he':GE X B fl e' g n' l')
  (hs:starEach [e,e'] X.env=[(false,eval e X.env),(false,eval e' X.env)]) (hs2:starEach [e'] X.env=[(false,eval e' X.env)]):
  GI X B fl (.Tuple elts k p2) (.Call (.Name x p') [e,e'] [] pos) (rQ fi gi) (min l l') sc:=by
 subst hx;refine xY (aDc hg hm (aD he (aD he' aF hs2) (by rw[hs,hs2])) hs hs2) ?_;rintro σ H R ⟨Ex,ρ,M,ts,S,hf,q⟩;obtain⟨us,hu,hf⟩:=bind_some hf;cases hw:gi ρ with
 | none=>rw[hw] at hf;cases hf
 | some ws=>
  rw[hw] at hf;cases (aK6 hf);obtain⟨h1,h2⟩:=hfi ρ us hu;obtain⟨h1',h2'⟩:=hgi ρ ws hw;refine⟨Ex,ρ,M,[.lst us,.lst ws],S,by simp only[aC,aE,h1,h1',aN0],fun vs H1 s1 r1=>?_⟩;obtain⟨y,r,rfl,ry,r2⟩:=r1;obtain⟨z,rfl,rz⟩:=dN r2;obtain⟨p,xs,rfl,h3,h4⟩:=ry.sqL;obtain⟨p2,ys,rfl,h3',h4'⟩:=rz.sqL;have wk:∀ a,Ad B H M (min l (min l' 3)) a->Ad B H M (min l l') a:=fun a h=>⟨fun z=>h.1 (by omega),fun z=>h.2.1 (by omega),fun z=>h.2.2 (by omega)⟩;refine⟨p,p2,xs,ys,rfl,h3,h3',q _ H1 [(.lst us,.ref p),(.lst ws,.ref p2)] s1 (fun pv hp=>?_) (aHf fun z=>⟨h2 z,h2' z⟩)⟩;rcases aKi.mp hp with rfl | hp
  ·exact ry.weak wk
  ·cases aM8.mp hp
   exact rz.weak wk
theorem FZ (hx:x = "zip") (hg:Gl X x) (hm:X.mg x=none) (he:GE X B fl e f n l) (he':GE X B fl e' g n' l') (hs:starEach [e,e'] X.env=[(false,eval e X.env),(false,eval e' X.env)]:=by rfl) (hs2:starEach [e'] X.env=[(false,eval e' X.env)]:=by rfl):
  GI X B fl (.Tuple elts k p2) (.Call (.Name x p') [e,e'] [] pos) (rQ (fFL f) (fFL g)) (min l l') true:=
 WF (fun ρ us h=>by
  obtain⟨t,h1,h2⟩:=bind_some h;obtain⟨h3,h4⟩:=BL h2;exact⟨by rw[h1,h3],fun _=>h4⟩) (fun ρ us h=>by
  obtain⟨t,h1,h2⟩:=bind_some h;obtain⟨h3,h4⟩:=BL h2;exact⟨by rw[h1,h3],fun _=>h4⟩) hx hg hm he he' hs hs2
end
def setL (ρ:Rho):List Nat->List T->Option Rho
 | [],[]=>some ρ
 | j::js,t::ts=>setL (ρ.set j (some t)) js ts
 | _,_=>none
def gW (σ:St):List Nat->List V->St
 | j::js,v::vs=>gW (σ.set j (some v)) js vs
 | _,_=>σ
def gNs (js:List Nat):TGs:=fun vs σ H Q=>vs.length=js.length/\Q (gW σ js vs) H
theorem qE {X:Cx}:PGs X [] (gNs []):=by
 intro pins s σ H vs us Q I r h;refine aD8 pins s σ H vs us Q I r ⟨List.length_eq_zero_iff.mp h.1,?_⟩;have e:=List.length_eq_zero_iff.mp h.1;subst e;exact h.2
theorem eS {X:Cx}{j:Nat}{x:Str}{pos:Pos}{es:List Expr}{js:List Nat}(hN:X.N.Nodup) (hi:X.N[j]?=some x) (hx:Loc X.env.scope x) (h2:PGs X es (gNs js)) (hf:X.fn x=true\/X.env.scope.names.lookup x=some .local:=by first | exact .inl rfl | exact .inr rfl | assumption)
  (hs:(assignEach ((.Name x pos)::es) X.env).map (·.2)=assign (.Name x pos) X.env::(assignEach es X.env).map (·.2):=by rfl):PGs X ((.Name x pos)::es) (gNs (j::js)):=by
 intro pins s σ H vs us Q I r h;refine aD7 (xX hN hi hx hf) h2 hs pins s σ H vs us Q I r ?_
 match vs,h with
 | v::vr,h=>exact⟨v,vr,rfl,by simpa using h.1,h.2⟩
theorem LT:∀ (js:List Nat) (vs:List V) (σ:St),(gW σ js vs).length=σ.length
 | [],_,_=>rfl
 | _::_,[],_=>rfl
 | j::js,v::vs,σ=>by rw[gW,LT js vs];simp
theorem LS:∀ (js:List Nat) (vs:List V) (σ:St) (i:Nat),i ∉ js->(gW σ js vs)[i]?=σ[i]?
 | [],_,_,_,_=>rfl
 | _::_,[],_,_,_=>rfl
 | j::js,v::vs,σ,i,h=>by
  have h1:i≠j:=fun z=>h (by rw[z];exact aKa);have h2:i ∉ js:=fun z=>h (aK9 _ z);rw[gW,LS js vs _ i h2,aKg (Ne.symm h1)]
theorem DA:∀ (js:List Nat) (ts:List T) (ρ ρ':Rho),setL ρ js ts=some ρ'->ts.length=js.length
 | [],[],_,_,_=>rfl
 | [],_::_,_,_,h=>by cases h
 | _::_,[],_,_,h=>by cases h
 | j::js,t::ts,ρ,ρ',h=>by simp[DA js ts _ ρ' h]
theorem Sl.setL {K:PySem.W.Frag}{B H:Hp}{fl:List Nat}{Ex:List (T × V)}{M:List Addr}{lv:Nat}:∀ (js:List Nat) (ts:List T) (vs:List V) {σ:St}{ρ ρ':Rho},Sl K B fl Ex σ ρ M H->(∀ j∈js,j<fl.length/\1<=fl.getD j 1/\min (fl.getD j 1) 2<=lv)->RepL K H (Ad B H M lv) ts vs->G.setL ρ js ts=some ρ'->Sl K B fl Ex (gW σ js vs) ρ' M H
 | [],[],vs,σ,ρ,ρ',S,_,r,h=>by
  cases (aK6 h);cases (show vs=[] from r);exact S
 | [],_::_,_,_,_,_,_,_,_,h=>by cases h
 | _::_,[],_,_,_,_,_,_,_,h=>by cases h
 | j::js,t::ts,vs,σ,ρ,ρ',S,hj,r,h=>by
  obtain⟨v,vr,rfl,r1,r2⟩:=r;have h0:=hj j aKa;exact Sl.setL js ts vr (S.set h0.1 (.inl h0.2.1) (r1.weak fun b x=>⟨fun z=>x.1 (by omega),fun z=>x.2.1 (by omega),fun z=>by omega⟩)) (fun i hi=>hj i (aK9 _ hi)) r2 h
def dQ (js:List Nat) (body:Rho->Option Out):List T->Rho->Option Out
 | [],ρ=>some (.nx ρ)
 | .tup us::ts,ρ=>(setL ρ js us).bind fun ρ1=>(body ρ1).bind fun o=>match o with | .nx ρ'=>dQ js body ts ρ' | .ct ρ'=>dQ js body ts ρ' | .bk ρ'=>some (.nx ρ') | .rt t=>some (.rt t)
 | _::_,_=>none
def yB (js:List Nat) (fi:Rho->Option (List T)) (body:Rho->Option Out):Rho->Option Out:=fun ρ=>(fi ρ).bind fun ts=>dQ js body ts ρ
@[simp] theorem rForT_at (js:List Nat) (fi:Rho->Option (List T)) (body:Rho->Option Out) (ρ:Rho):yB js fi body ρ=(fi ρ).bind fun ts=>dQ js body ts ρ:=rfl
theorem VC {js:List Nat}{body:Rho->Option Out}{t:T}{ts:List T}{ρ:Rho}{o:Out}(h:dQ js body (t::ts) ρ=some o):∃ us ρ1 o1,t=.tup us/\setL ρ js us=some ρ1/\body ρ1=some o1/\(match o1 with | .nx ρ'=>dQ js body ts ρ' | .ct ρ'=>dQ js body ts ρ' | .bk ρ'=>some (.nx ρ') | .rt t=>some (.rt t))=some o:=by
 cases t with
 | tup us=>
  obtain⟨ρ1,h1,h⟩:=bind_some h;obtain⟨o1,h2,h⟩:=bind_some h;exact⟨us,ρ1,o1,rfl,h1,h2,h⟩
 | exc _=>cases h
 | non=>cases h
 | bl _=>cases h
 | int _=>cases h
 | str _=>cases h
 | lst _=>cases h
theorem LB {K:PySem.W.Frag}{H:Hp}{A:Addr->Prop}{us:List T}{v:V}(h:Rep K H A (.tup us) v):∃ a xs,v=.ref a/\SqT K H a xs/\RepL K H A us xs:=h.sqT
theorem GP {X:Cx}{B:Hp}{fl:List Nat}{n:Bool}{l:Nat}{body:List Stmt}{r:Rho->Option Out}{pos p2:Pos}{k m:Nat}(js:List Nat) {iter:Expr}{elts:List Expr}{fi:Rho->Option (List T)}{li:Nat}{sc:Bool}(hp:PassesOwn (model X.prog X.w) X.A X.env X.xe) (hc:X.calm=true) (hi:GI X B fl (.Tuple elts k p2) iter fi li sc)
  (hg:PGs X elts (gNs js)) (hb:GSs X B fl n l body r) (hfl:(js.all fun j=>decide (j<fl.length)&&decide (fl.getD j 1=1))=true) (hli:decide (1<=li)=true)
  (hn:(assignEach elts X.env).length=m:=by rfl) (hst:(assignEach elts X.env).findIdx? (·.1)=none:=by rfl) (hm:js.length=m:=by rfl)
  (hs:∀ x,foldedSetIterable iter X.env x=pure x:=by intro _;rfl):
  GS X B fl n l (.For (.Tuple elts k p2) iter body [] pos) (yB js fi r):=by
 have hfl':∀ j∈js,j<fl.length/\1<=fl.getD j 1/\min (fl.getD j 1) 2<=1:=fun j hj=>by
  have:=aKc.mp hfl j hj;simp only[aKn,decide_eq_true_eq] at this;exact⟨this.1,by omega,by omega⟩
 have hli:=of_decide_eq_true hli;refine eB (JX hp hc hi (JP hc hg hn hst) hb hs) ?_;rintro D σ H ⟨Ex,ρ,M,o,S,hr,q⟩;obtain⟨ts,hts,hr⟩:=bind_some hr;refine⟨Ex,ρ,M,ts,S,hts,fun J H1 ps s1 rp wk=>?_⟩;refine⟨fun i m σ1 H2=>m=ts.length-i/\i<=ts.length/\∃ ρ1 M1,Sl X.K B fl (ps++Ex) σ1 ρ1 M1 H2/\dQ js r (ts.drop i) ρ1=some o,⟨ts.length,by simp,aMx _,ρ,M,(S.grow s1).plus (fun p hp=>(rp p hp).weak fun b x=>⟨fun z=>x.1 (by omega),fun z=>by omega,fun z=>by omega⟩),hr⟩,?_⟩;rintro i m' σ1 H2 ⟨rfl,hi,ρ1,M1,S1,e1⟩;have w:=wk H2 _ (fun p hp=>S1.ex p (aLz _ hp)) i
 by_cases hlt:i<ts.length
 ·have et:ts[i]?=some ts[i]:=aK8 hlt
  obtain⟨go,yl⟩:=w.1 _ et;rw[List.drop_eq_getElem_cons hlt] at e1;obtain⟨us,ρ2,o1,eu,h0,h1,e1⟩:=VC e1;refine .inr ⟨go,fun σ' H'=>∃ ρ1 M1,Sl X.K B fl (ps++Ex) σ' ρ1 M1 H'/\dQ js r (ts.drop (i+1)) ρ1=some o,fun σ' H' ⟨ρ',M',S',e'⟩=>⟨ts.length-(i+1),by omega,rfl,hlt,ρ',M',S',e'⟩,fun y H3 hy=>?_⟩;obtain⟨s23,ry⟩:=yl y H3 hy;have ry':Rep X.K H3 (Ad B H3 M1 1) ts[i] y:=ry.weak fun c hc=>by
   obtain⟨_,hc⟩:=hc;rcases hc with hc | hc
   ·exact⟨fun z=>hc.1 (aMg _),fun z=>by omega,fun z=>by omega⟩
   ·exact⟨fun _ z=>(S1.mB c z).2 hc,fun z=>by omega,fun z=>by omega⟩
  rw[eu] at ry';obtain⟨a,xs,rfl,hsq,rl⟩:=LB ry';have hlen:xs.length=js.length:=by rw[<- rl.length];exact DA js us ρ1 ρ2 h0
  refine⟨a,xs,rfl,hsq,by rw[hlen,hm],hlen,?_⟩;refine⟨ps++Ex,_,M1,o1,(S1.grow s23).setL js us xs hfl' rl h0,h1,?_⟩;cases o1 with
  | nx ρ'=>exact fun σ' M' H' S'=>⟨ρ',M',S',e1⟩
  | ct ρ'=>exact fun σ' M' H' S'=>⟨ρ',M',S',e1⟩
  | bk ρ'=>cases (aK6 e1);exact fun σ' M' H' S'=>q σ' M' H' S'.fewer
  | rt t=>cases (aK6 e1);exact q
 ·have ei:i=ts.length:=by omega
  subst ei;rw[List.drop_eq_nil_of_le (aMg _)] at e1;cases (aK6 (show some (Out.nx ρ1)=some o from e1));exact .inl ⟨w.2 (aMg _),q σ1 M1 H2 S1.fewer⟩
def cP (js:List Nat) (p:Rho->Option Bool) (f:Rho->Option T) (ρ:Rho):List T->Option (List T)
 | []=>some []
 | .tup us::ts=>(setL ρ js us).bind fun ρ1=>(p ρ1).bind fun b=>if b then (f ρ1).bind fun y=>(cP js p f ρ ts).map (y :: ·) else cP js p f ρ ts
 | _::_=>none
def mD (js:List Nat) (fi:Rho->Option (List T)) (src:List (Option Nat)) (p:Rho->Option Bool) (f:Rho->Option T):Rho->Option T:=fun ρ=>
 (fi ρ).bind fun ts=>(cP js p f (bP src ρ) ts).bind fun us=>if us.length<=cap then some (.lst us) else none
@[simp] theorem fCompT_at (js:List Nat) (fi:Rho->Option (List T)) (src:List (Option Nat)) (p:Rho->Option Bool) (f:Rho->Option T) (ρ:Rho):mD js fi src p f ρ =
 (fi ρ).bind fun ts=>(cP js p f (bP src ρ) ts).bind fun us=>if us.length<=cap then some (.lst us) else none:=rfl
theorem SG {js:List Nat}{p:Rho->Option Bool}{f:Rho->Option T}{ρ:Rho}{t:T}{ts us:List T}(h:cP js p f ρ (t::ts)=some us):
  ∃ xs ρ1 b,t=.tup xs/\setL ρ js xs=some ρ1/\p ρ1=some b/\((b=true/\∃ y r,f ρ1=some y/\cP js p f ρ ts=some r/\us=y::r)\/(b=false/\cP js p f ρ ts=some us)):=by
 cases t with
 | tup xs=>
  obtain⟨ρ1,h1,h⟩:=bind_some h;obtain⟨b,h2,h⟩:=bind_some h;refine⟨xs,ρ1,b,rfl,h1,h2,?_⟩;cases b with
  | true=>
   obtain⟨y,h3,h⟩:=bind_some (show ((f ρ1).bind fun y=>(cP js p f ρ ts).map (y :: ·))=some us from h);cases e:cP js p f ρ ts with
   | none=>rw[e] at h;cases h
   | some r=>rw[e] at h;cases (aK6 h);exact .inl ⟨rfl,y,r,h3,rfl,rfl⟩
  | false=>exact .inr ⟨rfl,h⟩
 | exc _=>cases h
 | non=>cases h
 | bl _=>cases h
 | int _=>cases h
 | str _=>cases h
 | lst _=>cases h
structure FlT (X:Cx) (N':List Str) (src:List (Option Nat)) (fl fl':List Nat) (li:Nat) (sc:Bool) (js:List Nat):Prop where
 nd:N'.Nodup
 own:∀ j∈js,src[j]?=some none
 cap:∀ (j i:Nat),src[j]?=some (some i)->fl'.getD j 1=fl.getD i 1
 pos:∀ j∈js,1<=fl'.getD j 1
 le:sc=false->∀ j∈js,fl'.getD j 1<=li
 xN:∀ (j i:Nat),src[j]?=some (some i)->N'[j]?=X.N[i]?/\j<N'.length
 lf:fl'.length=src.length
def EU (N N':List Str) (src:List (Option Nat)) (fl fl':List Nat) (li:Nat) (sc:Bool) (js:List Nat):Bool:=
 sK N'&&(js.all fun j=>(match src[j]? with | some none=>true | _=>false)&&decide (1<=fl'.getD j 1)&&(sc||decide (fl'.getD j 1<=li)))&&(fl'.length == src.length)&&(src.length == N'.length) &&
 (List.range src.length).all (fun j=>match src[j]? with | some (some i)=>(match N'[j]?,N[i]? with | some a,some b=>a == b | _,_=>false)&&(fl'.getD j 1 == fl.getD i 1) | _=>true)
theorem wJ {X:Cx}{N':List Str}{src:List (Option Nat)}{fl fl':List Nat}{li:Nat}{sc:Bool}{js:List Nat}(h:EU X.N N' src fl fl' li sc js=true):FlT X N' src fl fl' li sc js:=by
 unfold EU at h;simp only[aKn] at h;obtain⟨⟨⟨⟨h1,h2⟩,h5⟩,h6⟩,h7⟩:=h;have key:∀ j i,src[j]?=some (some i)->(N'[j]?=X.N[i]?/\j<N'.length)/\fl'.getD j 1=fl.getD i 1:=fun j i e=>by
  have hj:j<src.length:=(aKb.mp e).1;have t:=aKc.mp h7 j (aKd.mpr hj);rw[e] at t;simp only[aKn] at t;refine⟨⟨?_,by rw[<- eq_of_beq h6];exact hj⟩,eq_of_beq t.2⟩;have t1:=t.1;cases q:N'[j]? with
  | none=>rw[q] at t1;cases t1
  | some a=>
   cases q2:X.N[i]? with
   | none=>rw[q,q2] at t1;cases t1
   | some b=>
    rw[q,q2] at t1;rw[eq_of_beq t1]
 have own:∀ j∈js,src[j]?=some none/\1<=fl'.getD j 1/\(sc=false->fl'.getD j 1<=li):=fun j hj=>by
  have t:=aKc.mp h2 j hj;simp only[aKn,decide_eq_true_eq] at t;refine⟨?_,t.1.2,fun z=>by simpa [z] using t.2⟩;have t1:=t.1.1;cases q:src[j]? with
  | none=>rw[q] at t1;cases t1
  | some o=>
   cases o with
   | none=>rfl
   | some _=>rw[q] at t1;cases t1
 exact⟨fV h1,fun j hj=>(own j hj).1,fun j i e=>(key j i e).2,fun j hj=>(own j hj).2.1,fun z j hj=>(own j hj).2.2 z,fun j i e=>(key j i e).1,eq_of_beq h5⟩
section
variable {X:Cx}{K:PySem.W.Frag}{B H:Hp}{fl fl':List Nat}{src:List (Option Nat)}{N':List Str}{Ex:List (T × V)}{σ σ1:St}{ρ:Rho}{M:List Addr}{li:Nat}{sc:Bool}{js:List Nat}
theorem Sl.block0 (F:FlT X N' src fl fl' li sc js) (S:Sl K B fl Ex σ ρ M H) (h0:∀ j,j ∉ js->σ1[j]?=(cE src σ)[j]?) (hl:σ1.length=src.length):Sl K B fl' Ex σ1 (bP src ρ) M H:=by
 have get:∀ j u,(bP src ρ)[j]?=some (some u)->∃ i,src[j]?=some (some i)/\ρ[i]?=some (some u)/\j ∉ js:=fun j u e=>by
  obtain⟨i,e1,e2⟩:=MP e;exact⟨i,e1,e2,fun z=>by rw[F.own j z] at e1;cases e1⟩
 have put:∀ j i v,j ∉ js->src[j]?=some (some i)->σ[i]?=some (some v)->σ1[j]?=some (some v):=fun j i v hj e1 e2=>by
  rw[h0 j hj];exact MQ e1 e2
 obtain⟨g,hg,ap⟩:=S.mu;refine⟨S.same,fun j u e k=>?_,⟨fun j=>g (((src[j]?).join).getD 0),fun j u e k hm=>?_,fun j j' c d u u' us ws hne e e' k k' hm hm'=>?_⟩,S.ex,S.mB,by rw[hl];exact Nat.le_of_eq F.lf⟩
 ·obtain⟨i,e1,e2,hj⟩:=get j u e
  rw[F.cap j i e1] at k ⊢;obtain⟨v,e3,r3⟩:=S.slot i u e2 k;exact⟨v,put j i v hj e1 e3,r3⟩
 ·obtain⟨i,e1,e2,hj⟩:=get j u e
  rw[F.cap j i e1] at k;obtain⟨v,e4,e5⟩:=hg i u e2 k hm;simp only[show ((src[j]?).join).getD 0=i by rw[e1];rfl];exact⟨v,put j i _ hj e1 e4,e5⟩
 ·obtain⟨i,e1,e2,hj⟩:=get j u e
  obtain⟨i',e1',e2',hj'⟩:=get j' u' e';rw[F.cap j i e1] at k;rw[F.cap j' i' e1'] at k';have hii:j≠j'->i≠i':=fun hjj z=>by
   subst z;have q1:=F.xN j i e1;have q2:=F.xN j' i e1';have:N'[j]?=N'[j']?:=q1.1.trans q2.1.symm;rw[aK8 q1.2,aK8 q2.2] at this;exact hjj ((List.getElem_inj F.nd).mp (aK6 this))
  simp only[show ((src[j]?).join).getD 0=i by rw[e1];rfl,show ((src[j']?).join).getD 0=i' by rw[e1'];rfl];exact ap i i' c d u u' us ws (hne.imp hii id) e2 e2' k k' hm hm'
end
section
variable {X:Cx}{B:Hp}{fl fl':List Nat}{elt iter:Expr}{elts:List Expr}{ifs:List Expr}{scope:Scope}{pos p2:Pos}{N':List Str}{src:List (Option Nat)}{fi:Rho->Option (List T)}{p:Rho->Option Bool}{f:Rho->Option T}{n sc:Bool}{l li k m:Nat}{js:List Nat}
theorem SK (F:FlT X N' src fl fl' li sc js) (hl1':1<=l) (hm:js.length=m) {σ:St}{H:Hp}{Q:VK}(h:tG X.K B fl (mD js fi src p f) true l σ H Q):
  vR (tGI X.K B fl fi li sc) (cE src) (rV X.K m (gNs js)) (tGT X.K B fl' p) (tG X.K B fl' f n l) σ H Q:=by
 obtain⟨Ex,ρ,M,t,S,hf,q⟩:=h;obtain⟨ts,hts,hf⟩:=bind_some hf;obtain⟨fin,hfin,hf⟩:=bind_some hf;split at hf
 rotate_left
 ·cases hf
 rename_i hcap;cases (aK6 hf);refine⟨Ex,ρ,M,ts,S,hts,fun J H1 ps s01 rp wk=>?_⟩;intro D hD;refine⟨fun i m σ1 H2=>m=ts.length-i/\i<=ts.length/\aN H1 H2/\σ1.length=src.length/\(∀ j,j ∉ js->σ1[j]?=(cE src σ)[j]?) /\
  ∃ us rest xs,us++rest=fin/\cP js p f (bP src ρ) (ts.drop i)=some rest/\H2 D=some (.lst xs)/\RepL X.K H2 (fun b=>Ad B H M l b/\b≠D) us xs,?_,?_⟩
 ·refine⟨ts.length,by simp,aMx _,cL hD _,by unfold cE;simp,fun _ _=>rfl,[],fin,[],rfl,by simpa using hfin,cU,rfl⟩
 ·rintro i m' σ1 H2 ⟨rfl,hi,s12,hl1,hσ,us,rest,xs,e1,e2,e3,e4⟩
  have hD2:H2 D≠none:=by rw[e3];simp
  have S2:=(S.grow s01).more hD s12 hD2;have rp1:∀ pv∈ps,Rep X.K H1 (fun b=>Ad B H M li b/\b≠D) pv.1 pv.2:=fun pv hpv=>Rep.keep (fun _ _ e=>e) (fun _ _ _ e=>e) (fun b x y=>⟨x,fun z=>y (z ▸ hD)⟩) pv.1 (rp pv hpv);have w:=wk H2 _ (fun pv hpv=>(rp1 pv hpv).grow s12) i
  by_cases hlt:i<ts.length
  ·refine .inr ?_
   have et:ts[i]?=some ts[i]:=aK8 hlt;obtain⟨go,yl⟩:=w.1 _ et;refine⟨go,fun x H3 hy=>?_⟩;obtain⟨s23,rx⟩:=yl x H3 hy;rw[List.drop_eq_getElem_cons hlt] at e2;obtain⟨ws,ρ1,b,ew,hset,hb,hcase⟩:=SG e2;have S3:=S2.grow s23;have rx':Rep X.K H3 (Ad B H3 (D::M) (if sc then 2 else min li 2)) ts[i] x:=rx.weak fun c hc=>by
    obtain⟨h0,hc⟩:=hc;rw[if_neg (by rw[h0];simp)];rcases hc with hc | hc
    ·refine⟨fun z w=>?_,fun z=>hc.1.2.1 (by omega),fun z=>by omega⟩
     rcases aKi.mp w with rfl | w
     ·exact hc.2 rfl
     ·exact hc.1.1 (by omega) w
    ·exact⟨fun _ z=>(S2.mB c z).2 hc,fun _=>S2.same.free hc,fun z=>by omega⟩
   rw[ew] at rx';obtain⟨a,vs,rfl,hsq,rl⟩:=LB rx';have hlen:vs.length=js.length:=by rw[<- rl.length];exact DA js ws _ _ hset
   have hjs:∀ j∈js,j<fl'.length/\1<=fl'.getD j 1/\min (fl'.getD j 1) 2<=(if sc then 2 else min li 2):=fun j hj=>by
    refine⟨by rw[F.lf];exact (aKb.mp (F.own j hj)).1,F.pos j hj,?_⟩;cases hsc:sc with
    | true=>simp only[if_true];omega
    | false=>
     have:=F.le hsc j hj;simp only[aKq,if_false];omega
   have Sb:=(Sl.block0 (σ1:=σ1) F S3 hσ hl1).setL js ws vs hjs rl hset;refine⟨a,vs,rfl,hsq,by rw[hlen,hm],hlen,?_⟩;show tGT X.K B fl' p (gW σ1 js vs) H3 _;refine⟨Ex,_,D::M,b,Sb,hb,fun H5 s35=>?_⟩;have hσ':∀ j,j ∉ js->(gW σ1 js vs)[j]?=(cE src σ)[j]?:=fun j hj=>by rw[LS js vs σ1 j hj];exact hσ j hj
   have hl1'':(gW σ1 js vs).length=src.length:=by rw[LT];exact hl1
   rcases hcase with ⟨rfl,y,r,hy',hr,rfl⟩ | ⟨rfl,hr⟩
   ·refine jN ⟨Ex,_,D::M,y,Sb.grow s35,hy',fun v H6 s56 rv=>?_⟩
    have s26:=(s23.trans s35).trans s56;have e5:=s26 _ _ e3;have hl:xs.length<sizeLine:=by
     rw[<- e4.length];refine gH (aMh ?_ hcap);rw[<- e1];simp
    refine⟨xs,e5,hl,ts.length-(i+1),by omega,rfl,hlt,?_,hl1'',hσ',us++[y],r,xs++[v],by rw[<- e1];simp,hr,cU,?_⟩
    ·intro c o hc
     have:c≠D:=fun z=>by rw[z,hD] at hc;cases hc
     rw[aS this];exact (s12.trans s26) c o hc
    ·have k1:RepL X.K H6 (fun b=>Ad B H M l b/\b≠D) us xs:=e4.grow s26
     have k2:Rep X.K H6 (fun b=>Ad B H M l b/\b≠D) y v:=by
      have z:=rv.rep (Sb.grow s35);exact z.weak fun c hc=>⟨⟨fun k w=>hc.1 k (aK9 _ w),hc.2.1,fun k=>((s01.trans s12).trans (s23.trans s35)).free (hc.2.2 k)⟩,fun w=>hc.1 hl1' (by rw[w];exact aKa)⟩
     exact (RepL.app k1 (RepL.one k2)).keep (fun c _ e=>gR e5 e) (fun c o hc e=>by rw[aS hc.2];exact e) (fun c hc _=>hc) _
   ·refine jM ⟨ts.length-(i+1),by omega,rfl,hlt,(s12.trans s23).trans s35,hl1'',hσ',us,rest,xs,e1,hr,(s23.trans s35) _ _ e3,e4.grow (s23.trans s35)⟩
  ·have ei:i=ts.length:=by omega
   subst ei;refine .inl ⟨w.2 (aMg _),?_⟩;rw[List.drop_eq_nil_of_le (aMg _)] at e2;cases (aK6 (show some []=some rest from e2));rw[aL3] at e1;subst e1;exact q _ H2 (s01.trans s12) ⟨D,xs,rfl,s01.free hD,e3,e4⟩
theorem wN (S:BlkOk X scope N' src) (F:FlT X N' src fl fl' li sc js) (hl1:1<=l) (hc:X.calm=true) (hi:GI X B fl (.Tuple elts k p2) iter fi li sc)
  (hg:∀ cl C s H ex,PG (cxB X scope N' cl C s H ex) (.Tuple elts k p2) (rV X.K m (gNs js))) (hm:js.length=m)
  (hb:∀ cl C s H ex,GIf (cxB X scope N' cl C s H ex) B fl' ifs p/\GE (cxB X scope N' cl C s H ex) B fl' elt f n l)
  (hs:∀ x,foldedSetIterable iter X.env x=pure x:=by intro _;rfl):GE X B fl (.ListComp elt [⟨.Tuple elts k p2,iter,ifs,0⟩] scope pos) (mD js fi src p f) true l:=
 bD (JL (wi:=tGI X.K B fl fi li sc) (g:=rV X.K m (gNs js)) (tc:=tGT X.K B fl' p) (te:=tG X.K B fl' f n l) S hc hi (fun cl C s H ex=>⟨hg cl C s H ex,(hb cl C s H ex).1,(hb cl C s H ex).2⟩) hs) fun σ H Q h=>SK F hl1 hm h
end
theorem pgT {X:Cx}{elts:List Expr}{k m:Nat}{p2:Pos}{js:List Nat}(hc:X.calm=true) (h:PGs X elts (gNs js)) (hn:(assignEach elts X.env).length=m:=by rfl) (hst:(assignEach elts X.env).findIdx? (·.1)=none:=by rfl):PG X (.Tuple elts k p2) (rV X.K m (gNs js)):=JP hc h hn hst
def YB:Expr->Option Int
 | .Constant (.int i) _ _=>some i
 | _=>none
def xE:List Expr->Option (List Int)
 | []=>some []
 | e::es=>(YB e).bind fun i=>(xE es).map (i :: ·)
theorem FR {X:Cx}{B:Hp}{fl:List Nat}:∀ (es:List Expr) (ns:List Int),xE es=some ns->GA X B fl es (fun _=>some (tI ns)) 3
 | [],ns,h=>by
  cases (aK6 h);exact aF
 | e::es,ns,h=>by
  obtain⟨i,h1,h⟩:=bind_some h;cases h2:xE es with
  | none=>rw[h2] at h;cases h
  | some ms=>
   rw[h2] at h;cases (aK6 h);have ih:=FR (X:=X) (B:=B) (fl:=fl) es ms h2;cases e<;>first | (cases h1;done) | skip
   rename_i c j pos;cases c<;>first | (cases h1;done) | skip
   cases (aK6 h1);have:=aD (X:=X) (B:=B) (fl:=fl) (ge_int (i:=i) (j:=j) (pos:=pos)) ih (by rfl);exact this
theorem wO {X:Cx}{B:Hp}{fl:List Nat}{es:List Expr}{pos:Pos}{ns:List Int}(h:xE es=some ns) (hl:decide (ns.length<=cap)=true):GE X B fl (.List es pos) (fC (.lst (tI ns))) true 3:=by
 refine bD (gK (B:=B) (fl:=fl) (FR es ns h)) ?_;rintro σ H Q ⟨Ex,ρ,M,t,S,hf,q⟩;refine⟨Ex,ρ,M,t,S,?_,q⟩;cases (aK6 hf);show (if (tI ns).length<=cap then some (T.lst (tI ns)) else none)=_;rw[if_pos (by rw[tI_length];exact of_decide_eq_true hl)]
@[simp] theorem setL_nil (ρ:Rho):setL ρ [] []=some ρ:=rfl
@[simp] theorem setL_cons (ρ:Rho) (j:Nat) (js:List Nat) (t:T) (ts:List T):setL ρ (j::js) (t::ts)=setL (ρ.set j (some t)) js ts:=rfl
theorem SD {f:Rho->Option T}{ρ:Rho}{ns:List Int}(h:Nat->Int) (h2:∀ i,i<ns.length->f ((ρ.set 0 (some (.int (i:Int)))).set 1 (some (.int (ns.getD i 0))))=some (.int (h i))):
  cP [0,1] bI f ρ (cQ 0 (tI ns))=some (tI ((List.range ns.length).map h)):=by
 have key:∀ (ms:List Int) (n:Nat),(∀ i,i<ms.length->f ((ρ.set 0 (some (.int ((n+i:Nat):Int)))).set 1 (some (.int (ms.getD i 0))))=some (.int (h (n+i))))->cP [0,1] bI f ρ (cQ n (tI ms))=some (tI ((List.range' n ms.length).map h)):=by
  intro ms
  induction ms with
  | nil=>intro n _;rfl
  | cons m ms ih=>
   intro n hh;have e0:=hh 0 (by simp);have ih':=ih (n+1) (fun i hi=>by
    have:=hh (i+1) (by simpa using hi);rw[show n+1+i=n+(i+1) by lia]
    simpa using this)
   rw[Nat.add_zero] at e0;show (setL ρ [0,1] [.int (n:Int),.int m]).bind _=_;simp only[setL_cons,setL_nil,aN0,bI,if_true];rw[show f ((ρ.set 0 (some (.int (n:Int)))).set 1 (some (.int m)))=some (.int (h n)) from e0];show ((cP [0,1] bI f ρ (cQ (n+1) (tI ms))).map (T.int (h n) :: ·))=_;rw[ih']
   rfl
 have:=key ns 0 (fun i hi=>by rw[aMw];exact h2 i hi)
 rwa [<- List.range_eq_range'] at this
theorem AT {j:Nat}{body:Rho->Option Out}(I:Rho->Prop) (c:T->Option T):∀ ts:List T,(∀ t∈ts,∀ ρ,I ρ->(c t=none/\∃ ρ',body (ρ.set j (some t))=some (.nx ρ')/\I ρ')\/(∃ r,c t=some r/\body (ρ.set j (some t))=some (.rt r)))->∀ ρ,I ρ ->
  (ts.findSome? c=none/\∃ ρ',bL j body ts ρ=some (.nx ρ')/\I ρ')\/(∃ r,ts.findSome? c=some r/\bL j body ts ρ=some (.rt r))
 | [],_,ρ,h=>.inl ⟨rfl,ρ,rfl,h⟩
 | t::ts,hb,ρ,h=>by
  rw[rR];rcases hb t aKa ρ h with ⟨h1,ρ',h2,h3⟩ | ⟨r,h1,h2⟩
  ·rw[h2]
   simp only[aN0,aL9,h1];exact AT I c ts (fun u hu=>hb u (aK9 _ hu)) ρ' h3
  ·rw[h2]
   simp only[aN0,aL9,h1];exact .inr ⟨r,rfl,rfl⟩
theorem FN {js:List Nat}{body:Rho->Option Out}(I:Rho->Prop) (c:T->Option T):∀ ts:List T,(∀ t∈ts,∀ ρ,I ρ->∃ us ρ1,t=.tup us/\setL ρ js us=some ρ1/\((c t=none/\∃ ρ',body ρ1=some (.nx ρ')/\I ρ')\/(∃ r,c t=some r/\body ρ1=some (.rt r))))->∀ ρ,I ρ ->
  (ts.findSome? c=none/\∃ ρ',dQ js body ts ρ=some (.nx ρ')/\I ρ')\/(∃ r,ts.findSome? c=some r/\dQ js body ts ρ=some (.rt r))
 | [],_,ρ,h=>.inl ⟨rfl,ρ,rfl,h⟩
 | t::ts,hb,ρ,h=>by
  obtain⟨us,ρ1,rfl,hs,hc⟩:=hb t aKa ρ h;have e:dQ js body (.tup us::ts) ρ=(body ρ1).bind fun o=>match o with | .nx ρ'=>dQ js body ts ρ' | .ct ρ'=>dQ js body ts ρ' | .bk ρ'=>some (.nx ρ') | .rt t=>some (.rt t):=by
   show (setL ρ js us).bind _=_;rw[hs];rfl
  rw[e];rcases hc with ⟨h1,ρ',h2,h3⟩ | ⟨r,h1,h2⟩
  ·rw[h2]
   simp only[aN0,aL9,h1];exact FN I c ts (fun u hu=>hb u (aK9 _ hu)) ρ' h3
  ·rw[h2]
   simp only[aN0,aL9,h1];exact .inr ⟨r,rfl,rfl⟩
theorem AK (ns:List Int):cQ 0 (tI ns)=(List.range ns.length).map fun p=>.tup [.int (p:Int),.int (ns.getD p 0)]:=by
 apply List.ext_getElem?
 intro i;rw[AJ,MI,aLh,aMw]
 by_cases h:i<ns.length
 ·rw[List.getElem?_range h,aK8 h]
  simp[aK7,h]
 ·rw[aLf (Nat.le_of_not_lt h),aLf (by simpa using h)];rfl
theorem FI {α β:Type}(q:α->Bool) (g:α->β):∀ l:List α,l.findSome? (fun x=>if q x then some (g x) else none)=(l.find? q).map g
 | []=>rfl
 | a::l=>by
  rw[aL9,List.find?_cons];cases q a with
  | true=>rfl
  | false=>exact FI q g l
theorem wI {α β:Type}{f g:α->Option β}:∀ {l:List α},(∀ x∈l,f x=g x)->l.findSome? f=l.findSome? g
 | [],_=>rfl
 | a::l,h=>by
  rw[aL9,aL9,h a aKa,wI fun x hx=>h x (aK9 _ hx)]
def cY:List Int->Int
 | []=>0
 | x::r=>r.foldl (fun a b=>if b<a then b else a) x
theorem EE (c:Int->Int->Bool) (ns:List Int):∀ k,k<ns.length ->
  ns.getD (argBest (fun i j=>c (ns.getD i 0) (ns.getD j 0)) k) 0=((ns.take (k+1)).drop 1).foldl (fun a b=>if c b a then b else a) (ns.getD 0 0)
 | 0,h=>by
  cases ns with
  | nil=>simp at h
  | cons x r=>simp[argBest]
 | k+1,h=>by
  have ih:=EE c ns k (by lia);have e:(ns.take (k+1+1)).drop 1=(ns.take (k+1)).drop 1++[ns.getD (k+1) 0]:=by
   rw[List.take_succ,List.drop_append_of_le_length (by rw[aLt];lia)];simp[aK7,h]
  rw[e,List.foldl_append,<- ih];rw[argBest];cases hb:c (ns.getD (k+1) 0) (ns.getD (argBest (fun i j=>c (ns.getD i 0) (ns.getD j 0)) k) 0) with
  | true=>simp only[aLc,List.foldl_nil,hb,if_true]
  | false=>simp only[aLc,List.foldl_nil,hb,aKq,if_false]
theorem QN {ns:List Int}(h:0<ns.length):ns.getD (argBest (fun i j=>decide (ns.getD i 0<ns.getD j 0)) (ns.length-1)) 0=cY ns:=by
 have:=EE (fun a b=>decide (a<b)) ns (ns.length-1) (by lia);rw[this];cases ns with
 | nil=>simp at h
 | cons x r=>simp[cY]
theorem wK:∀ (r:List Int) (x:Int),r.foldl (fun a b=>if b<a then b else a) x<=x/\(∀ y∈r,r.foldl (fun a b=>if b<a then b else a) x<=y)/\(r.foldl (fun a b=>if b<a then b else a) x=x\/r.foldl (fun a b=>if b<a then b else a) x∈r)
 | [],x=>⟨aL1 _,by simp,.inl rfl⟩
 | z::r,x=>by
  rw[aLc];obtain⟨h1,h2,h3⟩:=wK r (if z<x then z else x);have hw:(if z<x then z else x)=z/\z<x\/(if z<x then z else x)=x/\¬ z<x:=by
   by_cases h:z<x
   ·exact .inl ⟨if_pos h,h⟩
   ·exact .inr ⟨if_neg h,h⟩
  generalize (if z<x then z else x)=w at h1 h2 h3 hw;refine⟨by lia,fun y hy=>?_,?_⟩
  ·rcases aKi.mp hy with rfl | hy
   ·lia
   ·exact h2 y hy
  ·rcases h3 with h3 | h3
   ·rw[h3]
    rcases hw with hw | hw
    ·rw[hw.1];exact .inr aKa
    ·exact .inl hw.1
   ·exact .inr (aK9 _ h3)
theorem IV {ns:List Int}(h:ns≠[]):cY ns∈ns:=by
 cases ns with
 | nil=>exact absurd rfl h
 | cons x r=>
  rcases (wK r x).2.2 with e | e
  ·rw[cY,e];exact aKa
  ·exact aK9 _ e
theorem aA7 {ns:List Int}{y:Int}(h:y∈ns):cY ns<=y:=by
 cases ns with
 | nil=>cases h
 | cons x r=>
  rcases aKi.mp h with rfl | h
  ·exact (wK r _).1
  ·exact (wK r x).2.1 y h
def xP:List T->Option T
 | [.lst ts]=>(cV ts).bind fun ns=>if ns=[] then none else some (.int (cY ns))
 | _=>none
theorem aAr {ns:List Int}(h:ns≠[]):xP [.lst (tI ns)]=some (.int (cY ns)):=by simp[xP,pY,h]
section
variable {X:Cx}{B:Hp}{fl:List Nat}{e:Expr}{es:List Expr}{f:Rho->Option T}{fa:Rho->Option (List T)}{n n':Bool}{l l' k:Nat}{pos p' p2:Pos}{x:Str}{ps:List Str}{F:List T->Option T}
theorem RI (hc:X.calm=true):eN X (.builtin "min") (fun xs H Q=>∃ (a:Addr) (ns:List Int),xs=[.ref a]/\ns≠[]/\SqL X.K H a (ns.map V.int)/\Q (.int (cY ns)) H):=by
 intro pins s σ H xs us Q I r h;obtain⟨a,ns,rfl,hne,hS,q⟩:=h;obtain⟨u,rfl,ru⟩:=pR r;cases ru;obtain⟨its,rv,p,hz⟩:=I.list hS;have hl:=rv.length;have ha:a<s.heap.objs.size:=by obtain⟨o,n,e,_⟩:=p;exact aKx e
 have es:its.toArray.size=ns.length:=by simp only[aKf];rw[<- hl];simp
 have hpos:0<ns.length:=List.length_pos_iff.mpr hne;have val:∀ i v,its.toArray[i]?=some v->∃ t,v=Value.int (ns.getD i 0) t:=fun i v hv=>by
  have hv':its[i]?=some v:=by simpa using hv
  have hi:i<its.length:=(aKb.mp hv').1;have hin:i<ns.length:=by rw[aLo] at hl;lia
  have e1:(ns.map V.int)[i]?=some (V.int (ns.getD i 0)):=by
   rw[aLh,aK8 hin];simp[aK7,hin]
  obtain⟨u,e2,ru⟩:=rv.get e1;rw[hv'] at e2;cases (aK6 e2);exact ru
 refine call_min_walkS (wpAny_pyIter_list p.isList ?_);refine⟨s.heap.objs.size,[s.heap.objs.size,a],[s.heap.objs.size],_,its.toArray.size,_,_,_,rfl,(Walks.list (A:=X.A.in1) (I.ok.hd hc) s.heap.objs.size a (aMo ha) its.toArray).toS,⟨⟨_,aKu _ rfl,rfl,rfl⟩,p.isList.push _⟩,fun b hb=>?_,by lia,CmpOf.ints_lt (fun i=>ns.getD i 0) val,fun v s' hP mv=>?_⟩
 ·simp only[aKi,List.mem_nil_iff,or_false] at hb
  rw[aKy];rcases hb with rfl | rfl
  ·exact aMl _
  ·exact aMk ha
 ·obtain⟨t,rfl⟩:=val _ _ hP
  rw[es,QN hpos];exact⟨.int (cY ns),H,BJ I _ mv,⟨_,rfl⟩,q⟩
theorem VU (hx:x = "min") (hc:X.calm=true) (hg:Gl X x) (hm:X.mg x=none) (ha:GA X B fl (e::es) fa l)
  (he:starEach (e::es) X.env=(false,eval e X.env)::starEach es X.env:=by rfl) (hpl:(backTo pos (starEach es X.env)).any (·.1)=false:=by rfl):GE X B fl (.Call (.Name x p') (e::es) [] pos) (aG fa xP) true 3:=by
 subst hx;refine bD (jS (RI hc) hg hm PyProof.Rows.boot_min ha (by decide) (by decide) he hpl) ?_;rintro σ H Q ⟨Ex,ρ,M,t,S,hf,q⟩;obtain⟨ts,hts,hf⟩:=bind_some hf;refine⟨Ex,ρ,M,ts,S,hts,fun vs H1 s1 r1=>?_⟩
 match ts,hf with
 | [.lst us],hf=>
  obtain⟨ns,ea,hg⟩:=bind_some (show ((cV us).bind fun ns=>if ns=[] then none else some (T.int (cY ns)))=some t from hf);cases pX ea
  by_cases hne:ns=[]
  ·rw[if_pos hne] at hg;cases hg
  ·rw[if_neg hne] at hg
   cases (aK6 hg);obtain⟨y,rfl,ry⟩:=dN r1;obtain⟨p,xs,rfl,h1,h2⟩:=ry.sqL;cases qR h2;exact⟨p,ns,rfl,hne,h1,q _ H1 s1 ((aL.scal rfl).mpr rfl)⟩
variable {a b:Expr}{g:Rho->Option T}
def xZ (f:Rho->Option T):Rho->Option Out:=fun ρ=>(f ρ).map fun _=>.nx ρ
theorem WO (he:GE X B fl e f n' l') (hs:swapsWith e none pos.line X.env=pure false:=by rfl):GS X B fl n l (.Expr e pos) (xZ f):=by
 refine eB (CH he hs) ?_;rintro D σ H ⟨Ex,ρ,M,o,S,hr,q⟩;unfold xZ at hr;cases e1:f ρ with
 | none=>rw[e1] at hr;cases hr
 | some t=>
  rw[e1] at hr;cases (aK6 hr);exact⟨Ex,ρ,M,t,S,e1,fun v H1 s1 rx=>q _ M H1 (S.grow s1)⟩
def eK (p:Rho->Option Bool) (r:Rho->Option Out):Nat->Rho->Option Out
 | 0,_=>none
 | k+1,ρ=>(p ρ).bind fun b=>if b then (r ρ).bind fun o=>match o with | .nx ρ'=>eK p r k ρ' | .ct ρ'=>eK p r k ρ' | .bk ρ'=>some (.nx ρ') | .rt t=>some (.rt t) else some (.nx ρ)
def yD (p:Rho->Option Bool) (r:Rho->Option Out):Rho->Option Out:=eK p r 100000
theorem GV {c:Expr}{body:List Stmt}{p:Rho->Option Bool}{r:Rho->Option Out}(hp:PassesOwn (model X.prog X.w) X.A X.env X.xe) (hc:GT X B fl c p) (hb:GSs X B fl n l body r):GS X B fl n l (.While c body [] pos) (yD p r):=by
 refine eB (aDr hp hc hb) ?_;rintro D σ H ⟨Ex,ρ,M,o,S,hr,q⟩;refine⟨fun m σ1 H1=>∃ ρ1 M1,Sl X.K B fl Ex σ1 ρ1 M1 H1/\eK p r m ρ1=some o,⟨_,ρ,M,S,hr⟩,?_⟩;rintro m σ1 H1 ⟨ρ1,M1,S1,e1⟩;cases m with
 | zero=>cases e1
 | succ m=>
  obtain⟨b,hb,e1⟩:=bind_some (show ((p ρ1).bind fun b=>if b then (r ρ1).bind fun o=>match o with | .nx ρ'=>eK p r m ρ' | .ct ρ'=>eK p r m ρ' | .bk ρ'=>some (.nx ρ') | .rt t=>some (.rt t) else some (.nx ρ1))=some o from e1)
  refine⟨Ex,ρ1,M1,b,S1,hb,fun H2 s2=>?_⟩;cases b with
  | false=>
   cases (aK6 (show some (Out.nx ρ1)=some o from e1));exact jM (q σ1 M1 H2 (S1.grow s2))
  | true=>
   obtain⟨o1,h1,e1⟩:=bind_some (show ((r ρ1).bind fun o=>match o with | .nx ρ'=>eK p r m ρ' | .ct ρ'=>eK p r m ρ' | .bk ρ'=>some (.nx ρ') | .rt t=>some (.rt t))=some o from e1)
   refine jN ⟨fun σ' H'=>∃ ρ1 M1,Sl X.K B fl Ex σ' ρ1 M1 H'/\eK p r m ρ1=some o,fun σ' H' h=>⟨m,aMl m,h⟩,Ex,ρ1,M1,o1,S1.grow s2,h1,?_⟩;cases o1 with
   | nx ρ'=>exact fun σ' M' H' S'=>⟨ρ',M',S',e1⟩
   | ct ρ'=>exact fun σ' M' H' S'=>⟨ρ',M',S',e1⟩
   | bk ρ'=>cases (aK6 e1);exact fun σ' M' H' S'=>q σ' M' H' S'
   | rt t=>cases (aK6 e1);exact q
theorem aHh {p:Rho->Option Bool}{r:Rho->Option Out}(I:Nat->Rho->Prop) (h:∀ m ρ,I m ρ->(p ρ=some false/\m=0)\/(p ρ=some true/\∃ m' ρ',m'<m/\r ρ=some (.nx ρ')/\I m' ρ')):
  ∀ k m ρ,m<k->I m ρ->∃ ρ',eK p r k ρ=some (.nx ρ')/\I 0 ρ':=by
 intro k
 induction k with
 | zero=>intro m ρ hk;lia
 | succ k ih=>
  intro m ρ hk hI;rcases h m ρ hI with ⟨e,rfl⟩ | ⟨e,m',ρ',hm,e2,hI'⟩
  ·exact⟨ρ,by simp[eK,e],hI⟩
  ·obtain⟨ρ'',e3,q⟩:=ih m' ρ' (by lia) hI'
   exact⟨ρ'',by simp[eK,e,e2,e3],q⟩
end
@[simp] theorem rDrop_at (f:Rho->Option T) (ρ:Rho):xZ f ρ=(f ρ).map fun _=>.nx ρ:=id rfl
@[simp] theorem rWhile_at (p:Rho->Option Bool) (r:Rho->Option Out) (ρ:Rho):yD p r ρ=eK p r 100000 ρ:=id rfl
theorem EN (g k:Nat):(g / 2^k%2 == 1)=g.testBit k:=by
 rw[Nat.testBit_eq_decide_div_mod_eq];rw[aKp];simp
theorem IP {g n k:Nat}(h:g<2^n) (hk:n<=k):g.testBit k=false:=Nat.testBit_lt_two_pow (aKe h (aMq (by decide) hk))
theorem gY {a b:Nat}(h:∀ i,a.testBit i=b.testBit i):a=b:=Nat.eq_of_testBit_eq h
theorem QM (a b p:Nat):(a&&&b)&&&p=(a&&&p)&&&(b&&&p):=gY fun i=>by
 simp only[aMt];cases a.testBit i<;>cases b.testBit i<;>cases p.testBit i<;>rfl
theorem or3 (a b p:Nat):(a|||b)&&&p=(a&&&p)|||(b&&&p):=gY fun i=>by
 simp only[aMt,aMu];cases a.testBit i<;>cases b.testBit i<;>cases p.testBit i<;>rfl
def gvS (row:List Int):List Nat->Nat->Int
 | [],_=>0
 | k::ks,g=>(if g.testBit k then row.getD k 0 else 0)+gvS row ks g
def gv (row:List Int) (g:Nat):Int:=gvS row (List.range row.length) g
theorem GZ (row:List Int) (g:Nat):∀ ks:List Nat,((ks.filter fun k=>g / 2^k%2 == 1).map fun k=>row.getD k 0).sum=gvS row ks g
 | []=>rfl
 | k::ks=>by
  have ih:=GZ row g ks;rw[List.filter_cons,gvS,<- ih,EN];cases g.testBit k<;>simp
theorem HA (row:List Int) (a b:Nat):∀ ks:List Nat,gvS row ks (a|||b)+gvS row ks (a&&&b)=gvS row ks a+gvS row ks b
 | []=>rfl
 | k::ks=>by
  have ih:=HA row a b ks;simp only[gvS,aMu,aMt];generalize row.getD k 0=x;cases a.testBit k<;>cases b.testBit k<;>simp<;>lia
theorem BC (row:List Int) (a b:Nat):gv row (a|||b)+gv row (a&&&b)=gv row a+gv row b:=HA row a b _
theorem HC (row:List Int):∀ ks:List Nat,gvS row ks 0=0
 | []=>rfl
 | k::ks=>by
  rw[gvS,HC row ks,aMy];rfl
theorem mQ (row:List Int):gv row 0=0:=HC row _
theorem EW {n a:Nat}(h:a<2^n) (k:Nat):(2^n-1-a).testBit k=(decide (k<n) && !a.testBit k):=by
 have e:2^n-1-a=2^n-(a+1):=by lia
 rw[e,Nat.testBit_two_pow_sub_succ h]
theorem AU (n k:Nat):(2^n-1).testBit k=decide (k<n):=Nat.testBit_two_pow_sub_one n k
theorem XB {row:List Int}{a:Nat}(h:a<2^row.length):gv row (2^row.length-1-a)+gv row a=gv row (2^row.length-1):=by
 have e1:a|||(2^row.length-1-a)=2^row.length-1:=gY fun k=>by
  rw[aMu,EW h,AU]
  by_cases hk:k<row.length
  ·simp[hk]
  ·rw[IP h (by lia)];simp[hk]
 have e2:a&&&(2^row.length-1-a)=0:=gY fun k=>by
  rw[aMt,EW h,aMy];cases a.testBit k<;>simp
 have:=BC row a (2^row.length-1-a);rw[e1,e2,mQ] at this;lia
def Sub (n:Nat) (t:List Int):Prop:=∀ a b,a<2^n->b<2^n->t.getD (a|||b) 0+t.getD (a&&&b) 0<=t.getD a 0+t.getD b 0
def aM (g:Nat):Nat:=g%2+g / 2%2+g / 4%2+g / 8%2+g / 16%2+g / 32%2
theorem RL:((List.range 64).all fun a=>(List.range 64).all fun b=>(aM (a|||b)+aM (a&&&b) == aM a+aM b)&&decide (aM (a&&&b)<=aM a)&&decide (aM (a&&&b)<=aM b))=true:=by decide +kernel
theorem RM {a b:Nat}(ha:a<64) (hb:b<64):aM (a|||b)+aM (a&&&b)=aM a+aM b/\aM (a&&&b)<=aM a/\aM (a&&&b)<=aM b:=by
 have h:=aKc.mp (aKc.mp RL a (aKd.mpr ha)) b (aKd.mpr hb);simp only[aKn,decide_eq_true_eq,beq_iff_eq] at h;exact⟨h.1.1,h.1.2,h.2⟩
def mn (a:Nat) (m:Int):Int:=if m<(a:Int) then m else (a:Int)
theorem aA8 {a b p:Nat}{m:Int}(ha:a<64) (hb:b<64):mn (aM ((a|||b)&&&p)) m+mn (aM ((a&&&b)&&&p)) m<=mn (aM (a&&&p)) m+mn (aM (b&&&p)) m:=by
 rw[or3,QM];have h1:a&&&p<64:=aMj Nat.and_le_left ha;have h2:b&&&p<64:=aMj Nat.and_le_left hb;obtain⟨q1,q2,q3⟩:=RM h1 h2;unfold mn;generalize aM ((a&&&p)|||(b&&&p))=u at *;generalize aM ((a&&&p)&&&(b&&&p))=v at *;generalize aM (a&&&p)=s at *;generalize aM (b&&&p)=w at *
 split<;>split<;>split<;>split<;>lia
def sq (k:Nat):Nat:=aM k*aM k
theorem aFp:((List.range 64).all fun a=>(List.range 64).all fun b=>((a|||b == a)&&(a&&&b == b))||((a|||b == b)&&(a&&&b == a))||decide (sq a+sq b+2<=sq (a|||b)+sq (a&&&b)))=true:=by decide +kernel
theorem aAj {n:Nat}(h6:n<=6) {wide:Int}(hw:0<wide) {t:List Int}(h:∀ k,k<2^n->∃ e:Int,0<=e/\e<wide/\t.getD k 0=e-wide*((sq k:Nat):Int)):Sub n t:=by
 have h64:2^n<=64:=aMh (aMq (by decide) h6) (by decide:2^6<=64);intro a b ha hb;have c:=aKc.mp (aKc.mp aFp a (aKd.mpr (by lia))) b (aKd.mpr (by lia));simp only[aKt,aKn,beq_iff_eq,decide_eq_true_eq] at c;rcases c with (⟨e1,e2⟩ | ⟨e1,e2⟩) | c
 ·rw[e1,e2];lia
 ·rw[e1,e2];lia
 ·obtain⟨x1,p1,q1,r1⟩:=h _ (aMp ha hb)
  obtain⟨x2,p2,q2,r2⟩:=h _ (aMj (Nat.and_le_left (n:=a) (m:=b)) ha);obtain⟨x3,p3,q3,r3⟩:=h _ ha;obtain⟨x4,p4,q4,r4⟩:=h _ hb;rw[r1,r2,r3,r4];have m:=Int.mul_le_mul_of_nonneg_left (show ((sq a:Nat):Int)+(sq b:Nat)+2<=(sq (a|||b):Nat)+(sq (a&&&b):Nat) by lia) (Int.le_of_lt hw);rw[Int.mul_add,Int.mul_add,Int.mul_add] at m;lia
theorem xR {x:T}(h:dep x<=60):oNe x x=some (.bl false):=by unfold oNe;rw[if_pos (by lia),FE];rfl
theorem EG {ns:List Int}(h:0<ns.length):atI (tI ns) (-1)=some (.int (ns.getD (ns.length-1) 0)):=by
 unfold atI ixN;rw[if_neg (by lia),if_pos (by rw[tI_length];lia),aN0,MI,tI_length];have e:(-1+(ns.length:Int)).toNat=ns.length-1:=by lia
 rw[e,aK7,aK8 (by lia)];rfl
@[simp] theorem oLen_tup (ts:List T):cH [.tup ts]=some (.int ts.length):=rfl
@[simp] theorem oList_tup (ts:List T):mV [.tup ts]=some (.lst ts):=rfl
def tP {α:Type} (tp:α->List T) (xs:List α):List T:=xs.map fun x=>.tup (tp x)
theorem aGd {α:Type}(tp:α->List T) (xs:List α):(tP tp xs).length=xs.length:=by simp[tP]
theorem wF {α:Type}{js:List Nat}{p:Rho->Option Bool}{f:Rho->Option T}{ρ:Rho}(tp:α->List T) (c:α->Bool) (h:α->T):∀ xs:List α,(∀ x∈xs,∃ ρ1,setL ρ js (tp x)=some ρ1/\p ρ1=some (c x)/\(c x=true->f ρ1=some (h x)))->cP js p f ρ (tP tp xs)=some ((xs.filter c).map h)
 | [],_=>rfl
 | x::xs,hx=>by
  have ih:=wF tp c h xs fun y hy=>hx y (aK9 _ hy);obtain⟨ρ1,e1,e2,e3⟩:=hx x aKa;show (setL ρ js (tp x)).bind _=_;rw[e1,aN0,e2,aN0,List.filter_cons];cases hc:c x with
  | true=>
   rw[if_pos rfl,if_pos rfl,e3 hc,aN0];show ((cP js p f ρ (tP tp xs)).map _)=_;rw[ih];rfl
  | false=>
   rw[if_neg (by decide),if_neg (by decide)];exact ih
theorem FJ {α:Type}(tp:α->List T) (h:∀ x,imL (tp x)=true) (xs:List α):bR (tP tp xs)=true:=by
 unfold bR tP;rw[aKc];intro t ht;obtain⟨x,_,rfl⟩:=aM5.mp ht;unfold im;exact h x
theorem aA0 {m g:Nat}{f:Nat->Int}(h:g<m):((List.range m).map f).getD g 0=f g:=by
 simp[aK7,h]
where ite_le2 (c:Bool) {x:Int} (h:0<=x):(if c then x else 0)<=x:=by cases c<;>simp<;>lia
theorem BB (row:List Int) (g k:Nat):∀ ks:List Nat,gvS row (ks++[k]) g=gvS row ks g+if g.testBit k then row.getD k 0 else 0
 | []=>by simp[gvS]
 | j::ks=>by rw[List.cons_append,gvS,BB row g k ks,gvS];lia
theorem US (ns:List Int):cQ 0 (tI ns)=tP (fun p:Nat=>[T.int (p:Int),T.int (ns.getD p 0)]) (List.range ns.length):=AK ns
theorem AB (g i:Nat):((((g / 2^i%2:Nat):Int)) == 1)=g.testBit i:=by
 rw[<- EN];generalize g / 2^i=m;rw[aKp];simp;lia
theorem HB {row:List Int}{h:Nat}{x:Int}(hh:h<row.length) (g:Nat):∀ ks:List Nat,ks.Nodup->gvS (row.set h x) ks g=gvS row ks g+(if h∈ks then (if g.testBit h then x-row.getD h 0 else 0) else 0)
 | [],_=>by simp[gvS]
 | k::ks,hn=>by
  have ih:=HB (x:=x) hh g ks (aM9.mp hn).2;have hk:=(aM9.mp hn).1;rw[gvS,gvS,ih]
  by_cases e:k=h
  ·subst e
   rw[if_neg hk,if_pos aKa,aK7,aLi hh];simp only[Option.getD_some];cases g.testBit k<;>simp<;>lia
  ·have e':¬ h=k:=fun z=>e z.symm
   rw[aK7,aKg (fun z=>e z.symm),<- List.getD_eq_getElem?_getD];simp only[aKi,e',false_or];lia
theorem BD {row:List Int}{h:Nat}{x:Int}(hh:h<row.length) (g:Nat):gv (row.set h x) g=gv row g+if g.testBit h then x-row.getD h 0 else 0:=by
 unfold gv;rw[aLs,HB hh g _ List.nodup_range,if_pos (aKd.mpr hh)]
def dY (t:List Int):List Nat->Nat->List Int->List Int
 | [],_,s=>s
 | h::r,a,s=>dY t r (a|||2^h) (s.set h (t.getD (a|||2^h) 0-t.getD a 0))
theorem MO (t:List Int):∀ (o:List Nat) (a:Nat) (s:List Int),(dY t o a s).length=s.length
 | [],_,_=>rfl
 | h::r,a,s=>by rw[dY,MO t r,aLs]
structure Tk (n:Nat) (t:List Int) (a:Nat) (s:List Int):Prop where
 len:s.length=n
 lt:a<2^n
 out:∀ h,a.testBit h=false->s.getD h 0=0
 full:gv s a=t.getD a 0
theorem HE {s:List Int}{a:Nat}(h0:∀ h,a.testBit h=false->s.getD h 0=0) (g:Nat):gv s g=gv s (g&&&a):=by
 unfold gv;have:∀ ks:List Nat,gvS s ks g=gvS s ks (g&&&a):=by
  intro ks
  induction ks with
  | nil=>rfl
  | cons k ks ih=>
   rw[gvS,gvS,ih,aMt];cases hb:a.testBit k with
   | true=>simp
   | false=>rw[h0 k hb];simp
 exact this _
theorem Tk.step {n:Nat}{t:List Int}{a:Nat}{s:List Int}(T:Tk n t a s) {h:Nat}(hh:h<n) (hb:a.testBit h=false):Tk n t (a|||2^h) (s.set h (t.getD (a|||2^h) 0-t.getD a 0)):=by
 refine⟨by rw[aLs,T.len],aMp T.lt (aMr (by decide) hh),fun k hk=>?_,?_⟩
 ·rw[aMu,aMv] at hk
  simp at hk;rw[aK7,aKg hk.2,<- List.getD_eq_getElem?_getD];exact T.out k hk.1
 ·rw[BD (by rw[T.len];exact hh),T.out h hb]
  have e:(a|||2^h).testBit h=true:=by rw[aMu,Nat.testBit_two_pow_self];simp
  rw[e,HE T.out,if_pos rfl];have e2:(a|||2^h)&&&a=a:=gY fun i=>by
   rw[aMt,aMu];cases a.testBit i<;>simp
  rw[e2,T.full];lia
theorem Tk.start {n:Nat}{t:List Int}(h0:t.getD 0 0=0):Tk n t 0 (List.replicate n 0):=by
 refine⟨List.length_replicate ..,aMs (by decide),fun h _=>?_,by rw[mQ,h0]⟩;rw[aK7,List.getElem?_replicate]
 split<;>rfl
def Und (t:List Int) (a:Nat) (s:List Int):Prop:=∀ g,g&&&a=g->gv s g<=t.getD g 0
theorem Und.step {n:Nat}{t:List Int}(hs:Sub n t) {a:Nat}{s:List Int}(T:Tk n t a s) (U:Und t a s) {h:Nat}(hh:h<n) (hb:a.testBit h=false):Und t (a|||2^h) (s.set h (t.getD (a|||2^h) 0-t.getD a 0)):=by
 intro g hg;have hlt:g<2^n:=by
  rw[<- hg];exact aMj Nat.and_le_right (aMp T.lt (aMr (by decide) hh))
 rw[BD (by rw[T.len];exact hh),T.out h hb,HE T.out];have u:=U (g&&&a) (by rw[Nat.and_assoc,Nat.and_self]);have bits:∀ i,g.testBit i=true->a.testBit i=true\/i=h:=fun i hi=>by
  have:=congrArg (fun x=>x.testBit i) hg;simp only[aMt,aMu,aMv,hi,Bool.true_and,aKt,decide_eq_true_eq] at this;rcases this with h1 | h1
  ·exact .inl h1
  ·exact .inr h1.symm
 cases hgh:g.testBit h with
 | false=>
  have e:g&&&a=g:=gY fun i=>by
   rw[aMt];cases hi:g.testBit i with
   | false=>rfl
   | true=>
    rcases bits i hi with h1 | h1
    ·rw[h1];rfl
    ·rw[h1,hgh] at hi;cases hi
  rw[e] at u ⊢;rw[if_neg (by decide)];lia
 | true=>
  have e1:g|||a=a|||2^h:=gY fun i=>by
   rw[aMu,aMu,aMv]
   by_cases hi:h=i
   ·subst hi;rw[hgh];simp
   ·cases ha:a.testBit i with
    | true=>simp
    | false=>
     cases hgi:g.testBit i with
     | false=>simp[hi]
     | true=>
      rcases bits i hgi with h1 | h1
      ·rw[ha] at h1;cases h1
      ·exact absurd h1.symm hi
  have sb:=hs g a hlt T.lt;rw[e1] at sb;rw[if_pos rfl];lia
theorem MM {n:Nat}{t:List Int}:∀ (o:List Nat) (a:Nat) (s:List Int),Tk n t a s->o.Nodup->(∀ h∈o,h<n/\a.testBit h=false)->∃ a',Tk n t a' (dY t o a s)/\(∀ k,a'.testBit k=(a.testBit k||o.contains k))/\(Sub n t->Und t a s->Und t a' (dY t o a s))
 | [],a,s,T,_,_=>⟨a,T,fun k=>by simp,fun _ u=>u⟩
 | h::r,a,s,T,hn,hb=>by
  obtain⟨h1,h2⟩:=hb h aKa;obtain⟨hr,hn'⟩:=aM9.mp hn;obtain⟨a',T',b',u'⟩:=MM r (a|||2^h) _ (T.step h1 h2) hn' (fun k hk=>⟨(hb k (aK9 _ hk)).1,by
   rw[aMu,aMv,(hb k (aK9 _ hk)).2];simp;intro e;subst e;exact hr hk⟩)
  refine⟨a',T',fun k=>?_,fun S U=>u' S (U.step S T h1 h2)⟩;rw[b' k,aMu,aMv,List.contains_cons];cases a.testBit k with
  | true=>simp
  | false=>
   by_cases e:h=k
   ·subst e;simp
   ·have e':¬ k=h:=fun z=>e z.symm
    simp[e,e']
theorem aH8 {n:Nat}(t:List Int) (h0:t.getD 0 0=0):Und t 0 (List.replicate n 0):=fun g hg=>by
 rw[Nat.and_zero] at hg;rw[<- hg,mQ,h0];exact aL1 _
theorem MR {n:Nat}{t:List Int}(h0:t.getD 0 0=0) {o:List Nat}(hp:o.Perm (List.range n)):gv (dY t o 0 (List.replicate n 0)) (2^n-1)=t.getD (2^n-1) 0/\(Sub n t->∀ g,g<2^n->gv (dY t o 0 (List.replicate n 0)) g<=t.getD g 0):=by
 obtain⟨a',T',b',u'⟩:=MM o 0 _ (Tk.start (n:=n) h0) (hp.nodup_iff.mpr List.nodup_range) (fun h hh=>⟨aKd.mp (hp.mem_iff.mp hh),aMy h⟩);have e:a'=2^n-1:=gY fun k=>by
  rw[b' k,AU,aMy,Bool.false_or,aKp,aL4,hp.mem_iff,aKd,decide_eq_true_eq]
 refine⟨by rw[<- e];exact T'.full,fun S g hg=>?_⟩;refine u' S (aH8 t h0) g ?_;rw[e];refine gY fun k=>?_;rw[aMt,AU]
 by_cases hk:k<n
 ·simp[hk]
 ·rw[IP hg (by lia)];rfl
structure Ft (n:Nat) (f:List Int):Prop where
 len:f.length=2^n
 zero:f.getD 0 0=0
 sub:Sub n f
section
variable {n:Nat}{f g:List Int}
end
def upT (n:Nat):List Int:=(List.range n).map fun (i:Nat)=>(i:Int)
@[simp] theorem upT_length (n:Nat):(upT n).length=n:=by simp[upT]
theorem aH9 {n i:Nat}(h:i<n):(upT n)[i]?=some (i:Int):=by simp[upT,h]
theorem aHc:∀ (n:Nat) (its:List Value),its.length=n->(∀ (j:Nat) v,its[j]?=some v->∃ t,v=Value.int ((0:Int)+(j:Nat)*1) t)->aK ((upT n).map V.int) its:=by
 have key:∀ (ks:List Int) (its:List Value),its.length=ks.length->(∀ (j:Nat) v k,its[j]?=some v->ks[j]?=some k->∃ t,v=Value.int k t)->aK (ks.map V.int) its:=by
  intro ks
  induction ks with
  | nil=>intro its hl _;cases its with
   | nil=>exact .nil
   | cons _ _=>simp at hl
  | cons k ks ih=>intro its hl h;cases its with
   | nil=>simp at hl
   | cons v its=>
    refine .cons (h 0 v k rfl rfl) (ih its (by simpa using hl) fun j v' k' e1 e2=>h (j+1) v' k' (by simpa using e1) (by simpa using e2))
 intro n its hl h;refine key _ its (by rw[hl,upT_length]) fun j v k e1 e2=>?_;obtain⟨t,rfl⟩:=h j v e1;have hj:j<n:=by
  have:j<(upT n).length:=(aKb.mp e2).1
  simpa using this
 rw[aH9 hj] at e2;cases e2;exact⟨t,by simp⟩
section
variable {X:Cx}{B:Hp}{fl:List Nat}{a:Expr}{fa:Rho->Option (List T)}{l:Nat}{pos:Pos}
theorem CO {K:PySem.W.Frag}{H:Hp}{A:Addr->Prop}:∀ (ns:List Int),RepL K H A (tI ns) (ns.map V.int)
 | []=>rfl
 | n::ns=>⟨.int n,ns.map V.int,rfl,rfl,CO ns⟩
end
section
variable {X:Cx}{B:Hp}{fl:List Nat}{a b:Expr}{f g:Rho->Option T}{n n':Bool}{l l':Nat}{pos:Pos}
def aAp:T->T->Option T
 | .bl a,.bl b=>some (.bl (a == b))
 | _,_=>none
def sM:T->T->Option T
 | .bl a,.bl b=>some (.bl (!(a == b)))
 | _,_=>none
theorem aCe:OpR X (compareOp .IsNot) (fun x y H Q=>∃ a b,x=.bl a/\y=.bl b/\Q (.bl (!(a == b))) H):=by
 intro pins s σ H x y v u Q I rx ry h;obtain⟨a,b,rfl,rfl,q⟩:=h;cases rx;cases ry;exact wpAny_pure (AQ I q (by cases a<;>cases b<;>rfl))
theorem WJ {K:PySem.W.Frag}:GOp K (fun x y H Q=>∃ a b,x=.bl a/\y=.bl b/\Q (.bl (!(a == b))) H) sM:=by
 intro x y t h;cases x<;>first | (cases h;done) | skip
 cases y<;>first | (cases h;done) | skip
 cases (aK6 h);exact⟨rfl,fun H A A' vx vy rx ry Q q=>⟨_,_,rx,ry,q⟩⟩
theorem XA (ha:GE X B fl a f n l) (hb:GE X B fl b g n' l'):GT X B fl (.Compare a [.IsNot] [b] pos) (fB (f2 f g sM)):=mK aCe WJ ha hb (gO _)
@[simp] theorem oIsNotB_bl (a b:Bool):sM (.bl a) (.bl b)=some (.bl (!(a == b))):=rfl
@[simp] theorem oIsB_bl (a b:Bool):aAp (.bl a) (.bl b)=some (.bl (a == b)):=rfl
end
def sG:T->Bool
 | .lst _=>true
 | _=>false
def aE9 (i:Nat) (r:Rho->Option Out):Rho->Option Out:=fun ρ=>(aA i ρ).bind fun t=>if sG t then (r ρ).bind fun o=>match o with | .rt t=>some (.rt t) | _=>none else none
@[simp] theorem rFrz_at (i:Nat) (r:Rho->Option Out) (ρ:Rho):aE9 i r ρ=(aA i ρ).bind fun t=>if sG t then (r ρ).bind fun o=>match o with | .rt t=>some (.rt t) | _=>none else none:=id rfl
@[simp] theorem isLs_lst (ts:List T):sG (.lst ts)=true:=id rfl
section
variable {X:Cx}{B:Hp}{fl:List Nat}{e:Expr}{es:List Expr}{fa:Rho->Option (List T)}{l:Nat}{pos p':Pos}{x:Str}
end
section
variable {P:Program}{w:World}{K:PySem.W.Frag}{mg:Str->Option Value}{base:Heap}
end
def QJ (fa:Rho->Option (List T)):Rho->Option (List T):=fun ρ=>(fa ρ).map fun ts=>ts++[.non]
@[simp] theorem aDef_at (fa:Rho->Option (List T)) (ρ:Rho):QJ fa ρ=(fa ρ).map fun ts=>ts++[.non]:=id rfl
section
variable {X:Cx}{B:Hp}{fl:List Nat}{e:Expr}{es:List Expr}{fa:Rho->Option (List T)}{n:Bool}{l l' k:Nat}{pos p':Pos}{x:Str}{ps:List Str}{F:List T->Option T}
end
def mR (x:Int):List Int->List Int
 | []=>[x]
 | y::ys=>if y<=x then x::y::ys else y::mR x ys
def fD:List Int->List Int
 | []=>[]
 | x::xs=>mR x (fD xs)
theorem BG (x:Int):∀ ys:List Int,(mR x ys).Perm (x::ys)
 | []=>.refl _
 | y::ys=>by
  unfold mR
  split
  ·exact .refl _
  ·exact (List.Perm.cons y (BG x ys)).trans (List.Perm.swap x y ys)
theorem rF:∀ xs:List Int,(fD xs).Perm xs
 | []=>.refl _
 | x::xs=>(BG x _).trans (List.Perm.cons x (rF xs))
theorem HI (x:Int):∀ ys:List Int,ys.Pairwise (· >= ·)->(mR x ys).Pairwise (· >= ·)
 | [],_=>by simp[mR]
 | y::ys,h=>by
  obtain⟨h1,h2⟩:=aMc.mp h;unfold mR
  split
  ·rename_i hx
   refine aMc.mpr ⟨fun z hz=>?_,h⟩;rcases aKi.mp hz with rfl | hz
   ·exact hx
   ·exact Int.le_trans (h1 z hz) hx
  ·rename_i hx
   refine aMc.mpr ⟨fun z hz=>?_,HI x ys h2⟩;rcases aKi.mp ((BG x ys).mem_iff.mp hz) with rfl | hz
   ·show z<=y
    lia
   ·exact h1 z hz
theorem DC:∀ xs:List Int,(fD xs).Pairwise (· >= ·)
 | []=>.nil
 | x::xs=>HI x _ (DC xs)
theorem EX:∀ (a b:List Int),a.Perm b->a.Pairwise (· >= ·)->b.Pairwise (· >= ·)->a=b
 | [],b,hp,_,_=>(List.Perm.nil_eq hp)
 | x::a,[],hp,_,_=>absurd hp.length_eq (by simp)
 | x::a,y::b,hp,ha,hb=>by
  obtain⟨p1,p2⟩:=aMc.mp ha;obtain⟨q1,q2⟩:=aMc.mp hb;have e:x=y:=by
   rcases aKi.mp (hp.mem_iff.mp aKa) with e | e
   ·exact e
   ·rcases aKi.mp (hp.mem_iff.mpr aKa) with e' | e'
    ·exact e'.symm
    ·have h1:y >= x:=q1 x e
     have h2:x >= y:=p1 y e';lia
  subst e;rw[EX a b (List.Perm.cons_inv hp) p2 q2]
theorem BI:∀ {ns:List Int}{its:List Value},aK (ns.map V.int) its->IntsAre its ns
 | [],_,h=>by cases h;exact .nil
 | n::ns,_,h=>by
  cases h with
  | cons r rr=>
   obtain⟨t,rfl⟩:=r;exact .cons n t (BI rr)
theorem vU {ns:List Int}{its:List Value}(h:IntsAre its ns):aK (ns.map V.int) its:=by
 induction h with
 | nil=>exact .nil
 | cons n t _ ih=>exact .cons ⟨t,rfl⟩ ih
section
variable {X:Cx}{B:Hp}{fl:List Nat}{e kv:Expr}{f g:Rho->Option T}{n n':Bool}{l l':Nat}{pos p kpos:Pos}
end
section
variable {X:Cx}{B:Hp}{fl:List Nat}{e:Expr}{es:List Expr}{f:Rho->Option T}{fa:Rho->Option (List T)}{n n':Bool}{l l':Nat}{pos p' p2:Pos}{x:Str}
end
end G
namespace G
section
variable {n:Nat}{t w:List Int}
end
end G
namespace G
section
variable {n:Nat}{t w:List Int}
end
end G
namespace G
open PySem PySem.Spec PyProof.Rows L2
section
variable {X:Cx}{B:Hp}{fl:List Nat}{k:Expr}{fk:Rho->Option T}{n nk:Bool}{l lk:Nat}{pos pos' pos2:Pos}{x y:Str}
end
abbrev FA (K:PySem.W.Frag) (x:Str) (f:Addr):Prop:=PySem.W.nsIn K mainGlobals x=some (some (.ref f))
abbrev FL (K:PySem.W.Frag) (f:Addr) (x:Str) (st:Stmt) (df oc:Value) (od:Option Addr) (kV dc pm:Value) (an:Option Addr) (cd ct:Value) (sl:Array (Option Value)):Prop:=K.lookup f=some ⟨oc,od,.func (PySem.W.fnOf x x (defArgs st) (defBody st) (defScope st) df kV dc pm an cd ct),sl⟩
abbrev FC (K:PySem.W.Frag) (cd:Value) (x:Str):Prop:=PySem.W.codeIn K cd x=true
abbrev FK (K:PySem.W.Frag) (f:Addr):Prop:=PySem.W.keepIn K (.ref f)=true
theorem zz0 {α:Type _}{a:α}{l:List α}:(a::l)[0]?=some a:=List.getElem?_cons_zero
theorem zz1 {α:Type _}{a:α}{i:Nat}{l:List α}:(a::l)[i+1]?=l[i]?:=List.getElem?_cons_succ
theorem zz2 {α β:Type _}(a:α) (f:α->Option β):(some a).bind f=f a:=aN0 a f
theorem zz3 {α β:Type _}(a:α) (f:α->β):(some a).map f=some (f a):=Option.map_some ..
end G
namespace G
section
variable {n:Nat}{t w:List Int}
end
end G
namespace G
open PySem PySem.Spec PyProof.Rows L2
def aE8 (i:Nat) (f:Rho->Option T):Rho->Option Out:=fun ρ=>(aA i ρ).bind fun t=>(f ρ).bind fun u=>match t,u with
 | .lst ts,.lst us=>if ts.length+us.length<=cap then some (.nx (ρ.set i (some (.lst (ts++us))))) else none
 | _,_=>none
@[simp] theorem rExt_at (i:Nat) (f:Rho->Option T) (ρ:Rho):aE8 i f ρ=(aA i ρ).bind fun t=>(f ρ).bind fun u=>match t,u with
 | .lst ts,.lst us=>if ts.length+us.length<=cap then some (.nx (ρ.set i (some (.lst (ts++us))))) else none
 | _,_=>none:=id rfl
section
variable {X:Cx}{B:Hp}{fl:List Nat}{n:Bool}{l l':Nat}{e:Expr}{f:Rho->Option T}{x y:Str}{pos pos':Pos}
def aEb (i j:Nat):Rho->Option Out:=fun ρ=>(aA j ρ).bind fun t=>match t with
 | .lst ts=>some (.nx ((ρ.set i (some (.lst ts))).set j none))
 | _=>none
@[simp] theorem rMove_at (i j:Nat) (ρ:Rho):aEb i j ρ=(aA j ρ).bind fun t=>match t with
 | .lst ts=>some (.nx ((ρ.set i (some (.lst ts))).set j none))
 | _=>none:=id rfl
end
def JB:List T->Bool
 | []=>true
 | .lst _::ts=>imL ts
 | t::ts=>im t&&JB ts
def okF:T->Bool
 | .lst us=>imL us
 | t=>im t
def JA:T->Bool
 | .tup ts=>JB ts||ts.all okF
 | _=>false
def aEc (i:Nat) (f:Rho->Option T):Rho->Option Out:=fun ρ=>(f ρ).bind fun t=>if JA t then some (.nx (ρ.set i (some t))) else none
@[simp] theorem rOwn_at (i:Nat) (f:Rho->Option T) (ρ:Rho):aEc i f ρ=(f ρ).bind fun t=>if JA t then some (.nx (ρ.set i (some t))) else none:=id rfl
section
variable {X:Cx}{B:Hp}{fl:List Nat}{n n':Bool}{l l' k:Nat}{e:Expr}{es:List Expr}{f:Rho->Option T}{fa:Rho->Option (List T)}{x y:Str}{ps:List Str}{F:List T->Option T}{pos pos' p' cpos:Pos}
def UX (i:Nat):Rho->Option T:=fun ρ=>(aA i ρ).bind fun t=>match t with | .tup ts=>if ts.all okF then some (.tup ts) else none | _=>none
@[simp] theorem fMutT_at (i:Nat) (ρ:Rho):UX i ρ=(aA i ρ).bind fun t=>match t with | .tup ts=>if ts.all okF then some (.tup ts) else none | _=>none:=id rfl
def aE5 (i c:Nat) (f:Rho->Option T):Rho->Option Out:=fun ρ=>(aA i ρ).bind fun t=>(f ρ).bind fun x=>match t with
 | .tup ts=>(ts[c]?).bind fun u=>match u with
  | .lst us=>if us.length<cap then some (.nx (ρ.set i (some (.tup (ts.set c (.lst (us++[x]))))))) else none
  | _=>none
 | _=>none
@[simp] theorem rAppO_at (i c:Nat) (f:Rho->Option T) (ρ:Rho):aE5 i c f ρ=(aA i ρ).bind fun t=>(f ρ).bind fun x=>match t with
 | .tup ts=>(ts[c]?).bind fun u=>match u with
  | .lst us=>if us.length<cap then some (.nx (ρ.set i (some (.tup (ts.set c (.lst (us++[x]))))))) else none
  | _=>none
 | _=>none:=id rfl
def aEe (i c:Nat) (fi f:Rho->Option T):Rho->Option Out:=fun ρ=>(f ρ).bind fun x=>(aA i ρ).bind fun t=>(fi ρ).bind fun k=>match t with
 | .tup ts=>(ts[c]?).bind fun u=>match u with
  | .lst us=>match k with | .int j=>(ixN us.length j).map fun j'=>.nx (ρ.set i (some (.tup (ts.set c (.lst (us.set j' x)))))) | _=>none
  | _=>none
 | _=>none
@[simp] theorem rPutO_at (i c:Nat) (fi f:Rho->Option T) (ρ:Rho):aEe i c fi f ρ=(f ρ).bind fun x=>(aA i ρ).bind fun t=>(fi ρ).bind fun k=>match t with
 | .tup ts=>(ts[c]?).bind fun u=>match u with
  | .lst us=>match k with | .int j=>(ixN us.length j).map fun j'=>.nx (ρ.set i (some (.tup (ts.set c (.lst (us.set j' x)))))) | _=>none
  | _=>none
 | _=>none:=id rfl
end
def aCr:Out->Option T
 | .rt t=>some t
 | _=>none
@[simp] theorem outO_rt (t:T):aCr (.rt t)=some t:=id rfl
end G
set_option maxRecDepth 100000
namespace HD
open PySem PySem.W PySem.Calls PyProof.Rows
noncomputable def tF (thr ok:Thread->Bool) (stp:SharedT->Thread->Option (SharedT × Thread)) (n:Nat):SharedT->Thread->Option SharedT:=
 @Nat.rec (fun _=>SharedT->Thread->Option SharedT) (fun _ _=>none)
  (fun _ ih s t=>@Bool.rec (fun _=>Option SharedT) (@Bool.rec (fun _=>Option SharedT) none
   (@Option.rec (SharedT × Thread) (fun _=>Option SharedT) none (fun r=>ih r.1 r.2) (stp s t)) (ok t)) (some s) (thr t)) n
theorem LF {tb:String->Option Builtin}{p:Program}{w:World}{n₀:Nat}{ann:Option Value}:∀ {n:Nat}{s s':SharedT}{t:Thread},
  tF through (stepOk n₀ ann) (stepT (denote tb) p w) n s t=some s'->topRun tb p w n₀ ann n s.abs t=some s'.abs
 | 0,_,_,_,h=>by cases h
 | n+1,s,s',t,h=>by
  have e:tF through (stepOk n₀ ann) (stepT (denote tb) p w) (n+1) s t=@Bool.rec (fun _=>Option SharedT) (@Bool.rec (fun _=>Option SharedT) none
   (@Option.rec (SharedT × Thread) (fun _=>Option SharedT) none (fun r=>tF through (stepOk n₀ ann) (stepT (denote tb) p w) n r.1 r.2) (stepT (denote tb) p w s t)) (stepOk n₀ ann t)) (some s) (through t):=rfl
  rw[e] at h;unfold topRun;cases h1:through t with
  | true=>rw[h1] at h;cases h;rfl
  | false=>
   rw[h1] at h;cases h2:stepOk n₀ ann t with
   | false=>rw[h2] at h;cases h
   | true=>
    rw[h2] at h;cases h3:stepT (denote tb) p w s t with
    | none=>rw[h3] at h;cases h
    | some r=>
     obtain⟨s₂,t₂⟩:=r;rw[h3] at h;rw[stepT_spec h3];exact LF h
theorem ZM {p q:Program}{loose:List Str}{Xt:Shared->Bool}{α:Type}{Yf:Shared->α}{Ya:World->α}{N:Nat}{g0:Bool}{B:Params->BT}{b:Nat}{life:Life}{m₀:Nat}{ann:Option Value}{M:Nat}
  (open_:∀ w:World,(fencedOpening treeTable p w N).map (fun s=>(s.heap,s.gens,s.drawn,s.toks))=some (boot_heap w.params,Array.mk [],boot_drawn,boot_toks))
  (hb:∀ P:Params,absHeap (B P) b life=boot_heap P)
  (size:∀ w:World,((boot_heap w.params).isNs mainGlobals&&(Array.mk []:Array GenState).size == 0,(boot_heap w.params).objs.size,(boot_heap w.params).nsMap mainGlobals "__annotations__")=(true,m₀,ann))
  (le:Nat.ble M N=true)
  (ev:∀ (w:World) (os:OsState),(tF through (stepOk m₀ ann) (stepT (denote treeTable) p w) M ⟨B w.params,b,life,Array.mk [],boot_drawn,boot_toks,os⟩ (topStub p)).map (fun s=>
    ((staticsOk (importedModules p.main.body) (boot_heap w.params) s.abs.heap&&namesBound p s.abs.heap&&gensDone s.abs&&laidKept (boot_heap w.params) s.abs.heap),
    openSeen q loose (importedModules p.main.body) Xt g0 s.abs,Yf s.abs))=some (true,openGood q loose,Ya w)):LeftO p q loose Xt Yf Ya N g0:=fun w=>by
 obtain⟨⟨h,gs,d,k,os⟩,e,e'⟩:=Option.map_eq_some_iff.mp (open_ w);obtain⟨rfl,rfl,rfl,rfl⟩:h=boot_heap w.params/\gs=Array.mk []/\d=boot_drawn/\k=boot_toks:=by simpa using e'
 obtain⟨z1,z2,z3⟩:_/\_/\_:=by simpa only [Prod.mk.injEq] using size w
 obtain⟨s₁,r0,r1⟩:=Option.map_eq_some_iff.mp (ev w os);obtain⟨l1,l2,l3⟩:_/\_/\_:=by simpa only [Prod.mk.injEq] using r1
 have r:=topRun_mono (N-M) _ _ _ _ (LF r0);rw[show M+(N-M)=N by have:=Nat.le_of_ble_eq_true le;lia] at r;have r:topRun treeTable p w m₀ ann N ⟨absHeap (B w.params) b life,Array.mk [],boot_drawn,boot_toks,os⟩ (topStub p)=some s₁.abs:=r;rw[hb] at r;have t:topFrom treeTable p w N ⟨boot_heap w.params,Array.mk [],boot_drawn,boot_toks,os⟩=some s₁.abs:=by
  unfold topFrom;dsimp only;rw[z1,z2,z3,r];show (match staticsOk (importedModules p.main.body) (boot_heap w.params) s₁.abs.heap&&namesBound p s₁.abs.heap&&gensDone s₁.abs&&laidKept (boot_heap w.params) s₁.abs.heap with | true=>_ | false=>_)=_
  rw[l1]
 unfold openEnds;rw[e];show (topFrom treeTable p w N _).map _=_;rw[t];exact congrArg some (Prod.ext l2 l3)
noncomputable def bT (P:Params):BT:=(BT.node (boot_o_0 P) (BT.node (boot_o_1 P) (BT.node (boot_o_3 P) (BT.node (boot_o_7 P) BT.nil BT.nil) BT.nil) (BT.node (boot_o_5 P) (BT.node (boot_o_9 P) BT.nil BT.nil) BT.nil)) (BT.node (boot_o_2 P) (BT.node (boot_o_4 P) (BT.node (boot_o_8 P) BT.nil BT.nil) BT.nil) (BT.node (boot_o_6 P) (BT.node (boot_o_10 P) BT.nil BT.nil) BT.nil)))
theorem QU:∀ P:Params,absHeap (bT P) 11 {}=boot_heap P:=fun P=>by kernel_rfl
theorem QV:∀ w:World,((boot_heap w.params).isNs mainGlobals&&(Array.mk []:Array GenState).size == 0,(boot_heap w.params).objs.size,(boot_heap w.params).nsMap mainGlobals "__annotations__")=(true,11,some (.ref 6)):=fun w=>by kernel_rfl
theorem left_of {p q:Program}{loose:List Str}{Xt:Shared->Bool}{α:Type}{Yf:Shared->α}{Ya:World->α}{N:Nat}
  (open_:∀ w:World,(fencedOpening treeTable p w N).map (fun s=>(s.heap,s.gens,s.drawn,s.toks))=some (boot_heap w.params,Array.mk [],boot_drawn,boot_toks))
  (ev:∀ (w:World) (os:OsState),(tF through (PySem.W.Fast.tw6613529449190102663 11 (some (.ref 6))) (PySem.W.Fast.tw10156331382660048174 (PySem.W.Fast.tw11892475500146522536 PySem.W.Fast.tw14364793385576792824) p w) N ⟨bT w.params,11,{},Array.mk [],boot_drawn,boot_toks,os⟩ (topStub p)).map (fun s=>
    ((staticsOk (importedModules p.main.body) (boot_heap w.params) s.abs.heap&&namesBound p s.abs.heap&&gensDone s.abs&&laidKept (boot_heap w.params) s.abs.heap),
    PySem.W.Fast.tw4187177175401517315 q loose (importedModules p.main.body) Xt true s.abs,Yf s.abs))=some (true,openGood q loose,Ya w)):LeftO p q loose Xt Yf Ya N:=
 ZM open_ QU QV (Nat.ble_eq_true_of_le (aMg N)) (by
  rw[PySem.W.Fast.te6613529449190102663,PySem.W.Fast.te10156331382660048174,PySem.W.Fast.te11892475500146522536,PySem.W.Fast.te14364793385576792824,PySem.W.Fast.te4187177175401517315];exact ev)
theorem said_of {l:OpenLaw}(h:PySem.W.Fast.tw9446332074065402090 l=true):l.wellSaid=true:=by rw[PySem.W.Fast.te9446332074065402090];exact h
noncomputable def kE (P:Params) (x:Str) (t:Nat) (v:Value):DictEntry:=⟨PyData.keyHash P x,.str x t,v⟩
noncomputable def kC (a:Str) (t:Nat) (l m x:Int) (r:Addr) (b:Bool) (u:Int) (r2:Addr) (v1 v2 v3 v4:Value) (z:Nat):Obj:=
 ⟨.type "code",none,.fields #[.str a t,.str a (t+1),.str "/claim/cut.py" (t+2),.int l 0,.int m 0,.int 0 0,.int 0 0,.int x 0,.ref r,.bool b,.int u 0,.ref r2,v1,v2,v3,v4,.int (z:Int) 0,.int l 0,.str "/claim/cut.py" (z+1)],#[]⟩
end HD
namespace G
open PySem PySem.Spec PyProof.Rows L2
def MZ (js:List Nat) (ρ:Rho):Bool:=js.all fun j=>(ρ[j]?.join).isNone
def aEj (js:List Nat) (i:Nat) (f:Rho->Option T):Rho->Option Out:=fun ρ=>(f ρ).bind fun t=>if MZ js ρ then some (.nx (ρ.set i (some t))) else none
@[simp] theorem rSet0_at (js:List Nat) (i:Nat) (f:Rho->Option T) (ρ:Rho):aEj js i f ρ=(f ρ).bind fun t=>if MZ js ρ then some (.nx (ρ.set i (some t))) else none:=id rfl
section
variable {X:Cx}{B:Hp}{fl:List Nat}{n n':Bool}{l l':Nat}{e:Expr}{f:Rho->Option T}{x:Str}{pos pos':Pos}
end
section
variable {prog:Program}{w:World}{A:Around}{E:Value->Shared->Prop}{s:Shared}
end
section
variable {prog:Program}{w:World}{A:Around}{E:Value->Shared->Prop}{s:Shared}
end
section
variable {X:Cx}{elts:List Expr}{k:Nat}{p2:Pos}
end
def DJ:List T->List T->List T->List T
 | x::xs,y::ys,z::zs=>.tup [x,y,z]::DJ xs ys zs
 | _,_,_=>[]
def UY (fi gi hi:Rho->Option (List T)):Rho->Option (List T):=fun ρ=>(fi ρ).bind fun xs=>(gi ρ).bind fun ys=>(hi ρ).map fun zs=>DJ xs ys zs
@[simp] theorem fZip3_at (fi gi hi:Rho->Option (List T)) (ρ:Rho):UY fi gi hi ρ=(fi ρ).bind fun xs=>(gi ρ).bind fun ys=>(hi ρ).map fun zs=>DJ xs ys zs:=rfl
section
variable {X:Cx}{B:Hp}{fl:List Nat}{e e' e'':Expr}{f g h:Rho->Option T}{n n' n'':Bool}{l l' l'':Nat}{pos p' p2:Pos}{x:Str}{elts:List Expr}{k:Nat}
end
end G
namespace G
open PySem
def dB (xs:Array Nat):Prop:=xs.toList.Pairwise (· < ·)
theorem dB.lt {xs:Array Nat}(h:dB xs) {i j x y:Nat}(hij:i<j) (hx:xs[i]?=some x) (hy:xs[j]?=some y):x<y:=by
 obtain⟨h1,rfl⟩:=Array.getElem?_eq_some_iff.mp hx;obtain⟨h2,rfl⟩:=Array.getElem?_eq_some_iff.mp hy;have:=List.pairwise_iff_getElem.mp h i j (by simpa using h1) (by simpa using h2) hij
 simpa using this
theorem zY {xs:Array Nat}(hr:dB xs) (j:Nat):∀ (fuel lo hi:Nat),hi<=xs.size->hi<=lo+fuel->(∀ i x,i<lo->xs[i]?=some x->x<j)->(∀ i x,hi<=i->xs[i]?=some x->j<=x)->lo<=hi ->
  (∀ i x,i<SetTable.below.go xs j fuel lo hi->xs[i]?=some x->x<j)/\(∀ i x,SetTable.below.go xs j fuel lo hi<=i->xs[i]?=some x->j<=x)/\SetTable.below.go xs j fuel lo hi<=xs.size
 | 0,lo,hi,h1,h2,h3,h4,h5=>by
  have:hi=lo:=by lia
  subst this;exact⟨h3,h4,h1⟩
 | fuel+1,lo,hi,h1,h2,h3,h4,h5=>by
  unfold SetTable.below.go
  by_cases hlt:lo<hi
  ·rw[if_pos hlt]
   have hm:(lo+hi) / 2<xs.size:=by lia
   have hg:xs[(lo+hi) / 2]?=some xs[(lo+hi) / 2]:=aKj hm;have hd:xs.getD ((lo+hi) / 2) j=xs[(lo+hi) / 2]:=by simp[Array.getD,hm]
   dsimp only;rw[hd]
   by_cases hc:xs[(lo+hi) / 2]<j
   ·rw[if_pos hc]
    refine zY hr j fuel _ _ h1 (by lia) (fun i x hi' hx=>?_) h4 (by lia)
    by_cases he:i=(lo+hi) / 2
    ·subst he;rw[hg] at hx;cases (aK6 hx);exact hc
    ·exact aMm (hr.lt (show i<(lo+hi) / 2 by lia) hx hg) hc
   ·rw[if_neg hc]
    refine zY hr j fuel _ _ (by lia) (by lia) h3 (fun i x hi' hx=>?_) (by lia)
    by_cases he:i=(lo+hi) / 2
    ·subst he;rw[hg] at hx;cases (aK6 hx);lia
    ·have:=hr.lt (show (lo+hi) / 2<i by lia) hg hx;lia
  ·rw[if_neg hlt]
   have:hi=lo:=by lia
   subst this;exact⟨h3,h4,h1⟩
theorem EI {xs:Array Nat}(hr:dB xs) (j:Nat):(∀ i x,i<SetTable.below xs j->xs[i]?=some x->x<j)/\(∀ i x,SetTable.below xs j<=i->xs[i]?=some x->j<=x)/\SetTable.below xs j<=xs.size:=by
 unfold SetTable.below;exact zY hr j xs.size 0 xs.size (aMg _) (by lia) (fun i x h=>by lia) (fun i x h e=>by
  have:=(Array.getElem?_eq_some_iff.mp e).1;lia) (aMx _)
theorem XU {α:Type}(xs:Array α) (p:Nat) (x:α) (hp:p<=xs.size):(SetTable.insertAt xs p x).toList=xs.toList.take p++x::xs.toList.drop p:=by
 unfold SetTable.insertAt;simp[Array.toList_extract,List.extract_eq_drop_take];exact List.take_of_length_le (by simp)
theorem aEv {xs:Array Nat}(hr:dB xs) {j:Nat}(hj:xs[SetTable.below xs j]?≠some j):dB (SetTable.insertAt xs (SetTable.below xs j) j):=by
 obtain⟨h1,h2,h3⟩:=EI hr j;generalize SetTable.below xs j=p at h1 h2 h3 hj;unfold dB;rw[XU _ _ _ h3,List.pairwise_append];have hp:(xs.toList.take p++xs.toList.drop p).Pairwise (· < ·):=by rw[List.take_append_drop];exact hr
 rw[List.pairwise_append] at hp;have up:∀ y∈xs.toList.drop p,j<y:=fun y hy=>by
  obtain⟨i,hi,e⟩:=aM4.mp hy;have hg:xs[p+i]?=some y:=by
   rw[List.getElem_drop] at e;rw[<- Array.getElem?_toList,aK8 (by simp at hi;simp;lia),e]
  have h4:=h2 _ _ (Nat.le_add_right p i) hg
  by_cases he:y=j
  ·subst he
   cases i with
   | zero=>exact absurd hg hj
   | succ i=>
    have hlt:p<xs.size:=by have:=(Array.getElem?_eq_some_iff.mp hg).1;lia
    have h5:=h2 p _ (aMg _) (aKj hlt);have h6:=hr.lt (show p<p+(i+1) by lia) (aKj hlt) hg;lia
  ·lia
 have dn:∀ y∈xs.toList.take p,y<j:=fun y hy=>by
  obtain⟨i,hi,e⟩:=aM4.mp hy;rw[List.getElem_take] at e;have hi':i<p/\i<xs.size:=by simp at hi;lia
  exact h1 i y hi'.1 (by rw[<- Array.getElem?_toList,aK8 (by simp;lia),e])
 refine⟨hp.1,aMc.mpr ⟨up,hp.2.1⟩,fun a ha b hb=>?_⟩;rcases aKi.mp hb with rfl | hb
 ·exact dn a ha
 ·exact aMm (dn a ha) (up b hb)
theorem aFm {t:SetTable}{j:Nat}(h:∀ i,t.slot j≠.live i):t.place[SetTable.below t.place j]?≠some j:=fun e=>by
 refine h (SetTable.below t.place j) ?_;unfold SetTable.slot;rw[if_pos (by rw[e];simp)]
theorem CG (t:SetTable) (ha:Nat->Int) (h:Int):∀ (fuel:Nat) (p:SetTable.Probe),(∀ d,p.dummy=some d->∀ i,t.slot d≠.live i)->∀ j d,SetTable.probe.go t ha h fuel p=some (.empty j d)->(∀ i,t.slot j≠.live i)/\∀ d',d=some d'->∀ i,t.slot d'≠.live i
 | 0,p,hp,j,d,e=>by cases e
 | fuel+1,p,hp,j,d,e=>by
  unfold SetTable.probe.go at e;cases hs:t.slot p.j with
  | empty=>
   rw[hs] at e;have e:=aK6 e;cases e;exact⟨fun i=>by rw[hs];simp,hp⟩
  | dummy=>
   rw[hs] at e;refine CG t ha h fuel _ (fun d' hd=>?_) j d e;have:some p.j=some d':=by
    rw[<- hd];unfold SetTable.advance;dsimp only
    split<;>rfl
   cases this;intro i;rw[hs];simp
  | live i=>
   rw[hs] at e;dsimp only at e;split at e
   ·cases e
   ·refine CG t ha h fuel _ (fun d' hd=>hp d' ?_) j d e
    rw[<- hd];unfold SetTable.advance;dsimp only
    split<;>rfl
theorem VE {t:SetTable}{h:Int}{j:Nat}{b:Bool}(e:t.freeSlot h=some (j,b)):∀ i,t.slot j≠.live i:=by
 unfold SetTable.freeSlot at e;split at e
 ·rename_i j' d hp
  obtain⟨h1,h2⟩:=CG t _ h _ _ (fun d hd=>by cases hd) j' d hp;cases d with
  | none=>cases (aK6 e);exact h1
  | some d=>cases (aK6 e);exact h2 d rfl
 ·cases e
theorem aEw (n:Nat):dB (Array.range n):=by
 unfold dB;rw[Array.toList_range];exact List.pairwise_lt_range
def Tab (b:Bool) (t:SetTable):Prop:=t.led=b/\dB t.place
theorem zH {b:Bool}{t:SetTable}(h:Tab b t) (n:Nat):Tab b (t.standIn n):=⟨h.1,aEw n⟩
theorem aGp {b:Bool}{t:SetTable}(h:Tab b t) (es:Array (Int × Value)) (k:Int) (x:Value):Tab b (layNew t es k x).2.1:=by
 unfold layNew;cases hf:t.freeSlot k with
 | none=>exact zH h _
 | some p=>
  obtain⟨j,d⟩:=p;have hp:Tab b (t.put j).1:=⟨h.1,aEv h.2 (aFm (VE hf))⟩;show Tab b ((t.put j).1.orStandIn _);unfold SetTable.orStandIn
  split
  ·exact hp
  ·exact zH hp _
theorem aGr {b:Bool}{t:SetTable}(h:Tab b t) (es:Array (Int × Value)) (n:Nat):Tab b (relayAll t es n).2.1:=by
 unfold relayAll
 split
 ·rename_i t' order e
  dsimp only
  split
  ·unfold SetTable.relaid SetTable.laid at e
   cases hc:SetTable.layClean (SetTable.sizeAbove n-1) (es.map (·.1)) with
   | none=>rw[hc] at e;cases e
   | some owner=>
    rw[hc] at e;have e:=aK6 e;cases e;refine⟨h.1,?_⟩;unfold dB;show ((List.range (SetTable.sizeAbove n-1+1)).filterMap fun j=>(owner.getD j none).map (j,·)).map (·.1) |>.Pairwise (· < ·);rw[List.pairwise_map];refine List.Pairwise.filterMap (f:=fun j=>(owner.getD j none).map (j,·)) (S:=fun a b=>a.1<b.1) (fun a a' hlt p hp q hq=>?_) List.pairwise_lt_range;obtain⟨u,_,rfl⟩:=Option.map_eq_some_iff.mp hp;obtain⟨v,_,rfl⟩:=Option.map_eq_some_iff.mp hq;exact hlt
  ·exact zH h _
 ·exact zH h _
theorem aGq {b:Bool}{t:SetTable}(h:Tab b t) (p:Bool):Tab b { t with plain:=p }:=h
theorem aGo (b:Bool):Tab b (SetTable.fresh 0 0 b):=⟨rfl,List.Pairwise.nil⟩
def iv:Value->Int
 | .int i _=>i
 | _=>0
def IS (prog:Program) (w:World) (h:Heap) (a:Addr) (b:Bool) (ks:List Int):Prop:=
 ∃ o es ep t,h.get? a=some o/\o.ExactSet/\o.data=.set es ep t/\ElemsOf (intKind prog w) es.toList/\(es.toList.map fun e=>iv e.2).Perm ks/\es.size<scanBound/\t.fits es.size=true/\Tab b t
section
variable {prog:Program}{w:World}{A:Around}{E:Value->Shared->Prop}{s:Shared}{a:Addr}{b:Bool}{ks:List Int}
theorem IS.at {h h':Heap}(k:∀ o,h.get? a=some o->h'.get? a=some o) (S:IS prog w h a b ks):IS prog w h' a b ks:=by
 obtain⟨o,es,ep,t,e,r⟩:=S;exact⟨o,es,ep,t,k o e,r⟩
theorem HV {es:List (Int × Value)}(hel:ElemsOf (intKind prog w) es) (k:Int):(∃ e∈es,(intKind prog w).is k e.2=true) ↔ k∈es.map fun e=>iv e.2:=by
 have f:∀ e∈es,((intKind prog w).is k e.2=true ↔ iv e.2=k):=fun e he=>by
  obtain⟨⟨m,hm,_⟩,_⟩:=hel e he;rw[KeyKind.is_eq_decide hm k,decide_eq_true_eq];obtain⟨tk,q⟩:=Value.isInt_shape hm;rw[q];exact⟨fun z=>z.symm,fun z=>z.symm⟩
 rw[aM5];exact⟨fun ⟨e,he,q⟩=>⟨e,he,(f e he).mp q⟩,fun ⟨e,he,q⟩=>⟨e,he,(f e he).mpr q⟩⟩
theorem HW {o:Obj}{es es':Array (Int × Value)}{ep:Nat}{t t':SetTable}{h:Heap}(ho:h.get? a=some o) (hex:o.ExactSet) (hd:o.data=.set es ep t) (hel:ElemsOf (intKind prog w) es'.toList)
  (hp:(es'.toList.map fun e=>iv e.2).Perm ks) (hb:es'.size<scanBound) (hf:t'.fits es'.size=true) (ht:Tab b t'):
  (h.update a (Obj.putSet es' t')).get? a=some { o with data:=.set es' (ep+1) t' }/\IS prog w (h.update a (Obj.putSet es' t')) a b ks:=by
 have hg:(h.update a (Obj.putSet es' t')).get? a=some { o with data:=.set es' (ep+1) t' }:=by
  have q:=Heap.get?_update_self (Obj.putSet es' t') ho (by rw[putSet_of es' t' hd];rfl)
  rwa [putSet_of es' t' hd] at q
 exact⟨hg,_,es',ep+1,t',hg,hex,rfl,hel,hp,hb,hf,ht⟩
theorem HX {g:Bool->Sem Unit}(hg:∀ (c:Bool) (s1:Shared) (Q':Unit->Shared->Prop),Q' () s1->wpAny (model prog w) A (g c) Q' E s1)
  {o:Obj} {es es1:Array (Int × Value)} {ep:Nat} {t t2:SetTable} (ho:s.heap.get? a=some o) (hex:o.ExactSet) (hd:o.data=.set es ep t) (hel:ElemsOf (intKind prog w) es1.toList)
  (hp:(es1.toList.map fun e=>iv e.2).Perm ks) (hb:es1.size<scanBound) (hf:t2.fits es1.size=true) (ht:Tab b t2) {wd:Bool} {R:Option Bool->Shared->Prop}
  (h:∀ h',Heap.SameBut a s.heap h'->IS prog w h' a b ks->R (some true) { s with heap:=h' }):
  wpAny (model prog w) A (do
    storeSet a es1 t2
    if (!wd&&t2.tooFull)=true then do
      g (relayAll t2 es1 (SetTable.grown es1.size)).2.2
      storeSet a (relayAll t2 es1 (SetTable.grown es1.size)).1 (relayAll t2 es1 (SetTable.grown es1.size)).2.1
      pure (some true)
     else pure (some true)) R E s:=by
 refine wpAny_bind (wpAny_storeSet_of ho hd ?_ (fits_of_scanBound hb));obtain⟨ho1,S1⟩:=HW (prog:=prog) (w:=w) ho hex hd hel hp hb hf ht;have sb:=Heap.SameBut.update s.heap a (Obj.putSet es1 t2)
 split
 ·have p2:=relayAll_perm t2 es1 (SetTable.grown es1.size)
  have f2:=relayAll_fits t2 es1 (SetTable.grown es1.size);have t2':=aGr ht es1 (SetTable.grown es1.size);generalize relayAll t2 es1 (SetTable.grown es1.size)=Rl at p2 f2 t2' ⊢;obtain⟨es2,t3,gv⟩:=Rl;dsimp only at p2 f2 t2' ⊢;have sz:es2.size=es1.size:=by rw[<- Array.length_toList,p2.length_eq,aKm]
  have b2:es2.size<scanBound:=by rw[sz];exact hb
  refine wpAny_bind (hg _ _ _ (wpAny_bind (wpAny_storeSet_of ho1 rfl ?_ (fits_of_scanBound b2))));obtain⟨_,S2⟩:=HW (prog:=prog) (w:=w) ho1 hex rfl (hel.perm p2) ((p2.map _).trans hp) b2 f2 t2';exact wpAny_pure (h _ (sb.trans (Heap.SameBut.update _ a _)) S2)
 ·exact wpAny_pure (h _ sb S1)
theorem YJ {k:Int}{tk:Tok}{Q:Bool->Shared->Prop}(S:IS prog w s.heap a b ks) (hroom:ks.length+1<scanBound)
  (h:∀ r h',Heap.SameBut a s.heap h'->IS prog w h' a b (if k∈ks then ks else k::ks)->Q r { s with heap:=h' }):
  wpAny (model prog w) A (setAddHashed a (.int k tk) ((intKind prog w).hash k)) Q E s:=by
 obtain⟨o,es,ep,t,ho,hex,hd,hel,hp,hb,hf,ht⟩:=S;have hn:es.size=ks.length:=by rw[<- hp.length_eq,aLo,aKm]
 have hkey:(intKind prog w).is k (.int k tk)=true:=intKind_is _ _ _ _;have hsc:(Value.int k tk).scannable=true:=rfl;unfold setAddHashed setAddHashedIn;refine wpAny_holding (wpAny_bind (wpAny_setState_of ho hd hf ?_));dsimp only;rw[byScan_of hsc hb hel,if_pos rfl];unfold setAddByScan;refine wpAny_bind (wpAny_bind (wpAny_rule (wpAny_bind (wpAny_setScan_of hkey ho hd hf hel ?_))));cases hr:List.findIdx? (fun e=>(intKind prog w).is k e.2) es.toList with
 | some j=>
  dsimp only;obtain⟨hj,hpj,_⟩:=List.findIdx?_eq_some_iff_getElem.mp hr;have hk:k∈ks:=hp.mem_iff.mp ((HV hel k).mp ⟨_,List.getElem_mem hj,hpj⟩);refine wpAny_pure (wpAny_pure ?_);have q:=h false s.heap (Heap.SameBut.refl a s.heap);rw[if_pos hk] at q;exact q ⟨o,es,ep,t,ho,hex,hd,hel,hp,hb,hf,ht⟩
 | none=>
  dsimp only;have hk:k ∉ ks:=fun z=>by
   obtain⟨e,he,q⟩:=(HV hel k).mpr (hp.mem_iff.mpr z);have:=List.findIdx?_eq_none_iff.mp hr e he;rw[q] at this;exact Bool.noConfusion this
  have hgw:∀ (c:Bool) {s1:Shared} {Q':Unit->Shared->Prop},Q' () s1->wpAny (model prog w) A (match c with | true=>rule "set.scan.the-table-gave-way" | false=>pure ()) Q' E s1:=
   fun c s1 Q' hq=>by cases c<;>first | exact wpAny_pure hq | exact wpAny_rule hq
  have p1:=layNew_perm t es ((intKind prog w).hash k) (.int k tk);have f1:=layNew_fits t es ((intKind prog w).hash k) (.int k tk);have t1':=aGp ht es ((intKind prog w).hash k) (.int k tk);generalize layNew t es ((intKind prog w).hash k) (.int k tk)=Ln at p1 f1 t1' ⊢;obtain⟨es1,t1,wd,gv⟩:=Ln;dsimp only at p1 f1 t1' ⊢;rw[Array.toList_push] at p1;have el1:ElemsOf (intKind prog w) es1.toList:=(hel.push hkey hsc).perm p1;have pp:(es1.toList.map fun e=>iv e.2).Perm (k::ks):=by
   refine (p1.map _).trans ?_;rw[List.map_append];exact (List.perm_append_singleton _ _).trans (List.Perm.cons k hp)
  have b1:es1.size<scanBound:=by rw[<- Array.length_toList,p1.length_eq,aLl,aKm,hn];simpa using hroom
  have hend:∀ h',Heap.SameBut a s.heap h'->IS prog w h' a b (k::ks)->Q true { s with heap:=h' }:=fun h' sb S'=>by
   have q:=h true h' sb;rw[if_neg hk] at q;exact q S'
  refine wpAny_bind (hgw _ ?_)
  split
  ·refine wpAny_bind ?_
   rw[hashByValue_scannable 8 hsc];refine wpAny_pure ?_;refine HX (b:=b) ?_ ho hex hd el1 pp b1 ?_ ?_ ?_
   ·intro c s1 Q' hq;cases c<;>first | exact wpAny_pure hq | exact wpAny_rule hq
   ·split
    ·exact f1
    ·exact SetTable.fits_plain_off f1
   ·split
    ·exact t1'
    ·exact aGq t1' false
   ·intro h' sb S';dsimp only;exact wpAny_pure (hend h' sb S')
  ·refine wpAny_bind (wpAny_pure ?_)
   simp only[↓reduceIte];refine HX ?_ ho hex hd el1 pp b1 f1 t1' ?_
   ·intro c s1 Q' hq;cases c<;>first | exact wpAny_pure hq | exact wpAny_rule hq
   ·intro h' sb S';dsimp only;exact wpAny_pure (hend h' sb S')
end
def met (ns:List Int):List Int:=ns.foldl (fun ks k=>if k∈ks then ks else k::ks) []
theorem aA5 (ns:List Int) (k:Int):met (ns++[k])=if k∈met ns then met ns else k::met ns:=by
 unfold met;rw[List.foldl_append]
 rfl
theorem BP:∀ (ns ks:List Int),(ns.foldl (fun ks k=>if k∈ks then ks else k::ks) ks).length<=ks.length+ns.length
 | [],ks=>aMg _
 | k::ns,ks=>by
  have h1:=BP ns ks;have h2:=BP ns (k::ks);rw[aLc]
  split<;>simp only[aLm] at * <;> lia
theorem BO (ns:List Int):(met ns).length<=ns.length:=by have h:=BP ns [];unfold met;simpa using h
theorem aA6 {ns:List Int}{i:Nat}(h:i<ns.length):met (ns.take (i+1))=if ns.getD i 0∈met (ns.take i) then met (ns.take i) else ns.getD i 0::met (ns.take i):=by
 rw[List.take_succ,aK8 h,aK7,aK8 h];exact aA5 _ _
def bG (w:World):Bool:=w.params.followText "set-order"
section
variable {prog:Program}{w:World}{A:Around}{R:Result->Shared->Prop}{I:Addr}{fp wr:List Addr}{GG:Array GenState->Array GenState->Prop}{n:Nat}{P:Nat->Value->Prop}{St:Nat->Shared->Prop}{b:Bool}
theorem YL (W:WalksS prog w A.in1 I fp wr GG n P St) (S:Addr) (hSf:S ∉ fp) (ns:List Int) (hns:ns.length=n) (hval:∀ i v,P i v->∃ t,v=.int (ns.getD i 0) t) (hb:n+1<scanBound):
  ∀ (k i:Nat) (s:Shared),n-i=k->i<=n->St i s->IS prog w s.heap S b (met (ns.take i)) ->
   (∀ s',Moved (S::wr) GG s s'->IS prog w s'.heap S b (met (ns.take n))->R (.ok (.ret .none)) s') ->
   codeAny (model prog w) A (.builtin "set.update.loop" ⟨[.ref S,.ref I],[]⟩) R s:=by
 have hSw:S ∉ wr:=fun h=>hSf (W.sub _ h);have hsub:∀ c∈wr,c∈S::wr:=fun c hc=>aK9 _ hc;intro k
 induction k with
 | zero=>
  intro i s hk hi hst hS hR;have hin:i=n:=by lia
  subst hin;refine codeAny_builtin PyProof.Rows.F.entry_set_update_loop ?_;rw[Around.under_plainId PyProof.Rows.F.plain_set_update_loop _];show wpAny _ A.in1 (pyNext (.ref I) >>= _) _ _ s;refine wpAny_bind (W.done s _ _ hst fun s' hm=>?_);show wpAny _ A.in1 (ret Value.none) _ _ s';exact wpAny_pure (hR s' (hm.mono hsub) (hS.at fun o e=>hm.heap S _ hSw e))
 | succ k ih=>
  intro i s hk hi hst hS hR;have hlt:i<n:=by lia
  refine codeAny_builtin PyProof.Rows.F.entry_set_update_loop ?_;rw[Around.under_plainId PyProof.Rows.F.plain_set_update_loop _];show wpAny _ A.in1 (pyNext (.ref I) >>= _) _ _ s;refine wpAny_bind (W.item i s _ _ hlt hst fun v s' hP hst' hm=>?_);obtain⟨t,rfl⟩:=hval i v hP;have S1:IS prog w s'.heap S b (met (ns.take i)):=hS.at fun o e=>hm.heap S _ hSw e;show wpAny _ A.in1 (holding [Value.int (ns.getD i 0) t] (setAdd S (.int (ns.getD i 0) t)) >>= _) _ _ s';refine wpAny_bind (wpAny_holding ?_);unfold setAdd;refine wpAny_holding (wpAny_bind ((intKind prog w).pyHash (k:=ns.getD i 0) (intKind_is _ _ _ _) ?_));have room:(met (ns.take i)).length+1<scanBound:=by have h1:=BO (ns.take i);have h2:=List.length_take_le i ns;lia
  refine YJ (s:={ s' with toks:=s'.toks+1 }) S1 room fun r h' sb S2=>?_;rw[<- aA6 (by lia)] at S2;refine wpAny_pure ⟨plainId_quiet PyProof.Rows.F.plain_set_update_loop _,ih (i+1) _ (by lia) hlt (W.frame _ s' _ _ hst' (Nat.le_succ _) fun c hc o e=>?_) S2 fun s'' hm'' S3=>?_⟩
  ·rw[sb.2 c (fun h:c=S=>hSf (by rw[<- h];exact hc))];exact e
  ·refine hR s'' (Moved.trans W.gtrans ((hm.mono hsub).then_heap (Nat.le_succ _) fun c o hc e=>?_) hm'') S3
   rw[sb.2 c (fun h:c=S=>hc (by rw[h];exact aKa))];exact e
end
section
variable {prog:Program}{w:World}{A:Around}{E:Value->Shared->Prop}{s:Shared}
abbrev fU (w:World):Obj:={ cls:=.type "set",dict:=none,data:=.set #[] 0 (.fresh 0 0 (!bG w)) }
theorem YM (x:Value) {Q:Value->Shared->Prop}(h:Q (.ref s.heap.objs.size) { s with heap:=s.heap.push (fU w) }):
  codeAny (model prog w) A (.call (.builtin "set.__new__") ⟨[.type "set",x],[]⟩) (wants Q E) s:=by
 refine codeAny_of_tree ?_;show wpAny _ A.in1 (do checkBuiltinCall "set.__new__" ⟨[.type "set",x],[]⟩;again (.builtin "set.__new__" ⟨[.type "set",x],[]⟩)) _ _ s;refine wpAny_bind (wpAny_of_eq (F.newCall_set_1 x) (wpAny_pure ⟨plainId_quiet F.plain_set_new _,codeAny_builtin F.entry_set_new ?_⟩));rw[Around.under_plainId F.plain_set_new _];unfold Builtin.«set.__new__» Builtin.Frozenset.newClass;have hs1:=sub_set_self;obtain⟨hp,g,d,tk,os⟩:=s;dsimp only
 wp_walk
 refine wpAny_askSetting (wpAny_pure ?_);dsimp only;simp only[newObj];exact wpAny_bind (wpAny_alloc (wpAny_pure (wpAny_pure h)))
set_option maxRecDepth 100000 in
theorem YK {l:Addr}{items:Array Value}{ns:List Int}{Q:Value->Shared->Prop}(hh:A.handled=none) (hl:s.heap.IsList l items) (hi:PyProof.Rows.IntsAre items.toList ns) (hb:items.size+1<scanBound)
  (h:∀ (h':Heap) (tk:Nat),IS prog w h' s.heap.objs.size (!bG w) (met ns)->(∀ c o,c<s.heap.objs.size->s.heap.get? c=some o->h'.get? c=some o)->Q (.ref s.heap.objs.size) { s with heap:=h',toks:=tk }):
  wpAny (model prog w) A (call (.type "set") [.ref l]) Q E s:=by
 obtain⟨c,tl,hmro⟩:=F.called_set.mro;have hmade:=F.called_set.made;have hsub:=F.called_set.sub;refine wpAny_call (codeAny_of_tree ?_);show wpAny _ _ (callAny (.type "set") _) _ _ _;refine wpAny_pure ⟨Code.quiet_builtin _ (by decide +kernel),codeAny_builtin F.entry_type_call ?_⟩;rw[Around.under_plain (weight_type_call_type "set" [.ref l] []) rfl];have h1:=F.called_set.notType;have h2:=F.called_set.canCreate;have hct:=F.typeCall_set_1 (.ref l)
 repeat (any_goals (first | assumption | wp_step))
 refine codeAny_mono (YM (.ref l) (E:=E) (Q:=fun obj s1=>obj=.ref s.heap.objs.size/\s1={ s with heap:=s.heap.push (fU w) }) ⟨rfl,rfl⟩) fun r s1 hr=>?_;cases r with
 | error e=>exact hr
 | ok fl=>
  cases fl with
  | ret obj=>
   obtain⟨rfl,rfl⟩:=hr;have gS:(s.heap.push (fU w)).get? s.heap.objs.size=some (fU w):=aKu _ rfl;have hT:Shared.TypeIs { s with heap:=s.heap.push (fU w) } (.ref s.heap.objs.size) "set" := ⟨_,gS,rfl⟩;have hli:=F.called_set.init.lookup;have hbi:=F.called_set.init.bind (.ref s.heap.objs.size)
   repeat (any_goals (first | assumption | wp_step))
   refine codeAny_mono (codeAny_call_builtin (R:=wants (fun r s2=>r=.none/\∃ h' tk,s2={ s with heap:=h',toks:=tk }/\IS prog w h' s.heap.objs.size (!bG w) (met ns) /\
     (∀ c o,c<s.heap.objs.size->s.heap.get? c=some o->h'.get? c=some o)) E) F.called_set.init.plain F.entry_set_init (check_set_init_1 hT ?_)) fun r2 s2 hr2=>?_
   ·obtain⟨ol,hol,hcl,nl,hdl⟩:=hl
    obtain⟨ocls,odict,odata,oslots⟩:=ol;simp only at hcl hdl;subst hcl;subst hdl;have hol':(s.heap.push (fU w)).get? l=some { cls:=.type "list",dict:=odict,data:=.seq items nl,slots:=oslots }:=aKh _ hol;have q1:=F.sub_list_set;have q2:=F.sub_list_frozenset;have q3:(Value.type "list" == Value.type "dict")=false:=by decide
    have hl1:(s.heap.push (fU w)).IsList l items:=⟨_,hol',rfl,nl,rfl⟩;unfold Builtin.«set.__init__» noKeywords Builtin.Frozenset.updateFrom;generalize hPI:pyIter=PI
    wp_walk
    subst hPI;refine wpAny_pyIter_list hl1 (wpAny_bind (wpAny_runValue ?_));have lt:l<s.heap.objs.size:=aKx hol;have h3:A.in1.in1.in1.handled=none:=by simp[hh]
    have ne1:l≠(s.heap.push (fU w)).objs.size:=by rw[aKy];exact aMo (aMk lt)
    have nf:s.heap.objs.size ∉ [(s.heap.push (fU w)).objs.size,l]:=by
     rw[aKy];simp only[aKi,aM8,aMb,or_false,not_or];exact⟨aMo (aMl _),aMn lt⟩
    have hval:∀ (i:Nat) (v:Value),items[i]?=some v->∃ t,v=.int (ns.getD i 0) t:=fun i v hv=>PyProof.Rows.IntsAre.int_at hi i v (by rw[Array.getElem?_toList];exact hv);have hlen:ns.length=items.size:=by rw[<- PyProof.Rows.IntsAre.length hi,aKm]
    have gS2:((s.heap.push (fU w)).push { cls:=.type "list_iterator",data:=.fields #[.ref l,.int 0 0] }).get? s.heap.objs.size=some (fU w):=aKh _ gS;refine YL (b:=!bG w) ((Walks.list h3 _ l ne1 items).toS) s.heap.objs.size nf ns hlen hval hb (items.size-0) 0 _ (by lia) (aMx _) ⟨⟨_,aKu _ rfl,rfl,rfl⟩,(hl1.push _)⟩ ⟨_,#[],0,_,gS2,⟨rfl,rfl,rfl⟩,rfl,fun e he=>by simp at he,List.Perm.refl _,by decide,rfl,aGo _⟩ fun s' hm S'=>?_;obtain⟨h',g',d',tk',os'⟩:=s';have eg:g'=s.gens:=hm.gens;have ed:d'=s.drawn:=hm.drawn;have eo:os'=s.os:=hm.os;subst eg;subst ed;subst eo;rw[<- hlen,List.take_length] at S';refine wpAny_pure ?_;show wpAny _ _ (ret Value.none) _ _ _;refine wpAny_pure ⟨rfl,h',tk',rfl,S',fun c o hc e=>?_⟩;refine hm.heap c o (by simp only[aKi,aM8,aMb,or_false,not_or];exact⟨aMo hc,by rw[aKy];exact aMo (aMk hc)⟩) (aKh _ (aKh _ e))
   ·cases r2 with
    | error e=>exact hr2
    | ok fl2=>
     cases fl2 with
     | ret r=>
      obtain⟨rfl,h',tk,rfl,S',hk'⟩:=hr2
      repeat (any_goals (first | assumption | wp_step))
      exact h _ _ S' hk'
     | _=>exact hr2.elim
  | _=>exact hr.elim
end
theorem RN {M:Model}{A:Around}{E:Value->Shared->Prop}{s:Shared}{src:Source}{n:Nat}{Q:Nat->Shared->Prop}(hn:n≠0) (h:∀ k d,k<n->Q k { s with drawn:=d }):wpAny M A (choose src n) Q E s:=by
 intro Γ p hΓ;unfold choose;rw[Sem.wp_choose];exact⟨hn,by rw[Sem.wp_pure];exact h _ _ (Nat.mod_lt _ (Nat.pos_of_ne_zero hn))⟩
theorem AN {α:Type}:∀ (l:List α) (n:Nat) (h:n<l.length),(l[n]::l.eraseIdx n).Perm l
 | x::l,0,h=>.refl _
 | x::l,n+1,h=>by
  have h':n<l.length:=by simpa using h
  exact (List.Perm.swap x l[n] (l.eraseIdx n)).trans (List.Perm.cons x (AN l n h'))
theorem EY {M:Model}{A:Around}{E:Value->Shared->Prop}{α:Type}:∀ (n:Nat) (xs:List α) (s:Shared) (Q:List α->Shared->Prop),xs.length=n->(∀ r d,r.Perm xs->Q r { s with drawn:=d })->wpAny M A (drawOrder n xs) Q E s
 | 0,[],s,Q,_,h=>by
  unfold drawOrder;exact wpAny_pure (h [] s.drawn (.refl _))
 | n+1,x::xs,s,Q,hl,h=>by
  unfold drawOrder;refine wpAny_bind (RN (by simp) fun k d hk=>?_);have e:(x::xs)[k]?=some (x::xs)[k]:=aK8 hk;rw[e];refine wpAny_bind (EY n _ _ _ (by rw[List.length_eraseIdx_of_lt hk];simp at hl ⊢;lia) fun r d' hp=>wpAny_pure (h _ d' ?_));exact (List.Perm.cons _ hp).trans (AN (x::xs) k hk)
def dr (es:Array (Int × Value)) (t:SetTable):Bool:=!t.plain&&es.size > 1
abbrev sIt (first:Value) (i:Nat) (a:Addr) (n ep:Nat):Obj:={ cls:=.type "set_iterator",dict:=none,data:=.fields #[first,rawInt i,.ref a,rawInt n,rawInt ep],slots:=#[] }
theorem UQ:entryFor table "set.__iter__" = some Builtin.«frozenset.__iter__»:=entryFor_alias (id' := "frozenset.__iter__") (by kernel_rfl) rfl (by decide +kernel) (by kernel_rfl)
theorem zE:typeLookup (.type "set_iterator") "__next__" = pure (some (.builtin "set_iterator.__next__")):=by rw[typeLookup_type,builtinLookup_eq_fast];kernel_rfl
section
variable {prog:Program}{w:World}{A:Around}{E:Value->Shared->Prop}{s:Shared}{a:Addr}{o:Obj}{es:Array (Int × Value)}{ep:Nat}{t:SetTable}
theorem UO {Q:Bool->Shared->Prop}(ho:s.heap.get? a=some o) (hd:o.data=.set es ep t) (hf:t.fits es.size=true) (h:Q (!bG w&&dr es t) s):wpAny (model prog w) A (setDrawn a) Q E s:=by
 unfold setDrawn setsByText;exact wpAny_bind (wpAny_setState_of ho hd hf (wpAny_bind (wpAny_bind (wpAny_askSetting (wpAny_pure (wpAny_pure h))))))
theorem aFk {Q:Value->Shared->Prop}(ho:s.heap.get? a=some o) (hex:o.ExactSet) (hd:o.data=.set es ep t) (hf:t.fits es.size=true) (hz:es.size<=sizeLine)
  (h0:(!bG w&&dr es t)=false->Q (.ref s.heap.objs.size) { s with heap:=s.heap.push (sIt (rawInt 0) 0 a es.size ep) })
  (h1:(!bG w&&dr es t)=true->∀ (pl:List Nat) d,pl.Perm (List.range es.size)->Q (.ref (s.heap.objs.size+1)) { s with heap:=(s.heap.push { cls:=.type "tuple",data:=.seq (pl.map fun (i:Nat)=>rawInt i).toArray }).push (sIt (.ref s.heap.objs.size) 0 a es.size ep),drawn:=d }):
  wpAny (model prog w) A (pyIter (.ref a)) Q E s:=by
 have hT:s.TypeIs (.ref a) "set" := ⟨o,ho,hex.1⟩;refine wpAny_pyIter_slot hT F.slot_set_iter (wpAny_call_entry F.slot_set_iter hT UQ ?_ (F.args_set_iter_1 _));unfold Builtin.«frozenset.__iter__» Builtin.Frozenset.slot0 slotArgs;simp only[List.isEmpty_nil,aKs,aKq,↓reduceIte,bind_assoc,aLp,bne_self_eq_false];unfold Builtin.Frozenset.addrOf Builtin.Frozenset.sizeOf;refine wpAny_bind (wpAny_pure ?_)
 try dsimp only
 refine wpAny_bind (wpAny_pure ?_);refine wpAny_bind (wpAny_bind (wpAny_setEntries_of ho hd hf (wpAny_pure ?_)));refine wpAny_bind (UO ho hd hf ?_);cases hb:(!bG w&&dr es t) with
 | false=>
  rw[if_neg (by simp)];refine wpAny_bind (wpAny_pure (wpAny_bind (wpAny_setEpoch_of ho hd hf ?_)));refine wpAny_bind (wpAny_newObj_type ?_);exact wpAny_pure ⟨_,rfl,"set_iterator",_,⟨_,aKu _ rfl,rfl⟩,zE,h0 hb⟩
 | true=>
  rw[if_pos rfl];refine wpAny_bind (EY es.size (List.range es.size) _ _ aLq fun pl d hp=>?_);have hpl:pl.length=es.size:=by rw[hp.length_eq,aLq]
  refine wpAny_bind (wpAny_newTuple ?_ (by simp[hpl];exact hz));have ho':(s.heap.push { cls:=.type "tuple",data:=.seq (pl.map fun (i:Nat)=>rawInt i).toArray }).get? a=some o:=aKh _ ho;refine wpAny_bind (wpAny_setEpoch_of ho' hd hf ?_);refine wpAny_bind (wpAny_newObj_type ?_);have q:=h1 hb pl d hp;refine wpAny_pure ⟨_,rfl,"set_iterator",_,⟨_,aKu _ rfl,rfl⟩,zE,?_⟩;have e:(s.heap.push { cls:=.type "tuple",data:=.seq (pl.map fun (i:Nat)=>rawInt i).toArray }).objs.size=s.heap.objs.size+1:=aKy ..;show Q (.ref (s.heap.push { cls:=.type "tuple",data:=.seq (pl.map fun (i:Nat)=>rawInt i).toArray }).objs.size) _;rw[e];exact q
end
theorem rD:Slot "set_iterator" "__next__" "set_iterator.__next__":=
 .of (owner := "set_iterator") (n := "__next__") zE (by decide +kernel) (by decide +kernel) (by decide +kernel) (by first | exact .inl (by decide +kernel) | exact .inr (by decide +kernel)) (by rw[isSubtype_type];kernel_rfl)
theorem AI:entryFor table "set_iterator.__next__" = some Builtin.«set_iterator.__next__»:=entryFor_of_fast (by kernel_rfl)
theorem zW (a:Value):argsOk "set_iterator.__next__" ⟨[a],[]⟩:=by unfold argsOk;kernel_rfl
section
variable {prog:Program}{w:World}{A:Around}{E:Value->Shared->Prop}{s:Shared}{a it:Addr}{o:Obj}{es:Array (Int × Value)}{ep i:Nat}{t:SetTable}{first:Value}
theorem MC {Q:PySem.Fin->Shared->Prop}(hh:A.handled=none) (hE:∀ h' e,(∀ c o,s.heap.get? c=some o->h'.get? c=some o)->(∃ o,h'.get? e=some o/\o.cls=.type "StopIteration")->E (.ref e) { s with heap:=h' }):
  wpAny (model prog w) A (do raiseNew (<- newExc (.type "StopIteration") [])) Q E s:=by
 refine wpAny_bind ?_;simp only[newExc,newTuple];refine wpAny_bind (wpAny_newObj_type ?_ (by size_fits));refine wpAny_bind (m:=firstArgMember _ _) (wpAny_of_eq (a:=Value.none) (by first | rfl | (simp only[firstArgMember];rfl)) ?_)
 refine wpAny_newObj_type ?_ (by size_fits);simp only[raiseNew];refine wpAny_bind (wpAny_handled ?_);rw[hh];refine wpAny_bind (wpAny_pure (wpAny_throw ?_));exact hE _ _ (fun c o q=>aKh _ (aKh _ q)) ⟨_,aKu _ rfl,rfl⟩
theorem JQ {α:Type}(next:Nat->Nat):∀ (fuel k:Nat) (left:List α) (out:Array α),left.length=fuel->(pickOrder.go next fuel k left out).toList.Perm (out.toList++left)
 | 0,k,[],out,_=>by unfold pickOrder.go;simp
 | fuel+1,k,x::left,out,h=>by
  unfold pickOrder.go;have hlt:next k%(x::left).length<(x::left).length:=Nat.mod_lt _ (by simp);generalize next k%(x::left).length=j at hlt;rw[aK8 hlt];dsimp only;refine (JQ next fuel (k+1) _ _ (by rw[List.length_eraseIdx_of_lt hlt];simp at h ⊢;lia)).trans ?_;rw[Array.toList_push,List.append_assoc];exact List.Perm.append_left _ (AN (x::left) j hlt)
theorem aDd {α:Type}(next:Nat->Nat) (xs:Array α):(pickOrder next xs).toList.Perm xs.toList:=by
 have h:=JQ next xs.size 0 xs.toList #[] (aKm ..);unfold pickOrder
 simpa using h
theorem aHd {Q:Array (Int × Value)->Shared->Prop}(hb:bG w=true) (ho:s.heap.get? a=some o) (hd:o.data=.set es ep t) (hf:t.fits es.size=true) (h:Q (pickOrder (w.params.setOrder a ep) es) s):
  wpAny (model prog w) A (setWalk a) Q E s:=by
 unfold setWalk setsByText;refine wpAny_bind (wpAny_setState_of ho hd hf (wpAny_bind (wpAny_bind (wpAny_askSetting (wpAny_pure ?_)))));show wpAny _ _ (if bG w=true then _ else _) _ _ _;rw[if_pos hb];exact wpAny_bind (wpAny_askSetting (wpAny_pure h))
def mG (xs:Array Nat):Nat->Nat
 | 0=>0
 | k+1=>xs.getD k 0+1
def eJ (b:Bool) (t:SetTable) (i:Nat):Nat:=if b then 0 else mG t.place i
def gX (w:World) (a:Addr) (ep:Nat) (es:Array (Int × Value)):List Value:=if bG w then (pickOrder (w.params.setOrder a ep) es).toList.map (·.2) else es.toList.map (·.2)
theorem zK (w:World) (a:Addr) (ep:Nat) (es:Array (Int × Value)):(gX w a ep es).Perm (es.toList.map (·.2)):=by
 unfold gX
 split
 ·exact (aDd _ _).map _
 ·exact .refl _
theorem QY {xs:Array Nat}(hr:dB xs) {i:Nat}(hi:i<=xs.size):SetTable.below xs (mG xs i)=i:=by
 obtain⟨h1,h2,h3⟩:=EI hr (mG xs i);generalize SetTable.below xs (mG xs i)=p at h1 h2 h3;cases i with
 | zero=>
  cases p with
  | zero=>rfl
  | succ p=>exact absurd (h1 0 _ (Nat.succ_pos p) (aKj (by lia))) (Nat.not_lt_zero _)
 | succ k=>
  have hk:xs[k]?=some xs[k]:=aKj (by lia);have hd:xs.getD k 0=xs[k]:=by simp[Array.getD,show k<xs.size by lia]
  have ef:mG xs (k+1)=xs[k]+1:=by show xs.getD k 0+1=_;rw[hd]
  rw[ef] at h1 h2
  by_cases hp:p<=k
  ·have:=h2 k _ hp hk;lia
  ·by_cases hq:k+1<p
   ·have e:xs[k+1]?=some xs[k+1]:=aKj (by lia)
    have q1:=h1 (k+1) _ hq e;have q2:=hr.lt (aMl k) hk e;lia
   ·lia
theorem LY {Q:Option (Value × Nat)->Shared->Prop}(hc:bG w=true\/(bG w=false/\dr es t=false/\t.led=true/\dB t.place)) (ho:s.heap.get? a=some o) (hd:o.data=.set es ep t) (hf:t.fits es.size=true) (hi:i<=es.size)
  (h:Q (((gX w a ep es)[i]?).map fun x=>(x,eJ (bG w) t (i+1))) s):wpAny (model prog w) A (setNext a (eJ (bG w) t i) i ep) Q E s:=by
 unfold setNext setsByText;refine wpAny_bind (wpAny_setState_of ho hd hf (wpAny_bind (wpAny_bind (wpAny_askSetting (wpAny_pure ?_)))));show wpAny _ _ (if bG w=true then _ else _) _ _ _;unfold gX eJ at h;unfold eJ;rcases hc with hb | ⟨hb,hdr,hled,hr⟩
 ·rw[if_pos hb]
  rw[if_pos hb,if_pos hb] at h;rw[if_neg (show ¬ ((ep != ep)=true) by simp)];refine wpAny_bind (aHd hb ho hd hf (wpAny_pure ?_));rw[if_pos hb];rw[aLh,Array.getElem?_toList,Option.map_map] at h;exact h
 ·rw[if_neg (by rw[hb];simp)]
  rw[if_neg (by rw[hb];simp),if_neg (by rw[hb];simp)] at h;show wpAny _ _ (if dr es t=true then _ else _) _ _ _;rw[if_neg (by rw[hdr];simp)];show wpAny _ _ ((if (!t.led && !es.isEmpty)=true then unsupported "set:maker-not-led" else pure ()) >>= _) _ _ _;rw[if_neg (by rw[hled];simp)];refine wpAny_bind (wpAny_pure ?_);rw[if_neg (by rw[hb];simp)];have hsz:t.place.size=es.size:=by
   simp only[SetTable.fits,aKn,beq_iff_eq] at hf;exact hf.1
  rw[QY hr (by lia)];refine wpAny_pure ?_;rw[aLh,Array.getElem?_toList] at h
  by_cases hlt:i<es.size
  ·rw[aKj hlt] at h ⊢
   rw[aKj (show i<t.place.size by lia)];have hg:t.place.getD i 0=t.place[i]:=by simp[Array.getD,show i<t.place.size by lia]
   dsimp only at h ⊢;simp only[zz3,mG] at h;rw[hg] at h;exact h
  ·rw[Array.getElem?_eq_none (by lia)] at h ⊢
   exact h
end
section
variable {prog:Program}{w:World}{A:Around}{E:Value->Shared->Prop}{s:Shared}{a it T:Addr}{o:Obj}{es:Array (Int × Value)}{ep i:Nat}{t:SetTable}
theorem aAm {x:Value}{Q:Value->Shared->Prop}(hia:it≠a) (hc:bG w=true\/(bG w=false/\dr es t=false/\t.led=true/\dB t.place)) (ho:s.heap.get? a=some o) (hd:o.data=.set es ep t) (hf:t.fits es.size=true)
  (hit:s.heap.get? it=some (sIt (rawInt (eJ (bG w) t i)) i a es.size ep)) (hx:(gX w a ep es)[i]?=some x)
  (hQ:∀ h',h'.get? it=some (sIt (rawInt (eJ (bG w) t (i+1))) (i+1) a es.size ep)->Heap.SameBut it s.heap h'->Q x { s with heap:=h' }):
  wpAny (model prog w) A (Builtin.«set_iterator.__next__» ⟨[.ref it],[]⟩) (fun fin s'=>∃ v,fin=.done (.ret v)/\Q v s') E s:=by
 have hi:i<=es.size:=by
  have h1:=(aKb.mp hx).1;have h2:(gX w a ep es).length=es.size:=by rw[(zK w a ep es).length_eq];simp
  lia
 unfold Builtin.«set_iterator.__next__» slotArgs;simp only[List.isEmpty_nil,aKs,aKq,↓reduceIte,bind_assoc,aLp,bne_self_eq_false];refine wpAny_bind (wpAny_pure ?_);refine wpAny_bind (wpAny_fieldsOf hit rfl ?_);dsimp only;refine wpAny_bind (wpAny_setEntries_of ho hd hf ?_);rw[if_neg (by simp)];show wpAny _ _ (setNext a (Int.toNat ((eJ (bG w) t i:Nat):Int)) (Int.toNat ((i:Nat):Int)) (Int.toNat ((ep:Nat):Int)) >>= _) _ _ _;rw[aL2,aL2,aL2];refine wpAny_bind (LY hc ho hd hf hi ?_);rw[hx];show wpAny _ _ (setField (.ref it) 0 (rawInt (eJ (bG w) t (i+1))) >>= _) _ _ _;refine wpAny_bind (wpAny_setField_rec hit (by simp) fun h1 e1 b1=>?_);refine wpAny_bind (wpAny_setField_rec e1 (by simp) fun h2 e2 b2=>?_);exact wpAny_pure ⟨_,rfl,hQ h2 e2 (b1.trans b2)⟩
theorem aAl {Q:PySem.Fin->Shared->Prop}(hh:A.handled=none) (hia:it≠a) (hc:bG w=true\/(bG w=false/\dr es t=false/\t.led=true/\dB t.place)) (ho:s.heap.get? a=some o) (hd:o.data=.set es ep t) (hf:t.fits es.size=true)
  (hit:s.heap.get? it=some (sIt (rawInt (eJ (bG w) t es.size)) es.size a es.size ep))
  (hE:∀ h' e,(∀ c o,c≠it->s.heap.get? c=some o->h'.get? c=some o)->(∃ o,h'.get? e=some o/\o.cls=.type "StopIteration")->E (.ref e) { s with heap:=h' }):
  wpAny (model prog w) A (Builtin.«set_iterator.__next__» ⟨[.ref it],[]⟩) Q E s:=by
 have hx:(gX w a ep es)[es.size]?=none:=by
  have h2:(gX w a ep es).length=es.size:=by rw[(zK w a ep es).length_eq];simp
  exact aLf (by lia)
 unfold Builtin.«set_iterator.__next__» slotArgs;simp only[List.isEmpty_nil,aKs,aKq,↓reduceIte,bind_assoc,aLp,bne_self_eq_false];refine wpAny_bind (wpAny_pure ?_);refine wpAny_bind (wpAny_fieldsOf hit rfl ?_);dsimp only;refine wpAny_bind (wpAny_setEntries_of ho hd hf ?_);rw[if_neg (by simp)];show wpAny _ _ (setNext a (Int.toNat ((eJ (bG w) t es.size:Nat):Int)) (Int.toNat ((es.size:Nat):Int)) (Int.toNat ((ep:Nat):Int)) >>= _) _ _ _;rw[aL2,aL2,aL2];refine wpAny_bind (LY hc ho hd hf (aMg _) ?_);rw[hx];show wpAny _ _ (setField (.ref it) 2 .none >>= _) _ _ _;refine wpAny_bind (wpAny_setField_rec hit (by simp) fun h1 e1 b1=>?_);exact MC hh fun h' e k he=>hE h' e (fun c o hc q=>k c o (b1.extBut _ _ hc q)) he
theorem aAh {p:Nat}{x:Int × Value}{pl:List Nat}{Q:Value->Shared->Prop}(ho:s.heap.get? a=some o) (hd:o.data=.set es ep t) (hf:t.fits es.size=true)
  (hit:s.heap.get? it=some (sIt (.ref T) i a es.size ep)) (hT:s.heap.get? T=some { cls:=.type "tuple",data:=.seq (pl.map fun (i:Nat)=>rawInt i).toArray }) (hp:pl[i]?=some p) (hx:es[p]?=some x)
  (hQ:∀ h',h'.get? it=some (sIt (.ref T) (i+1) a es.size ep)->Heap.SameBut it s.heap h'->Q x.2 { s with heap:=h' }):
  wpAny (model prog w) A (Builtin.«set_iterator.__next__» ⟨[.ref it],[]⟩) (fun fin s'=>∃ v,fin=.done (.ret v)/\Q v s') E s:=by
 unfold Builtin.«set_iterator.__next__» slotArgs;simp only[List.isEmpty_nil,aKs,aKq,↓reduceIte,bind_assoc,aLp,bne_self_eq_false];refine wpAny_bind (wpAny_pure ?_);refine wpAny_bind (wpAny_fieldsOf hit rfl ?_);dsimp only;refine wpAny_bind (wpAny_setEntries_of ho hd hf ?_);rw[if_neg (by simp)];refine wpAny_bind (wpAny_seqItems hT rfl ?_);have hg:((pl.map fun (i:Nat)=>rawInt i).toArray)[(Int.toNat ((i:Nat):Int))]?=some (.int (p:Int) 0):=by
  rw[aL2,List.getElem?_toArray,aLh,hp]
  rfl
 dsimp only;rw[hg];show wpAny _ _ (setNextDrawn a (Int.toNat ((p:Nat):Int)) (Int.toNat ((ep:Nat):Int)) >>= _) _ _ _;rw[aL2,aL2];unfold setNextDrawn;refine wpAny_bind (wpAny_bind (wpAny_setState_of ho hd hf ?_));dsimp only;rw[if_neg (by simp),hx];refine wpAny_pure ?_;refine wpAny_bind (wpAny_setField_rec hit (by simp) fun h1 e1 b1=>?_);exact wpAny_pure ⟨_,rfl,hQ h1 e1 b1⟩
theorem aAg {pl:List Nat}{Q:PySem.Fin->Shared->Prop}(hh:A.handled=none) (ho:s.heap.get? a=some o) (hd:o.data=.set es ep t) (hf:t.fits es.size=true) (hpl:pl.length=es.size)
  (hit:s.heap.get? it=some (sIt (.ref T) es.size a es.size ep)) (hT:s.heap.get? T=some { cls:=.type "tuple",data:=.seq (pl.map fun (i:Nat)=>rawInt i).toArray })
  (hE:∀ h' e,(∀ c o,c≠it->s.heap.get? c=some o->h'.get? c=some o)->(∃ o,h'.get? e=some o/\o.cls=.type "StopIteration")->E (.ref e) { s with heap:=h' }):
  wpAny (model prog w) A (Builtin.«set_iterator.__next__» ⟨[.ref it],[]⟩) Q E s:=by
 unfold Builtin.«set_iterator.__next__» slotArgs;simp only[List.isEmpty_nil,aKs,aKq,↓reduceIte,bind_assoc,aLp,bne_self_eq_false];refine wpAny_bind (wpAny_pure ?_);refine wpAny_bind (wpAny_fieldsOf hit rfl ?_);dsimp only;refine wpAny_bind (wpAny_setEntries_of ho hd hf ?_);rw[if_neg (by simp)];refine wpAny_bind (wpAny_seqItems hT rfl ?_);have hg:((pl.map fun (i:Nat)=>rawInt i).toArray)[(Int.toNat ((es.size:Nat):Int))]?=none:=by
  rw[aL2,List.getElem?_toArray];exact aLf (by simp[hpl])
 dsimp only;rw[hg];refine wpAny_bind (wpAny_setField_rec hit (by simp) fun h1 e1 b1=>?_);refine wpAny_bind (wpAny_setField_rec e1 (by simp) fun h2 e2 b2=>?_);exact MC hh fun h' e k he=>hE h' e (fun c o hc q=>k c o ((b1.trans b2).extBut _ _ hc q)) he
theorem LX:Slot "set_iterator" "__iter__" "set_iterator.__iter__":=
 .of (owner := "set_iterator") (n := "__iter__") (by rw[typeLookup_type,builtinLookup_eq_fast];kernel_rfl) (by decide +kernel) (by decide +kernel) (by decide +kernel) (by first | exact .inl (by decide +kernel) | exact .inr (by decide +kernel)) (by rw[isSubtype_type];kernel_rfl)
theorem UR:entryFor table "set_iterator.__iter__" = some Builtin.«dict_keyiterator.__iter__»:=
 entryFor_alias (id' := "dict_keyiterator.__iter__") (by kernel_rfl) (by first | rfl | decide +kernel | (unfold String.splitOn;simp +decide [String.splitOnAux])) (by decide +kernel) (by kernel_rfl)
theorem QO (a:Value):argsOk "set_iterator.__iter__" ⟨[a],[]⟩:=by unfold argsOk;kernel_rfl
theorem LU {Q:Value->Shared->Prop}{ob:Obj}(hit:s.heap.get? it=some ob) (hc:ob.cls=.type "set_iterator") (h:Q (.ref it) s):wpAny (model prog w) A (pyIter (.ref it)) Q E s:=by
 have hT:s.TypeIs (.ref it) "set_iterator" := ⟨_,hit,hc⟩;refine wpAny_pyIter_slot hT LX (wpAny_call_entry LX hT UR ?_ (QO _));show wpAny _ _ (ret (.ref it)) _ _ s;exact wpAny_pure ⟨_,rfl,"set_iterator",_,hT,zE,h⟩
theorem KI {Q:Option Value->Shared->Prop}{ob:Obj}(hit:s.heap.get? it=some ob) (hc:ob.cls=.type "set_iterator")
  (h:∀ E':Value->Shared->Prop,(∀ h' e,(∀ c o,c≠it->s.heap.get? c=some o->h'.get? c=some o)->(∃ o,h'.get? e=some o/\o.cls=.type "StopIteration")->E' (.ref e) { s with heap:=h' }) ->
   wpAny (model prog w) A.in1 (Builtin.«set_iterator.__next__» ⟨[.ref it],[]⟩) (fun fin s'=>∃ v,fin=.done (.ret v)/\False) E' s)
  (hQ:∀ h',(∀ c o,c≠it->s.heap.get? c=some o->h'.get? c=some o)->Q none { s with heap:=h' }):wpAny (model prog w) A (pyNext (.ref it)) Q E s:=by
 have hT:s.TypeIs (.ref it) "set_iterator" := ⟨_,hit,hc⟩;unfold pyNext;refine wpAny_bind (wpAny_attempt (wpAny_callSpecial?_slot (name:=Str.ofString "__next__") hT rD (wpAny_call_entry rD hT AI (wpAny_mono (h _ fun h' e kp he=>?_) (fun fin s' ⟨v,_,z⟩=>z.elim) fun _ _ z=>z) (zW _))));obtain⟨o,q1,q2⟩:=he;exact wpAny_bind (wpAny_isInstance (T := "StopIteration") (b:=true) ⟨o,q1,q2⟩ isSubtype_stop (wpAny_pure (hQ _ kp)))
theorem wA (hh:A.handled=none) (hia:it≠a) (hc:bG w=true\/(bG w=false/\dr es t=false/\t.led=true/\dB t.place)) (hd:o.data=.set es ep t) (hf:t.fits es.size=true):
  WalksS prog w A it [it,a] [it] Eq es.size (fun i v=>(gX w a ep es)[i]?=some v) (fun i s=>s.heap.get? a=some o/\s.heap.get? it=some (sIt (rawInt (eJ (bG w) t i)) i a es.size ep)) where
 sub:=fun c hc=>by simp at hc ⊢;exact .inl hc
 grefl:=fun _=>rfl
 gtrans:=fun _ _ _=>Eq.trans
 frame:=fun i s h' tk st _ kp=>⟨kp a (by simp) _ st.1,kp it (by simp) _ st.2⟩
 item:=fun i s Q E hi st hQ=>by
  have hlt:i<(gX w a ep es).length:=by rw[(zK w a ep es).length_eq];simpa using hi
  have hx:=aK8 hlt;have hT:s.TypeIs (.ref it) "set_iterator" := ⟨_,st.2,rfl⟩;unfold pyNext;refine wpAny_bind (wpAny_attempt (wpAny_callSpecial?_slot (name:=Str.ofString "__next__") hT rD (wpAny_call_entry rD hT AI
   (aAm hia hc st.1 hd hf st.2 hx fun h' e1 b1=>wpAny_pure (hQ _ _ hx ⟨b1.extBut _ _ (Ne.symm hia) st.1,e1⟩ ⟨fun c q hcn e=>b1.extBut _ _ (fun z=>hcn (by simp[z])) e,rfl,rfl,rfl,aMg _⟩)) (zW _))))
 done:=fun s Q E st hQ=>KI st.2 rfl (fun E' hE=>aAl (by simpa using hh) hia hc st.1 hd hf st.2 hE) fun h' kp=>hQ _ ⟨fun c q hcn e=>kp c q (fun z=>hcn (by simp[z])) e,rfl,rfl,rfl,aMg _⟩
 self:=fun i s Q E st hQ=>LU st.2 rfl hQ
def mC (es:Array (Int × Value)) (pl:List Nat):List Value:=pl.filterMap fun p=>(es[p]?).map (·.2)
theorem EZ {pl:List Nat}(hp:pl.Perm (List.range es.size)) (i:Nat):(mC es pl)[i]?=(pl[i]?).bind fun p=>(es[p]?).map (·.2):=by
 have hall:∀ p∈pl,∃ x,(es[p]?).map (·.2)=some x:=fun p hpm=>by
  have:=aKd.mp (hp.mem_iff.mp hpm);exact⟨_,by rw[aKj this];rfl⟩
 clear hp
 unfold mC
 induction pl generalizing i with
 | nil=>simp
 | cons p pl ih=>
  obtain⟨x,hx⟩:=hall p aKa;rw[aL7,hx];cases i with
  | zero=>simp[hx]
  | succ i=>simpa using ih i fun q hq=>hall q (aK9 _ hq)
theorem UP {pl:List Nat}(hp:pl.Perm (List.range es.size)):(mC es pl).Perm (es.toList.map (·.2)):=by
 have h1:(mC es pl).Perm (mC es (List.range es.size)):=hp.filterMap _;refine h1.trans (List.Perm.of_eq ?_);refine List.ext_getElem? fun i=>?_;rw[EZ (.refl _),aLh]
 by_cases hi:i<es.size
 ·rw[List.getElem?_range hi];simp
 ·rw[aLf (by simp;lia),aLf (by simp;lia)];rfl
theorem wB {pl:List Nat}(hh:A.handled=none) (hia:it≠a) (hiT:it≠T) (hp:pl.Perm (List.range es.size)) (hd:o.data=.set es ep t) (hf:t.fits es.size=true):
  WalksS prog w A it [it,a,T] [it] Eq es.size (fun i v=>(mC es pl)[i]?=some v) (fun i s=>s.heap.get? a=some o/\s.heap.get? it=some (sIt (.ref T) i a es.size ep)/\s.heap.get? T=some { cls:=.type "tuple",data:=.seq (pl.map fun (i:Nat)=>rawInt i).toArray }) where
 sub:=fun c hc=>by simp at hc ⊢;exact .inl hc
 grefl:=fun _=>rfl
 gtrans:=fun _ _ _=>Eq.trans
 frame:=fun i s h' tk st _ kp=>⟨kp a (by simp) _ st.1,kp it (by simp) _ st.2.1,kp T (by simp) _ st.2.2⟩
 item:=fun i s Q E hi st hQ=>by
  have hpl:pl.length=es.size:=by rw[hp.length_eq,aLq]
  have hg:pl[i]?=some pl[i]:=aK8 (by lia);have hlt:pl[i]<es.size:=aKd.mp (hp.mem_iff.mp (List.getElem_mem _));have hx:es[pl[i]]?=some es[pl[i]]:=aKj hlt;have hv:(mC es pl)[i]?=some (es[pl[i]]).2:=by rw[EZ hp,hg,zz2,hx];rfl
  have hT:s.TypeIs (.ref it) "set_iterator" := ⟨_,st.2.1,rfl⟩;unfold pyNext;refine wpAny_bind (wpAny_attempt (wpAny_callSpecial?_slot (name:=Str.ofString "__next__") hT rD (wpAny_call_entry rD hT AI
   (aAh st.1 hd hf st.2.1 st.2.2 hg hx fun h' e1 b1=>wpAny_pure (hQ _ _ hv ⟨b1.extBut _ _ (Ne.symm hia) st.1,e1,b1.extBut _ _ (Ne.symm hiT) st.2.2⟩ ⟨fun c q hcn e=>b1.extBut _ _ (fun z=>hcn (by simp[z])) e,rfl,rfl,rfl,aMg _⟩)) (zW _))))
 done:=fun s Q E st hQ=>KI st.2.1 rfl (fun E' hE=>aAg (by simpa using hh) st.1 hd hf (by rw[hp.length_eq,aLq]) st.2.1 st.2.2 hE) fun h' kp=>hQ _ ⟨fun c q hcn e=>kp c q (fun z=>hcn (by simp[z])) e,rfl,rfl,rfl,aMg _⟩
 self:=fun i s Q E st hQ=>LU st.2.1 rfl hQ
end
abbrev cC:Obj:={ cls:=.type "list",data:=.seq ([]:List Value).toArray }
theorem aFi:typeLookup (.type "set") "__len__" = pure (some (.builtin "set.__len__")):=by rw[typeLookup_type,builtinLookup_eq_fast];kernel_rfl
theorem YN {P:Nat->Value->Prop}{L:List Value}(hP:∀ i v,P i v ↔ L[i]?=some v) {acc:Array Value}(h:ItemsOf P acc L.length):acc.toList=L:=by
 refine List.ext_getElem? fun i=>?_
 by_cases hi:i<L.length
 ·have ha:i<acc.size:=by rw[h.1];exact hi
  rw[Array.getElem?_toList,aKj ha];exact ((hP i _).mp (h.2 i _ (aKj ha))).symm
 ·rw[aLf (by rw[aKm,h.1];lia),aLf (by lia)]
section
variable {prog:Program}{w:World}{A:Around}{E:Value->Shared->Prop}{s:Shared}{a it:Addr}{o:Obj}{es:Array (Int × Value)}{ep:Nat}{t:SetTable}
theorem IH {Q:Bool->Shared->Prop}(hT:s.TypeIs (.ref a) "set") (h:Q false s):wpAny (model prog w) A (Builtin.List.listLengthHint (.ref a)) Q E s:=by
 unfold Builtin.List.listLengthHint;refine wpAny_bind (wpAny_specialOf hT aFi ?_);generalize hid:("set.__len__" : String)=id0;have hsp:splitId id0=some ("set","__len__"):=by subst hid;decide +kernel
 dsimp only;rw[hsp];subst hid;dsimp only;refine wpAny_bind (wpAny_isInstance (b:=true) hT (by rw[isSubtype_type];kernel_rfl) ?_);rw[if_neg (by decide),if_pos (by decide +kernel)];exact wpAny_bind (wpAny_typeOf hT (wpAny_pure h))
theorem UV {fp:List Addr}{n:Nat}{P:Nat->Value->Prop}{St:Nat->Shared->Prop}{S:Addr}{R:Result->Shared->Prop}(W:WalksS prog w A.in1 it fp [it] Eq n P St) (hst:St 0 s) (hSf:S ∉ fp) (hz:n<=sizeLine)
  (hS:s.heap.get? S=some cC) (hR:∀ s' acc c,Moved [S,it] Eq s s'->s'.heap.get? S=some { cls:=.type "list",dict:=none,data:=.seq acc c,slots:=#[] }->ItemsOf P acc n->R (.ok (.ret (.ref S))) s'):
  wpAny (model prog w) A.in1 (rule "list.extend.makes-room" >>= fun _=>Builtin.List.listTouch (.ref S) >>= fun _=>again (.builtin "list.extend.loop" ⟨[.ref S,.ref it,.ref S],[]⟩))
   (fun fin s'=>match fin with | .done f=>R (.ok f) s' | .again c'=>c'.quiet=true/\codeAny (model prog w) A c' R s') (fun e s'=>R (.error e) s') s:=by
 refine wpAny_bind (wpAny_rule (wpAny_bind ?_));show wpAny _ A.in1 (updateSeq S (·.push .none) >>= fun _=>updateSeq S (·.pop)) _ _ _;refine wpAny_bind (wpAny_updateSeq hS rfl ?_);have g2:=Heap.get?_update_self (Obj.mapSeq (·.push Value.none)) hS rfl;refine wpAny_updateSeq g2 rfl ?_;have g3:=Heap.get?_update_self (Obj.mapSeq (·.pop)) g2 rfl;have oth:∀ c q,c≠S->s.heap.get? c=some q->((s.heap.update S (Obj.mapSeq (·.push Value.none))).update S (Obj.mapSeq (·.pop))).get? c=some q:=
  fun c q hc e=>(Heap.get?_update_other _ _ (Ne.symm hc)).trans ((Heap.get?_update_other _ _ (Ne.symm hc)).trans e)
 refine wpAny_pure ⟨plainId_quiet F.plain_extend_loop _,codeAny_extend_loopS W hz _ hSf _ n 0 _ _ _ rfl (aMx _) (W.frame 0 s _ s.toks hst (aMg _) fun c hc q e=>oth c q (fun z=>hSf (z ▸ hc)) e) g3 (ItemsOf.nil P) fun s' acc c hm hS' hacc=>?_⟩;exact hR s' acc c (Moved.trans W.gtrans ((Moved.refl W.grefl).then_heap (aMg _) fun c q hc e=>oth c q (fun z=>hc (z ▸ aKa)) e) hm) hS' hacc
theorem RZ {R:Result->Shared->Prop}(hh:A.handled=none) (ho:s.heap.get? a=some o) (hex:o.ExactSet) (hd:o.data=.set es ep t) (hf:t.fits es.size=true) (hz:es.size<=sizeLine) (ht:Tab (!bG w) t)
  (hR:∀ h' d tk acc c,(∀ c q,s.heap.get? c=some q->h'.get? c=some q)->h'.get? s.heap.objs.size=some { cls:=.type "list",dict:=none,data:=.seq acc c,slots:=#[] }->acc.toList.Perm (es.toList.map (·.2)) ->
   R (.ok (.ret (.ref s.heap.objs.size))) { s with heap:=h',drawn:=d,toks:=tk }):codeAny (model prog w) A (.builtin "proto.collect" ⟨[.ref a],[]⟩) R s:=by
 refine codeAny_builtin F.entry_proto_collect ?_;rw[Around.under_plainId F.plain_proto_collect _];refine wpAny_bind (wpAny_newObj_type ?_);refine wpAny_pure ⟨plainId_quiet F.plain_list_iadd _,codeAny_builtin F.entry_list_iadd ?_⟩;rw[Around.under_plainId F.plain_list_iadd _];have hlt:a<s.heap.objs.size:=aKx ho;have ho1:(s.heap.push cC).get? a=some o:=aKh _ ho;have gS:(s.heap.push cC).get? s.heap.objs.size=some cC:=aKu _ rfl;have hT:Shared.TypeIs { s with heap:=s.heap.push cC } (.ref a) "set" := ⟨o,ho1,hex.1⟩;have sz1:(s.heap.push cC).objs.size=s.heap.objs.size+1:=aKy ..;show wpAny _ A.in1 (Builtin.List.listExtendWith (.ref s.heap.objs.size) (.ref a) (.ref s.heap.objs.size)) _ _ _;unfold Builtin.List.listExtendWith;refine wpAny_bind (wpAny_typeOf hT ?_);have e1:Builtin.List.listSameRef (.ref s.heap.objs.size) (.ref a)=false:=by simp[Builtin.List.listSameRef];exact aMn hlt
 rw[if_neg (by rw[e1];decide)];have rest:∀ {it:Addr} {fp:List Addr} {P:Nat->Value->Prop} {St:Nat->Shared->Prop} {L:List Value} (s2:Shared) (W:WalksS prog w A.in1 it fp [it] Eq es.size P St),(∀ i v,P i v ↔ L[i]?=some v)->L.Perm (es.toList.map (·.2))->St 0 s2->s.heap.objs.size ∉ fp->s.heap.objs.size<it ->
   (∀ c q,(s.heap.push cC).get? c=some q->s2.heap.get? c=some q)->s2.gens=s.gens->s2.os=s.os ->
   wpAny (model prog w) A.in1 (rule "list.extend.makes-room" >>= fun _=>Builtin.List.listTouch (.ref s.heap.objs.size) >>= fun _=>again (.builtin "list.extend.loop" ⟨[.ref s.heap.objs.size,.ref it,.ref s.heap.objs.size],[]⟩))
    (fun fin s'=>match fin with | .done f=>R (.ok f) s' | .again c'=>c'.quiet=true/\codeAny (model prog w) A c' R s') (fun e s'=>R (.error e) s') s2:=by
  intro it fp P St L s2 W hP hL hst hnf hit kp eg eo;have hLl:L.length=es.size:=by rw[hL.length_eq];simp
  refine UV W hst hnf hz (kp _ _ gS) fun s' acc c hm hS' hacc=>?_;rw[<- hLl] at hacc;have eL:acc.toList=L:=YN hP hacc;obtain⟨h',g',d',tk',os'⟩:=s';have eg':g'=s.gens:=hm.gens.symm.trans eg;have eo':os'=s.os:=hm.os.trans eo;subst eg';subst eo';refine hR h' d' tk' acc c (fun c q e=>hm.heap c q (fun z=>?_) (kp c q (aKh _ e))) hS' (by rw[eL];exact hL);simp only[aKi,aMb,or_false] at z;rcases z with rfl | rfl
  ·exact absurd (aKx e) (aMi _)
  ·exact absurd (aMm (aKx e) hit) (aMi _)
 have hh1:A.in1.handled=none:=by simpa using hh
 refine wpAny_bind (aFk ho1 hex hd hf hz (fun hb=>?_) fun hb pl d hp=>?_)
 ·refine wpAny_bind (wpAny_holding (IH (s:={ s with heap:=(s.heap.push cC).push _ }) ⟨o,aKh _ ho1,hex.1⟩ ?_))
  rw[if_pos (by decide)];have hia:(s.heap.push cC).objs.size≠a:=by rw[sz1];exact aMn (aMk hlt)
  have hc:bG w=true\/(bG w=false/\dr es t=false/\t.led=true/\dB t.place):=by
   cases hx:bG w with
   | true=>exact .inl rfl
   | false=>
    rw[hx] at hb;refine .inr ⟨rfl,by simpa using hb,?_,ht.2⟩;have:=ht.1;rw[hx] at this;exact this
  refine rest _ (wA (it:=(s.heap.push cC).objs.size) hh1 hia hc hd hf) (fun i v=>Iff.rfl) (zK w a ep es) ⟨aKh _ ho1,?_⟩ ?_ ?_ (fun c q e=>aKh _ e) rfl rfl
  ·have z:eJ (bG w) t 0=0:=by unfold eJ mG;split<;>rfl
   rw[z];exact aKu _ rfl
  ·rw[sz1]
   simp only[aKi,aMb,or_false,not_or];exact⟨aMo (aMl _),aMn hlt⟩
  ·rw[sz1];exact aMl _
 ·refine wpAny_bind (wpAny_holding (IH (s:={ s with heap:=((s.heap.push cC).push _).push _,drawn:=d }) ⟨o,aKh _ (aKh _ ho1),hex.1⟩ ?_))
  rw[if_pos (by decide)];have hia:(s.heap.push cC).objs.size+1≠a:=by rw[sz1];exact aMn (aMk (aMk hlt))
  have hiT:(s.heap.push cC).objs.size+1≠(s.heap.push cC).objs.size:=aMn (aMl _);refine rest _ (wB (it:=(s.heap.push cC).objs.size+1) hh1 hia hiT hp hd hf) (fun i v=>Iff.rfl) (UP hp) ⟨aKh _ (aKh _ ho1),?_,aKh _ (aKu _ rfl)⟩ ?_ ?_ (fun c q e=>aKh _ (aKh _ e)) rfl rfl
  ·have z:=aKu ((s.heap.push cC).push { cls:=.type "tuple",data:=.seq (pl.map fun (i:Nat)=>rawInt i).toArray }) (o:=sIt (.ref (s.heap.push cC).objs.size) 0 a es.size ep) rfl
   have e2:((s.heap.push cC).push { cls:=.type "tuple",data:=.seq (pl.map fun (i:Nat)=>rawInt i).toArray }).objs.size=(s.heap.push cC).objs.size+1:=aKy ..;rw[e2] at z;exact z
  ·rw[sz1]
   simp only[aKi,aMb,or_false,not_or];exact⟨aMo (by lia),aMn hlt,aMo (aMl _)⟩
  ·rw[sz1];exact aMk (aMl _)
theorem SC {Q:List Value->Shared->Prop}(hh:A.handled=none) (ho:s.heap.get? a=some o) (hex:o.ExactSet) (hd:o.data=.set es ep t) (hf:t.fits es.size=true) (hz:es.size<=sizeLine) (ht:Tab (!bG w) t)
  (hQ:∀ h' d tk acc,(∀ c q,s.heap.get? c=some q->h'.get? c=some q)->acc.Perm (es.toList.map (·.2))->Q acc { s with heap:=h',drawn:=d,toks:=tk }):wpAny (model prog w) A (collect (.ref a)) Q E s:=by
 unfold collect;refine wpAny_bind (wpAny_runValue (RZ hh ho hex hd hf hz ht fun h' d tk acc c kp g hp=>?_));show wpAny _ A (load s.heap.objs.size >>= _) _ _ _;exact wpAny_bind (wpAny_load g (wpAny_pure (hQ h' d tk acc.toList kp hp)))
end
end G
namespace G
open PySem PyProof.Rows
theorem HL {es:List (Int × Value)}{prog:Program}{w:World}(hel:ElemsOf (intKind prog w) es):∀ vs:List Value,(∀ v∈vs,v∈es.map (·.2))->IntsAre vs (vs.map iv)
 | [],_=>.nil
 | v::vs,h=>by
  obtain⟨e,he,rfl⟩:=aM5.mp (h v aKa);obtain⟨⟨m,hm,_⟩,_⟩:=hel e he;obtain⟨tk,q⟩:=Value.isInt_shape hm;rw[aLv,q];exact .cons m tk (HL hel vs fun v hv=>h v (aK9 _ hv))
section
variable {prog:Program}{w:World}{A:Around}{E:Value->Shared->Prop}{s:Shared}{a:Addr}{ks:List Int}
theorem aFn {Q:Value->Shared->Prop}(hh:A.handled=none) (S:IS prog w s.heap a (!bG w) ks) (h64:ks.length<64)
  (hQ:∀ h' d tk l out ns' c,(∀ c q,s.heap.get? c=some q->h'.get? c=some q)->h'.get? l=some (seqObj "list" out c)->IntsAre out.toList ns'->ns'.Perm ks->ns'.Pairwise (·<=·)->Q (.ref l) { s with heap:=h',drawn:=d,toks:=tk }):
  wpAny (model prog w) A (call (.builtin "sorted") [.ref a]) Q E s:=by
 obtain⟨o,es,ep,t,ho,hex,hd,hel,hp,hb,hf,ht⟩:=S;have hn:es.size=ks.length:=by rw[<- hp.length_eq,aLo,aKm]
 have hh1:A.in1.handled=none:=by simpa using hh
 refine Calls.call_function_entry kind_sorted plain_sorted entry_sorted (args_sorted1 _) ?_;unfold Builtin.«sorted»;refine wpAny_bind (m:=checkCount "sorted" 1 1 _) (wpAny_pure ?_);refine wpAny_bind (SC hh1 ho hex hd hf (fits_of_scanBound hb) ht fun h' d tk acc kp pa=>?_);have hI:IntsAre acc (acc.map iv):=HL hel acc fun v hv=>pa.mem_iff.mp hv;have pk:(acc.map iv).Perm ks:=by
  refine (pa.map iv).trans ?_;rw[aLw];exact hp
 have hal:acc.length<64:=by rw[<- List.length_map (f:=iv),pk.length_eq];exact h64
 refine wpAny_bind (wpAny_newList ?_ (by rw[sizeLine_eq];lia));have gL:(h'.push (seqObj "list" acc.toArray 0)).get? h'.objs.size=some (seqObj "list" acc.toArray 0):=aKu _ rfl;refine wpAny_bind (wpAny_holding (wpAny_call_entry slot_list_sort ⟨_,gL,rfl⟩ entry_list_sort (list_sort_tree gL hI hal fun out ns' a1 a2 a3=>⟨_,rfl,?_⟩) (args_list_sort _)));obtain⟨c,hc⟩:=sortedHeap_at (out:=out) gL;refine wpAny_pure ⟨_,rfl,hQ _ d tk _ out ns' c (fun c q e=>?_) hc a1 (a2.trans pk) a3⟩;have hlt:c<h'.objs.size:=aKx (kp c q e);rw[sortedHeap_old (aMo hlt) (by rw[aKy];exact aMk hlt)];exact aKh _ (kp c q e)
theorem aEs:typeLookup (.type "list_reverseiterator") "__length_hint__" = pure (some (.builtin "list_reverseiterator.__length_hint__")):=by rw[typeLookup_type,builtinLookup_eq_fast];kernel_rfl
theorem aEu:typeLookup (.type "list_reverseiterator") "__len__" = pure none:=by rw[typeLookup_type,builtinLookup_eq_fast];kernel_rfl
theorem aEx {Q:Bool->Shared->Prop}(hT:s.TypeIs (.ref a) "list_reverseiterator") (h:Q false s):wpAny (model prog w) A (Builtin.List.listLengthHint (.ref a)) Q E s:=by
 unfold Builtin.List.listLengthHint;refine wpAny_bind (wpAny_specialOf hT aEu ?_);show wpAny _ A (specialOf (Value.ref a) (Str.ofString "__length_hint__") >>= _) _ _ _;refine wpAny_bind (wpAny_specialOf hT aEs ?_);generalize hid:("list_reverseiterator.__length_hint__" : String)=id0;have hsp:splitId id0=some ("list_reverseiterator","__length_hint__"):=by subst hid;decide +kernel
 dsimp only;rw[hsp];subst hid;dsimp only;refine wpAny_bind (wpAny_isInstance (b:=true) hT (by rw[isSubtype_type];kernel_rfl) ?_);rw[if_neg (by decide),if_pos (by decide +kernel),if_neg (by decide)];exact wpAny_pure h
theorem YO {items acc:Array Value}(h:ItemsOf (fun i v=>items[items.size-1-i]?=some v) acc items.size):acc=items.reverse:=by
 apply Array.ext
 ·rw[h.1,Array.size_reverse]
 ·intro i h1 h2
  have q:=h.2 i _ (aKj h1);rw[Array.getElem_reverse];exact ((Array.getElem?_eq_some_iff.mp q).2).symm
theorem XR {R:Result->Shared->Prop}{l it S:Addr}{items:Array Value}(hh:A.handled=none) (hl:s.heap.IsList l items) (hit:s.heap.IsRevIter it l ((items.size:Int)-1)) (hz:items.size<=sizeLine) (hlit:l≠it) (hSi:S≠it) (hSl:S≠l)
  (hS:s.heap.get? S=some { cls:=.type "list",data:=.seq #[] })
  (hR:∀ h' tk c,(∀ c q,s.heap.get? c=some q->c≠S->c≠it->h'.get? c=some q)->h'.get? S=some { cls:=.type "list",dict:=none,data:=.seq items.reverse c,slots:=#[] }->R (.ok (.ret .none)) { s with heap:=h',toks:=tk }):
  wpAny (model prog w) A.in1 (Builtin.«list.__init__» ⟨[.ref S,.ref it],[]⟩)
   (fun fin s'=>match fin with | .done f=>R (.ok f) s' | .again c'=>c'.quiet=true/\codeAny (model prog w) A c' R s') (fun e s'=>R (.error e) s') s:=by
 have hh1:A.in1.handled=none:=by simpa using hh
 show wpAny _ _ (do let old <- Builtin.List.listItems (.ref S);Builtin.List.listUpdate (.ref S) (fun _=>#[]);letGo old.toList.reverse;Builtin.List.listExtendWith (.ref S) (.ref it) .none) _ _ s;refine wpAny_bind (listItems_at hS rfl ?_);refine wpAny_bind (listUpdate_at hS rfl ?_);have g2:=Heap.get?_update_self (Obj.mapSeq (fun _=>(#[]:Array Value))) hS rfl;have oth:∀ c q,c≠S->s.heap.get? c=some q->(s.heap.update S (Obj.mapSeq (fun _=>(#[]:Array Value)))).get? c=some q:=fun c q hc e=>(Heap.get?_update_other _ _ (Ne.symm hc)).trans e;refine wpAny_bind (wpAny_letGo ?_);have l2:(s.heap.update S (Obj.mapSeq (fun _=>(#[]:Array Value)))).IsList l items:=hl.at fun q e=>oth _ q (Ne.symm hSl) e;have i2:(s.heap.update S (Obj.mapSeq (fun _=>(#[]:Array Value)))).IsRevIter it l ((items.size:Int)-1):=hit.at fun q e=>oth _ q (Ne.symm hSi) e;generalize s.heap.update S (Obj.mapSeq (fun _=>(#[]:Array Value)))=h2 at g2 oth l2 i2;unfold Builtin.List.listExtendWith;have hT:Shared.TypeIs { s with heap:=h2 } (.ref it) "list_reverseiterator" := let ⟨o,ho,hc,_⟩:=i2;⟨o,ho,hc⟩;refine wpAny_bind (wpAny_typeOf hT ?_);have e1:Builtin.List.listSameRef (.ref S) (.ref it)=false:=by simp[Builtin.List.listSameRef,hSi]
 rw[if_neg (by rw[e1];decide)];refine wpAny_bind (wpAny_pyIter_revIter (s:={ s with heap:=h2 }) i2 ?_);refine wpAny_bind (wpAny_holding (aEx hT ?_));rw[if_neg (by decide)];have W:=(Walks.listRev (prog:=prog) (w:=w) hh1 it l hlit items).toS;refine wpAny_pure ⟨plainId_quiet F.plain_extend_loop _,codeAny_extend_loopS W hz S (by simp[hSi,hSl]) .none items.size 0 _ #[] _ rfl (aMx _) ⟨aMx _,by simpa using i2,l2⟩ g2 (ItemsOf.nil _) fun s' acc c hm hS' hacc=>?_⟩;rw[YO hacc] at hS';rw[Moved.eq_with hm];refine hR s'.heap s'.toks c (fun c q e h1 h2=>hm.heap c q ?_ (oth c q h1 e)) hS';simp[h1,h2]
theorem aEt {l it:Addr}{items:Array Value}{Q:Value->Shared->Prop}(hh:A.handled=none) (hl:s.heap.IsList l items) (hit:s.heap.IsRevIter it l ((items.size:Int)-1)) (hz:items.size<=sizeLine)
  (hQ:∀ h' tk c,(∀ c q,s.heap.get? c=some q->c≠it->h'.get? c=some q)->h'.get? s.heap.objs.size=some { cls:=.type "list",dict:=none,data:=.seq items.reverse c,slots:=#[] }->Q (.ref s.heap.objs.size) { s with heap:=h',toks:=tk }):
  wpAny (model prog w) A (call (.type "list") [.ref it]) Q E s:=by
 have hlit:l≠it:=by
  obtain⟨o1,e1,c1,_⟩:=hl;obtain⟨o2,e2,c2,_⟩:=hit;intro z;subst z;rw[e1] at e2;cases e2;rw[c1] at c2;simp at c2
 refine callType_codes (Q₁:=fun obj s1=>obj=.ref s.heap.objs.size/\s1={ s with heap:=s.heap.push { cls:=.type "list",data:=.seq #[] } }) F.called_list (F.typeCall_list_1 _) F.entry_list_init (code_list_new _ ⟨rfl,rfl⟩) fun obj s1 h1=>?_;obtain⟨rfl,rfl⟩:=h1;have gS:(s.heap.push { cls:=.type "list",data:=.seq #[] }).get? s.heap.objs.size=some { cls:=.type "list",data:=.seq #[] }:=aKu _ rfl;refine⟨⟨_,gS,rfl⟩,F.args_list_init_2 _ _,?_⟩;have ls:l<s.heap.objs.size:=let ⟨_,e,_⟩:=hl;aKx e;have is:it<s.heap.objs.size:=let ⟨_,e,_⟩:=hit;aKx e;refine XR (A:=A.in1) (by simpa using hh) (hl.push _) (hit.at fun q e=>aKh _ e) hz hlit (aMn is) (aMn ls) gS fun h' tk c kp g=>?_;exact⟨rfl,hQ h' tk c (fun c q e ne=>kp c q (aKh _ e) (aMo (aKx e)) ne) g⟩
end
end G
namespace G
open PySem PySem.Spec PyProof.Rows L2
section
variable {X:Cx}{pins:List (Addr × Obj)}{σ:St}{H:Hp}{s:Shared}{h':Heap}
theorem YF {t':Nat}{d':Drawn}(I:Inv X pins σ H s) (k:∀ b o,s.heap.get? b=some o->h'.get? b=some o):Inv X pins σ H { s with heap:=h',drawn:=d',toks:=t' }:=by
 refine I.step (g':=s.gens) (d':=d') (ch:=[]) (fun b hb=>by cases hb) (fun b o _ _ _ e _=>k b o e) (fun b o _ _ _ e _=>⟨o.slots,k b o e⟩)
  (fun _ _ _ _ n=>n) (fun b o _ e=>⟨o,k b o e⟩) (fun _ _ e=>e) (fun _ _ _ e=>e) (fun b ps e=>⟨#[],by rw[e];simp⟩) (fun m hm=>?_) (I.hok.kept k) I.bare
 obtain⟨o,es,ep,ho,r⟩:=hm;exact⟨o,es,ep,k _ o ho,r⟩
end
section
variable {X:Cx}{B:Hp}{fl:List Nat}{e:Expr}{f:Rho->Option T}{n:Bool}{l:Nat}{p1 p2 p3 p4 q1 q2 q3 q4:Pos}
def aG6 (K:PySem.W.Frag) (te:TE):TE:=fun σ H Q=>te σ H fun v H1=>∃ (a:Addr) (ns:List Int),v=.ref a/\SqL K H1 a (ns.map V.int)/\ns.length<64/\∀ q,H1 q=none->Q (.ref q) (upd H1 q (.lst ((fD (met ns)).map V.int)))
theorem YD {its:List Value}{ns:List Int}(h:IntsAre its ns):IntsAre its.reverse ns.reverse:=by
 refine BI ?_;have:=(vU h);rw[List.map_reverse];exact this.reverse
theorem aCx {te:TE}(hc:X.calm=true) (hgl:Gl X "list") (hml:X.mg "list" = none) (hgr:Gl X "reversed") (hmr:X.mg "reversed" = none) (hgs:Gl X "sorted") (hms:X.mg "sorted" = none) (hgt:Gl X "set") (hmt:X.mg "set" = none) (ha:PE X e te)
  (h4:starEach [e] X.env=[(false,eval e X.env)]:=by rfl) (h3:starEach [Expr.Call (.Name "set" p4) [e] [] q4] X.env=[(false,eval (.Call (.Name "set" p4) [e] [] q4) X.env)]:=by rfl)
  (h2:starEach [Expr.Call (.Name "sorted" p3) [.Call (.Name "set" p4) [e] [] q4] [] q3] X.env=[(false,eval (.Call (.Name "sorted" p3) [.Call (.Name "set" p4) [e] [] q4] [] q3) X.env)]:=by rfl)
  (h1:starEach [Expr.Call (.Name "reversed" p2) [.Call (.Name "sorted" p3) [.Call (.Name "set" p4) [e] [] q4] [] q3] [] q2] X.env=[(false,eval (.Call (.Name "reversed" p2) [.Call (.Name "sorted" p3) [.Call (.Name "set" p4) [e] [] q4] [] q3] [] q2) X.env)]:=by rfl):
  PE X (.Call (.Name "list" p1) [.Call (.Name "reversed" p2) [.Call (.Name "sorted" p3) [.Call (.Name "set" p4) [e] [] q4] [] q3] [] q2] [] q1) (aG6 X.K te):=by
 intro pins s σ H Q I h;refine wpAny_Call_Name_kw (eH I hgl hml PyProof.Rows.boot_list ?_ (by decide) (by decide));refine aN3 ?_ h1 rfl;rw[h1];show wpAny _ _ (spliced ((false,eval _ X.env)::[])) _ _ s;refine Calls.spliced_cons ?_;refine Call_ (eH I hgr hmr PyProof.Rows.boot_reversed (aN3 ?_ h2 rfl));rw[h2];show wpAny _ _ (spliced ((false,eval _ X.env)::[])) _ _ s;refine Calls.spliced_cons ?_;refine Call_ (eH I hgs hms PyProof.Rows.boot_sorted (PyProof.Rows.callWith_builtin1 ?_ h3 rfl));rw[h3];show wpAny _ _ (spliced ((false,eval _ X.env)::[])) _ _ s;refine Calls.spliced_cons ?_;refine Call_ (eH I hgt hmt PyProof.Rows.boot_set (aN3 ?_ h4 rfl));rw[h4];show wpAny _ _ (spliced ((false,eval e X.env)::[])) _ _ s;refine Calls.spliced_cons (thn (ha pins s σ H _ I h) fun u s1 ⟨x,H1,I1,r1,z1⟩=>Calls.spliced_nil ?_);obtain⟨a,ns,rfl,hS,h64,q⟩:=z1;cases r1;obtain⟨its,rv,pl,hz⟩:=I1.list hS;have hi:=BI rv;have hl:its.length=ns.length:=IntsAre.length hi;have hh:=I.ok.hd hc;refine YK (prog:=X.prog) (w:=X.w) hh pl.isList (by simpa using hi) (by simp[hl,scanBound];lia) fun g tk S kp=>Calls.spliced_nil ?_;have I2:Inv X pins σ H1 { s1 with heap:=g,toks:=tk }:=I1.kept fun b o e=>kp b o (aKx e) e;have hm:(met ns).length<64:=aMj (BO ns) h64;refine aFn (s:={ s1 with heap:=g,toks:=tk }) hh S hm fun g' d tk' lo out ns' c kp' gl i1 i2 i3=>Calls.spliced_nil ?_;have I3:Inv X pins σ H1 { s1 with heap:=g',drawn:=d,toks:=tk' }:=YF (s:={ s1 with heap:=g,toks:=tk }) I2 kp';have hL:g'.IsList lo out:=⟨_,gl,rfl,_,rfl⟩;have hol:out.size=(met ns).length:=by rw[<- i2.length_eq,<- IntsAre.length i1,aKm]
 refine call_reversed_list (s:={ s1 with heap:=g',drawn:=d,toks:=tk' }) hL (Calls.spliced_nil ?_);refine aEt (s:={ s1 with heap:=g'.push (revObj lo ((out.size:Int)-1)),drawn:=d,toks:=tk' }) (it:=g'.objs.size) hh (hL.push _) ⟨_,aKu _ rfl,rfl,rfl⟩ (by rw[hol,sizeLine_eq];lia) fun g2 tk2 c2 kp2 gl2=>?_;have sz:(g'.push (revObj lo ((out.size:Int)-1))).objs.size=g'.objs.size+1:=aKy ..;have e1:ns'.reverse=fD (met ns):=by
  refine EX _ _ ((List.reverse_perm ns').trans (i2.trans (rF _).symm)) ?_ (DC _);rw[List.pairwise_reverse];exact i3
 have i4:IntsAre out.reverse.toList (fD (met ns)):=by rw[<- e1,Array.toList_reverse];exact YD i1
 refine⟨.ref _,_,I3.laid (t':=tk2) (o:=.lst ((fD (met ns)).map V.int)) (fun b o e=>kp2 b o (aKh _ e) (aMo (aKx e))) (by rw[sz];exact Nat.le_succ _) ⟨?_,out.reverse.toList,c2,vU i4,by rw[Array.toArray_toList];exact gl2⟩,rfl,q _ (I3.hok.fresh (by rw[sz];exact Nat.le_succ _))⟩;rw[aLo,(rF _).length_eq,sizeLine_eq];lia
def sN:T->Option T
 | .lst ts=>(cV ts).bind fun ns=>if ns.length<64 then some (.lst (tI (fD (met ns)))) else none
 | _=>none
theorem aAq {ns:List Int}(h:ns.length<64):sN (.lst (tI ns))=some (.lst (tI (fD (met ns)))):=by simp[sN,pY,h]
theorem VR {x1 x2 x3 x4:Str}(hx1:x1 = "list") (hx2:x2 = "reversed") (hx3:x3 = "sorted") (hx4:x4 = "set") (hc:X.calm=true) (hgl:Gl X x1) (hml:X.mg x1=none) (hgr:Gl X x2) (hmr:X.mg x2=none) (hgs:Gl X x3) (hms:X.mg x3=none) (hgt:Gl X x4) (hmt:X.mg x4=none) (ha:GE X B fl e f n l)
  (h4:starEach [e] X.env=[(false,eval e X.env)]:=by rfl) (h3:starEach [Expr.Call (.Name x4 p4) [e] [] q4] X.env=[(false,eval (.Call (.Name x4 p4) [e] [] q4) X.env)]:=by rfl)
  (h2:starEach [Expr.Call (.Name x3 p3) [.Call (.Name x4 p4) [e] [] q4] [] q3] X.env=[(false,eval (.Call (.Name x3 p3) [.Call (.Name x4 p4) [e] [] q4] [] q3) X.env)]:=by rfl)
  (h1:starEach [Expr.Call (.Name x2 p2) [.Call (.Name x3 p3) [.Call (.Name x4 p4) [e] [] q4] [] q3] [] q2] X.env=[(false,eval (.Call (.Name x2 p2) [.Call (.Name x3 p3) [.Call (.Name x4 p4) [e] [] q4] [] q3] [] q2) X.env)]:=by rfl):
  GE X B fl (.Call (.Name x1 p1) [.Call (.Name x2 p2) [.Call (.Name x3 p3) [.Call (.Name x4 p4) [e] [] q4] [] q3] [] q2] [] q1) (f1 f sN) true 3:=by
 subst hx1 hx2 hx3 hx4;refine bD (aCx (te:=tG X.K B fl f n l) hc hgl hml hgr hmr hgs hms hgt hmt ha h4 h3 h2 h1) ?_;rintro σ H Q ⟨Ex,ρ,M,t,S,hf,q⟩;obtain⟨u,hu,hf⟩:=bind_some hf;refine⟨Ex,ρ,M,u,S,hu,fun v H1 s1 r1=>?_⟩;cases u with
 | lst us=>
  have hf:((cV us).bind fun ns=>if ns.length<64 then some (T.lst (tI (fD (met ns)))) else none)=some t:=hf;obtain⟨ns,hns,hf⟩:=bind_some hf;split at hf
  ·rename_i h64
   cases (aK6 hf);cases pX hns;obtain⟨a,xs,rfl,k1,k2⟩:=(r1.rep S).sqL;cases qR k2;exact⟨a,ns,rfl,k1,h64,fun p' hp=>q _ _ (s1.trans (cL hp _)) (aL.laid s1 hp (CO _))⟩
  ·cases hf
 | non=>cases hf
 | bl _=>cases hf
 | int _=>cases hf
 | str _=>cases hf
 | tup _=>cases hf
 | exc _=>cases hf
end
def aEi (i:Nat) (r:Rho->Option Out):Rho->Option Out:=fun ρ=>(r (ρ.set i none)).bind fun o=>match o with | .nx ρ'=>(aA i ρ').bind fun t=>if sG t then some (.nx ρ') else none | .rt t=>some (.rt t) | _=>none
@[simp] theorem rScp_at (i:Nat) (r:Rho->Option Out) (ρ:Rho):aEi i r ρ=(r (ρ.set i none)).bind fun o=>match o with | .nx ρ'=>(aA i ρ').bind fun t=>if sG t then some (.nx ρ') else none | .rt t=>some (.rt t) | _=>none:=id rfl
end G
namespace G
open PySem PySem.Calls PyProof.Rows
def dL {α:Type} (ask:Nat->Nat->Bool):PySem.W.KasT α->α
 | .ret a=>a
 | .ask i j k=>dL ask (k (ask i j))
def eW {α:Type} (n:Nat) (ask:Nat->Nat->Bool):PySem.W.KasT α->Bool
 | .ret _=>true
 | .ask i j k=>decide (i<n)&&decide (j<n)&&eW n ask (k (ask i j))
theorem IC {α:Type}{cmp:Nat->Nat->(Bool->Shared->Prop)->Shared->Prop}{Q:α->Shared->Prop}{n:Nat}{ask:Nat->Nat->Bool}{s:Shared}(hc:∀ i j (C:Bool->Shared->Prop),i<n->j<n->C (ask i j) s->cmp i j C s):
  ∀ t:PySem.W.KasT α,eW n ask t=true->Q (dL ask t) s->t.kasWp cmp Q s
 | .ret a,_,h=>h
 | .ask i j k,ho,h=>by
  have ho:(decide (i<n)&&decide (j<n)&&eW n ask (k (ask i j)))=true:=ho;simp only[aKn,decide_eq_true_eq] at ho;exact hc i j _ ho.1.1 ho.1.2 (IC hc (k (ask i j)) ho.2 h)
section
variable {prog:Program}{w:World}{A:Around}{E:Value->Shared->Prop}{s:Shared}
theorem SA {R:Result->Shared->Prop}{r:Addr}{a b c:Int}{t u v:Tok}{n:Nat}(hh:A.handled=none) (hr:IsRange s.heap r a b c t u v) (hsmall:Builtin.Range.small a b c=true)
  (hn:Builtin.Range.rangeSize a b c=n) (hlen:n<=2^24)
  (hR:∀ h' tk acc c',(∀ b o,s.heap.get? b=some o->h'.get? b=some o)->h'.get? s.heap.objs.size=some { cls:=.type "list",dict:=none,data:=.seq acc c',slots:=#[] }->ItemsOf (fun i v=>∃ t,v=.int (a+i*c) t) acc n ->
   R (.ok (.ret (.ref s.heap.objs.size))) { s with heap:=h',toks:=tk }):codeAny (model prog w) A (.builtin "proto.collect" ⟨[.ref r],[]⟩) R s:=by
 refine codeAny_builtin F.entry_proto_collect ?_;rw[Around.under_plainId F.plain_proto_collect _];refine wpAny_bind (wpAny_newObj_type ?_);refine wpAny_pure ⟨plainId_quiet F.plain_list_iadd _,codeAny_builtin F.entry_list_iadd ?_⟩;rw[Around.under_plainId F.plain_list_iadd _];have gS:(s.heap.push cC).get? s.heap.objs.size=some cC:=aKu _ rfl;show wpAny _ A.in1 (Builtin.List.listExtendWith (.ref s.heap.objs.size) (.ref r) (.ref s.heap.objs.size)) _ _ _;refine wpAny_extend_range (by simpa using hh) (aKh _ hr) hsmall hn hlen _ (.ref _) _ gS fun h' tk acc c' kp g hi=>?_;exact hR h' tk acc c' (fun b o e=>kp b o (aMo (aKx e)) (aKh _ e)) g hi
theorem SB {Q:List Value->Shared->Prop}{r:Addr}{a b c:Int}{t u v:Tok}{n:Nat}(hh:A.handled=none) (hr:IsRange s.heap r a b c t u v) (hsmall:Builtin.Range.small a b c=true)
  (hn:Builtin.Range.rangeSize a b c=n) (hlen:n<=2^24)
  (hQ:∀ h' tk acc,s.heap.objs.size<h'.objs.size->(∀ b o,s.heap.get? b=some o->h'.get? b=some o)->ItemsOf (fun i v=>∃ t,v=.int (a+i*c) t) acc n->Q acc.toList { s with heap:=h',toks:=tk }):wpAny (model prog w) A (collect (.ref r)) Q E s:=by
 unfold collect;refine wpAny_bind (wpAny_runValue (SA hh hr hsmall hn hlen fun h' tk acc c kp g hp=>?_));show wpAny _ A (load s.heap.objs.size >>= _) _ _ _;exact wpAny_bind (wpAny_load g (wpAny_pure (hQ h' tk acc (aKx g) kp hp)))
theorem MB {st:SortSt}{a kS:Addr}{ks out:List Value}{e e1:Nat}{P:PySem.Fin->Shared->Prop}(hk:s.heap.get? kS=some (seqObj "list" (List.toArray ks) e)) (ha:s.heap.get? a=some (seqObj "list" #[] e1)) (hne:kS≠a)
  (hout:(arrOf st).map (·.2)=List.toArray out) (hz:out.length<64) (hkz:ks.length<64) (hf:failedOf st=none)
  (h:∀ h' c,(∀ b o,b≠kS->b≠a->s.heap.get? b=some o->h'.get? b=some o)->h'.get? a=some (seqObj "list" out.toArray c)->P (.done (.ret .none)) { s with heap:=h' }):wpAny (model prog w) A (PyProof.Rows.ksk_tail a false e1 (.ref kS) st) P E s:=by
 have s1:=Heap.SameBut.update s.heap kS (Obj.mapSeq fun _=>(#[]:Array Value));have na1:(s.heap.update kS (Obj.mapSeq fun _=>(#[]:Array Value))).get? a=some (seqObj "list" #[] e1):=(s1.2 a hne.symm).trans ha;have s2:=Heap.SameBut.update (s.heap.update kS (Obj.mapSeq fun _=>(#[]:Array Value))) a (Obj.mapSeq fun _=>List.toArray out);obtain⟨c2,hc2⟩:∃ c2,((s.heap.update kS (Obj.mapSeq fun _=>(#[]:Array Value))).update a (Obj.mapSeq fun _=>List.toArray out)).get? a=some (seqObj "list" (List.toArray out) c2):=⟨_,get?_update_seq na1 fun _=>List.toArray out⟩;unfold PyProof.Rows.ksk_tail;dsimp only;rw[hout];simp only[aKq,if_false];refine wpAny_bind (listUpdate_at hk rfl ?_ (by rw[aKf,sizeLine_eq];lia) (aMx _));refine wpAny_bind (wpAny_letGo ?_);refine wpAny_bind (seqEpoch_at na1 rfl ?_);refine wpAny_bind (listUpdate_at na1 rfl ?_ (aMx _) (aMh (Nat.le_of_eq (aKf ..)) (by rw[sizeLine_eq];lia)));rw[hf];simp only[bne_self_eq_false,aKq,if_false];exact wpAny_pure (h _ c2 (fun b o h1 h2 q=>(s2.2 b h2).trans ((s1.2 b h1).trans q)) hc2)
structure Keys (prog:Program) (w:World) (A:Around) (KA:Addr->Heap->Nat->Value->Prop) (a:Addr) (n:Nat) (ask:Nat->Nat->Bool):Prop where
 stab:∀ kS (h h':Heap) j k,KA kS h j k->(∀ b o,b≠kS->b≠a->h.get? b=some o->h'.get? b=some o)->KA kS h' j k
 cmp:∀ kS (s:Shared) (ks:List Value),ks.length=n->2<=n->(∀ j k,ks[j]?=some k->KA kS s.heap j k)->∃ κ,(∀ Q:SortKind->Shared->Prop,Q κ s->wpAny (model prog w) A (keyKind' (List.toArray ks)) Q (fun _ _=>False) s) /\
  ∀ i j (C:Bool->Shared->Prop),i<n->j<n->C (ask i j) s->wpAny (model prog w) A (keyLt' κ (ks.getD i .none) (ks.getD j .none)) C (fun _ _=>False) s
theorem aFq {KA:Addr->Heap->Nat->Value->Prop}{a kS:Addr}{n:Nat}{ask:Nat->Nat->Bool}{ks vs:List Value}{e e1:Nat}{P:PySem.Fin->Shared->Prop}(Ky:Keys prog w A KA a n ask) (hk:s.heap.get? kS=some (seqObj "list" (List.toArray ks) e)) (ha:s.heap.get? a=some (seqObj "list" #[] e1)) (hne:kS≠a)
  (hlk:ks.length=n) (hlv:vs.length=n) (h64:n<64) (hK:∀ j k,ks[j]?=some k->KA kS s.heap j k) (hok:eW n ask (PySem.W.kas_sort n)=true\/n<2)
  (h:∀ h' c,(∀ b o,b≠kS->b≠a->s.heap.get? b=some o->h'.get? b=some o)->h'.get? a=some (seqObj "list" (List.toArray (if n<2 then vs else (dL ask (PySem.W.kas_sort n)).toList.map fun i=>vs.getD i Value.none)) c)->P (.done (.ret .none)) { s with heap:=h' }):
  wpAny (model prog w) A (PyProof.Rows.ksk_end a false vs.toArray e1 (.ref kS) (List.toArray ks)) P E s:=by
 have hl:ks.length=vs.length:=by lia
 unfold PyProof.Rows.ksk_end;dsimp only;simp only[aKq,if_false]
 by_cases h2:n<2
 ·rw[if_pos h2] at h
  have h2':vs.toArray.size<2:=by rw[aKf];lia
  rw[if_pos h2',if_pos h2'];refine wpAny_bind (wpAny_pure ?_);rw[StateT.run_pure];refine wpAny_bind (wpAny_pure ?_)
  try dsimp only
  refine MB (st:=SortSt.mk' general' ((List.toArray ks).zip vs.toArray) #[] 7 none) (out:=vs) hk ha hne ?_ (by lia) (by lia) rfl h;show ((List.toArray ks).zip vs.toArray).map (·.2)=vs.toArray
  apply Array.toList_inj.mp
  rw[Array.toList_map,ksk_zip];exact List.map_snd_zip (by simp[hl])
 ·rw[if_neg h2] at h
  have h2':¬ vs.toArray.size<2:=by rw[aKf];lia
  rw[if_neg h2',if_neg h2'];obtain⟨κ,k1,k2⟩:=Ky.cmp kS s ks hlk (by lia) hK;refine wpAny_bind (wpAny_mono (k1 (fun κ' s'=>κ'=κ/\s'=s) ⟨rfl,rfl⟩) (fun κ' s' hq=>?_) fun _ _ x=>x.elim);obtain⟨rfl,rfl⟩:=hq;have hok':eW n ask (PySem.W.kas_sort n)=true:=hok.resolve_right h2;have run:=PySem.W.kat_run (prog:=prog) (w:=w) (A:=A) (E:=E) (s:=s') (κ:=κ') (ks:=ks) (vs:=vs) (Q:=fun st' s''=>s''=s'/\failedOf st'=none/\arrOf st'=(dL ask (PySem.W.kas_sort n)).map (PySem.W.kas_item ((List.toArray ks).zip vs.toArray))/\(dL ask (PySem.W.kas_sort n)).size=n) (G:=fun p s''=>s''=s'/\p=dL ask (PySem.W.kas_sort n)) hl (by lia) (by lia)
   (fun p st' s'' e1 e2 e3 e4=>by obtain⟨rfl,rfl⟩:=e4;exact⟨rfl,e3,e2,by lia⟩) (by rw[hlv];exact IC (n:=n) (ask:=ask) (fun i j C hi hj hc=>k2 i j C hi hj hc) _ hok' ⟨rfl,rfl⟩)
  refine wpAny_bind (wpAny_mono run (fun r s'' hr=>?_) fun _ _ x=>x);obtain⟨⟨⟩,st'⟩:=r;obtain⟨rfl,hf,har,hsz⟩:=hr
  try dsimp only
  exact MB hk ha hne (PySem.W.kat_snds hl har) (by rw[aLo,aKm,hsz];exact h64) (by lia) hf h
theorem MA {KA:Addr->Heap->Nat->Value->Prop}{kS:Addr}{vs:List Value}{body:Value->PUnit->Sem (ForInStep PUnit)}(s:Shared) (K0:Heap->Prop)
  (hb:∀ j x ks (h:Heap) (tk e:Nat),vs[j]?=some x->ks.length=j->K0 h->h.get? kS=some (seqObj "list" (List.toArray ks) e)->(∀ j k,ks[j]?=some k->KA kS h j k) ->
   wpAny (model prog w) A (body x ⟨⟩) (fun r s'=>r=.yield ⟨⟩/\∃ h' tk' k e',s'={ s with heap:=h',toks:=tk' }/\K0 h'/\h'.get? kS=some (seqObj "list" (List.toArray (ks++[k])) e')/\∀ i k',(ks++[k])[i]?=some k'->KA kS h' i k') E { s with heap:=h,toks:=tk }):
  ∀ (r ks:List Value) (h:Heap) (tk e:Nat),vs=vs.take ks.length++r->ks.length+r.length=vs.length->K0 h->h.get? kS=some (seqObj "list" (List.toArray ks) e)->(∀ j k,ks[j]?=some k->KA kS h j k) ->
   wpAny (model prog w) A (forIn r PUnit.unit body) (fun _ s'=>∃ h' tk' ks' e',s'={ s with heap:=h',toks:=tk' }/\K0 h'/\h'.get? kS=some (seqObj "list" (List.toArray ks') e')/\ks'.length=vs.length/\∀ i k',ks'[i]?=some k'->KA kS h' i k') E { s with heap:=h,toks:=tk }
 | [],ks,h,tk,e,hv,hl,k0,hk,hK=>by
  rw[List.forIn_nil];exact wpAny_pure ⟨h,tk,ks,e,rfl,k0,hk,by simpa using hl,hK⟩
 | x::r,ks,h,tk,e,hv,hl,k0,hk,hK=>by
  rw[aLm] at hl;rw[List.forIn_cons];have hx:vs[ks.length]?=some x:=by
   rw[hv,List.getElem?_append_right (by rw[aLt];lia)];rw[aLt,Nat.min_eq_left (by lia)];simp
  refine wpAny_bind (wpAny_mono (hb ks.length x ks h tk e hx rfl k0 hk hK) (fun q s' hq=>?_) fun _ _ x=>x);obtain⟨rfl,h',tk',k,e',rfl,k0',hk',hK'⟩:=hq;show wpAny (model prog w) A (forIn r PUnit.unit body) _ E _;refine MA s K0 hb r (ks++[k]) h' tk' e' ?_ (by rw[aLl,List.length_singleton];lia) k0' hk' hK';have e2:vs.take (ks++[k]).length=vs.take ks.length++[x]:=by
   rw[aLl,List.length_singleton,List.take_succ,hx];rfl
  rw[e2,List.append_assoc];exact hv
theorem aFr {KA:Addr->Heap->Nat->Value->Prop}{a:Addr}{n m0:Nat}{ask:Nat->Nat->Bool}{f:Value}{vs:List Value}{P:PySem.Fin->Shared->Prop}(Ky:Keys prog w A KA a n ask) (ho:s.heap.get? a=some (seqObj "list" vs.toArray m0)) (hlv:vs.length=n) (h64:n<64)
  (hok:eW n ask (PySem.W.kas_sort n)=true\/n<2)
  (turn:∀ j x kS (h:Heap) (tk:Nat),vs[j]?=some x->s.heap.objs.size<=kS->kS<h.objs.size->(∀ b o,b≠a->s.heap.get? b=some o->h.get? b=some o) ->
   wpAny (model prog w) A (call f [x]) (fun k s'=>∃ h' tk',s'={ s with heap:=h',toks:=tk' }/\(∀ b o,h.get? b=some o->h'.get? b=some o)/\KA kS h' j k) (fun _ _=>False) { s with heap:=h,toks:=tk })
  (h:∀ h' tk c,(∀ b o,b≠a->s.heap.get? b=some o->h'.get? b=some o)->h'.get? a=some (seqObj "list" (List.toArray (if n<2 then vs else (dL ask (PySem.W.kas_sort n)).toList.map fun i=>vs.getD i Value.none)) c)->P (.done (.ret .none)) { s with heap:=h',toks:=tk }):
  wpAny (model prog w) A (PyProof.Rows.ksk_tree a f false) P E s:=by
 have hla:a<s.heap.objs.size:=aKx ho;have s1:=Heap.SameBut.update s.heap a (Obj.mapSeq fun _=>(#[]:Array Value));obtain⟨e1,ho1⟩:∃ e1,(s.heap.update a (Obj.mapSeq fun _=>(#[]:Array Value))).get? a=some (seqObj "list" #[] e1):=⟨_,get?_update_seq ho fun _=>#[]⟩;have hkS:((s.heap.update a (Obj.mapSeq fun _=>(#[]:Array Value))).push (seqObj "tuple" vs.toArray 0)).objs.size=s.heap.objs.size+1:=by rw[size_push',Heap.size_update]
 unfold PyProof.Rows.ksk_tree;refine wpAny_bind (listItems_at ho rfl ?_);refine wpAny_bind (listUpdate_at ho rfl ?_ (by rw[aKf,sizeLine_eq];lia) (aMx _));refine wpAny_bind (seqEpoch_at ho1 rfl ?_);refine wpAny_bind (wpAny_newTuple ?_ (by show vs.length<=_;rw[sizeLine_eq];lia));refine wpAny_bind (wpAny_newList ?_ (aMx _));refine wpAny_holding ?_;show wpAny _ _ (PyProof.Rows.ksk_rest a f false vs.toArray e1 (.ref ((s.heap.update a (Obj.mapSeq fun _=>(#[]:Array Value))).push (seqObj "tuple" vs.toArray 0)).objs.size)) P E { s with heap:=((s.heap.update a (Obj.mapSeq fun _=>(#[]:Array Value))).push (seqObj "tuple" vs.toArray 0)).push (seqObj "list" #[] 0) };have gk:(((s.heap.update a (Obj.mapSeq fun _=>(#[]:Array Value))).push (seqObj "tuple" vs.toArray 0)).push (seqObj "list" #[] 0)).get? (((s.heap.update a (Obj.mapSeq fun _=>(#[]:Array Value))).push (seqObj "tuple" vs.toArray 0)).objs.size)=some (seqObj "list" (List.toArray []) 0):=aKu _ rfl;have ga:(((s.heap.update a (Obj.mapSeq fun _=>(#[]:Array Value))).push (seqObj "tuple" vs.toArray 0)).push (seqObj "list" #[] 0)).get? a=some (seqObj "list" #[] e1):=aKh _ (aKh _ ho1);have old:∀ b o,b≠a->s.heap.get? b=some o->(((s.heap.update a (Obj.mapSeq fun _=>(#[]:Array Value))).push (seqObj "tuple" vs.toArray 0)).push (seqObj "list" #[] 0)).get? b=some o:=fun b o hb e=>aKh _ (aKh _ ((s1.2 b hb).trans e));rw[hkS] at gk ⊢;generalize ((s.heap.update a (Obj.mapSeq fun _=>(#[]:Array Value))).push (seqObj "tuple" vs.toArray 0)).push (seqObj "list" #[] 0)=h1 at gk ga old ⊢;have hne:s.heap.objs.size+1≠a:=aMn (aMk hla);unfold PyProof.Rows.ksk_rest;refine wpAny_bind (wpAny_rule ?_)
 first
  | rw[List.forIn_toArray]
  | (rw[<- Array.forIn_toList];simp only[List.toList_toArray])
  | rw[<- Array.forIn_toList]
 refine wpAny_bind (wpAny_mono (MA (KA:=KA) (kS:=s.heap.objs.size+1) (vs:=vs) s (fun h=>h.get? a=some (seqObj "list" #[] e1)/\∀ b o,b≠a->s.heap.get? b=some o->h.get? b=some o) (fun j x ks h2 tk e hx hj k0 hk hK=>?_) vs [] h1 s.toks 0 (by simp) (by simp) ⟨ga,old⟩ gk (fun j k e=>by simp at e)) (fun _ s' hd=>?_) fun _ _ x=>x)
 ·have hjn:j<n:=by rw[<- hlv];exact (aKb.mp hx).1
  refine wpAny_bind (wpAny_attempt (wpAny_mono (turn j x (s.heap.objs.size+1) h2 tk hx (Nat.le_succ _) (aKx hk) k0.2) (fun k s'' hq=>?_) fun _ _ hF=>hF.elim));obtain⟨h3,tk3,rfl,kp,kk⟩:=hq;have s3:=Heap.SameBut.update h3 (s.heap.objs.size+1) (Obj.mapSeq (·.push k));have ea:(List.toArray ks).push k=List.toArray (ks++[k]):=by simp
  have hk3:=kp _ _ hk;obtain⟨c2,hc2⟩:∃ c2,(h3.update (s.heap.objs.size+1) (Obj.mapSeq (·.push k))).get? (s.heap.objs.size+1)=some (seqObj "list" (List.toArray (ks++[k])) c2):=⟨_,by rw[<- ea];exact get?_update_seq hk3 (·.push k)⟩
  try dsimp only
  refine wpAny_bind (listUpdate_at (s:={ s with heap:=h3,toks:=tk3 }) hk3 rfl ?_ (by rw[aKf,sizeLine_eq];lia) (aMh (Nat.le_of_eq (Array.size_push ..)) (by rw[aKf,sizeLine_eq];lia)));refine wpAny_pure ⟨rfl,h3.update (s.heap.objs.size+1) (Obj.mapSeq (·.push k)),tk3,k,c2,rfl,⟨(s3.2 a hne.symm).trans (kp _ _ k0.1),fun b o hb e=>?_⟩,hc2,fun i k' hi=>?_⟩
  ·refine (s3.2 b ?_).trans (kp _ _ (k0.2 b o hb e))
   exact aMo (aMk (aKx e))
  ·have st:∀ i k',KA (s.heap.objs.size+1) h3 i k'->KA (s.heap.objs.size+1) (h3.update (s.heap.objs.size+1) (Obj.mapSeq (·.push k))) i k':=fun i k' q=>Ky.stab _ _ _ _ _ q fun b o b1 _ e=>(s3.2 b b1).trans e
   by_cases hi2:i<ks.length
   ·rw[List.getElem?_append_left hi2] at hi
    exact st i k' (Ky.stab _ _ _ _ _ (hK i k' hi) fun b o _ _ e=>kp b o e)
   ·rw[List.getElem?_append_right (by lia)] at hi
    have hi0:i-ks.length=0:=by
     have:=(aKb.mp hi).1;simp at this;lia
    rw[hi0] at hi;have hkk:k=k':=by simpa using hi
    have:i=j:=by lia
    subst this hkk;exact st _ _ kk
 ·obtain⟨h3,tk3,ks,e3,rfl,k0,hk3,hl3,hK3⟩:=hd
  try dsimp only
  refine wpAny_bind (listItems_at (s:={ s with heap:=h3,toks:=tk3 }) hk3 rfl ?_);refine aFq (s:={ s with heap:=h3,toks:=tk3 }) Ky hk3 k0.1 hne (by lia) hlv h64 hK3 hok fun h' c kp g=>?_;exact h h' tk3 c (fun b o hb e=>kp b o (aMo (aMk (aKx e))) hb (k0.2 b o hb e)) g
end
end G
namespace G
open PySem PySem.Spec PyProof.Rows L2
abbrev cB (y x:Str):Scope:={ kind:=.function,names:=[(y,.local),(x,.free)],isGenerator:=false,isCoroutine:=false,more:=[] }
abbrev dM (y:Str) (yp:Pos):Arguments:={ posonlyargs:=[],args:=[{ arg:=y,annotation:=none,pos:=yp }],vararg:=none,kwonlyargs:=[],kw_defaults:=[],kwarg:=none,defaults:=[] }
abbrev MW (v u:Value):Obj:={ cls:=.type "tuple",data:=.seq [v,u].toArray }
section
variable {prog:Program}{w:World}{A:Around}{E:Value->Shared->Prop}{s:Shared}{env:Env}{x y:Str}{cx pl:Addr}{m:Str->Option Value}{j:Int}{tj:Tok}{its:List Value}
theorem ZF {v:Value}{p1 p2 p3:Pos}{Q:Value->Shared->Prop}(hk:env.scope.kind=.function) (ky:env.kindOf y=some .local) (kx:env.kindOf x=some .free) (hc:env.cells.lookup x=some cx) (hcell:s.heap.IsCell cx (some (.ref pl)))
  (hns:s.heap.Ns env.locals m) (hm:m y=some (.int j tj)) (hl:s.heap.IsList pl its.toArray) (h0:0<=j) (h63:j<2^63) (hg:its[j.toNat]?=some v) (h:Q v s)
  (dx:(x == ("__debug__" : Str))=false) (dy:(y == ("__debug__" : Str))=false) (cdx:(x == ("__classdict__" : Str))=false):wpAny (model prog w) A (eval (.Subscript (.Name x p1) (.Name y p2) p3) env) Q E s:=
 Subscript_ (wpAny_Name (wpAny_loadName_free hk kx hc hcell (wpAny_Name (wpAny_loadName_local hk ky hns hm (item_listR hl h0 h63 (by simpa using hg) h)) dy) cdx) dx)
theorem ZI {v:Int}{t:Tok}{p1 p2 p3 p4 p5 p6:Pos}{k6}{Q:Value->Shared->Prop}(hk:env.scope.kind=.function) (ky:env.kindOf y=some .local) (kx:env.kindOf x=some .free) (hc:env.cells.lookup x=some cx) (hcell:s.heap.IsCell cx (some (.ref pl)))
  (hns:s.heap.Ns env.locals m) (hm:m y=some (.int j tj)) (hl:s.heap.IsList pl its.toArray) (h0:0<=j) (h63:j<2^63) (hg:its[j.toNat]?=some (.int v t))
  (dx:(x == ("__debug__" : Str))=false) (dy:(y == ("__debug__" : Str))=false) (cdx:(x == ("__classdict__" : Str))=false)
  (h:Q (.ref s.heap.objs.size) { s with heap:=s.heap.push (MW (.int (-v) s.toks) (.int j tj)),toks:=s.toks+1 }):
  wpAny (model prog w) A (eval (.Tuple [.UnaryOp .USub (.Subscript (.Name x p1) (.Name y p2) p3) p4,.Name y p5] k6 p6) env) Q E s:=by
 refine wpAny_Tuple_spliced ?_;show wpAny _ _ (spliced ((false,eval (.UnaryOp .USub (.Subscript (.Name x p1) (.Name y p2) p3) p4) env)::(false,eval (.Name y p5) env)::[])) _ _ s;refine Calls.spliced_cons (UnaryOp_ (ZF hk ky kx hc hcell hns hm hl h0 h63 hg (neg_int ?_) dx dy cdx));refine Calls.spliced_cons (wpAny_Name (wpAny_loadName_local hk ky hns hm ?_) dy);exact Calls.spliced_nil ⟨by simp[sizeLine_eq],h⟩
theorem ZH {body:Expr}{yp:Pos}{lam c':Addr}{q:Str}{cl:List (Str × Addr)}{pm ctv u:Value}{Q:Value->Shared->Prop}
  (ho:s.heap.get? lam=some (PySem.W.kla_obj "<lambda>" q (dM y yp) body (cB y x) cl pm c' ctv)) (hcd:s.heap.CodeRec (.ref c') q) (hroom:A.depth<recursionLimit) (hlim:s.heap.NoLimit)
  (hbind:bindArgs (PySem.W.kla_fn "<lambda>" q (dM y yp) body (cB y x) cl pm (.ref c') ctv) ⟨[u],[]⟩=pure [(y,u)])
  (h:∀ h1,h1.Ns s.heap.objs.size (fun z=>[(y,u)].reverse.lookup z)->(∀ b o,s.heap.get? b=some o->h1.get? b=some o) ->
   wpAny (model prog w) (A.deeper (newEnv (cB y x) s.heap.objs.size mainGlobals cl (q ++ ".<locals>.") (some lam) (.ref c') none builtinsNs)) (eval body (newEnv (cB y x) s.heap.objs.size mainGlobals cl (q ++ ".<locals>.") (some lam) (.ref c') none builtinsNs)) Q (fun _ _=>False) { s with heap:=h1,toks:=s.toks+1 }):
  wpAny (model prog w) A (call (.ref lam) [u]) Q (fun _ _=>False) s:=by
 refine wpAny_call (PySem.W.kla_callFunE hroom ho rfl rfl rfl rfl hcd ?_);rw[hbind];refine wpAny_pure (wpAny_newFunctionEnv (fun z hz=>?_) (fun z hz=>?_) (fun h1 hns hsb=>?_) rfl)
 ·simp only[aKi,aMb,or_false] at hz
  rcases hz with rfl | rfl<;>simp
 ·cases aM8.mp hz
  simp
 ·have hk₁:∀ b o,s.heap.get? b=some o->h1.get? b=some o:=fun b o e=>hsb.extBut b o (aMo (aKx e)) (aKh _ e)
  exact⟨hlim.keeps hk₁,PySem.W.kla_codeExpr (wpAny_mono (h h1 hns hk₁) (fun v s' hq=>hq) fun _ _ hF=>hF.elim)⟩
end
def KAt (ns:List Int) (a:Addr):Addr->Heap->Nat->Value->Prop:=fun kS h j k=>∃ q t u p,k=Value.ref q/\q≠kS/\q≠a/\ns[j]?=some p/\h.get? q=some (MW (.int (-p) t) (.int (j:Int) u))
def eE (ns:List Int) (i j:Nat):Bool:=if (-(ns.getD i 0) == -(ns.getD j 0))=true then (if ((i:Int) == (j:Int))=true then false else decide ((i:Int)<(j:Int))) else decide (-(ns.getD i 0) < -(ns.getD j 0))
section
variable {prog:Program}{w:World}{A:Around}
theorem rZ {α:Type}{l:List α}{i:Nat}{x d:α}(h:l[i]?=some x):l.getD i d=x:=by rw[aK7,h];rfl
theorem IE {ns:List Int}{a kS:Addr}{h:Heap}:∀ (ks:List Value) (d:Nat),(∀ j k,ks[j]?=some k->KAt ns a kS h (d+j) k)->∃ fs,PySem.W.KatTups h ks fs/\fs.length=ks.length/\∀ v∈fs,∃ i t,v=Value.int i t
 | [],d,_=>⟨[],trivial,rfl,by simp⟩
 | k::ks,d,hk=>by
  obtain⟨fs,h1,h2,h3⟩:=IE ks (d+1) fun j k' e=>by
   have:=hk (j+1) k' (by simpa using e);rw[show d+1+j=d+(j+1) by lia];exact this
  obtain⟨q,t,u,p,rfl,_,_,_,hg⟩:=hk 0 k rfl;refine⟨.int (-p) t::fs,PySem.W.KatTups.cons hg rfl rfl rfl h1,by simp[h2],fun v hv=>?_⟩;rcases aKi.mp hv with rfl | hv
  ·exact⟨_,_,rfl⟩
  ·exact h3 v hv
theorem ZD {ns:List Int}{a:Addr}{n:Nat}:Keys prog w A (KAt ns a) a n (eE ns):=by
 refine⟨fun kS h h' j k hk kp=>?_,fun kS s ks hl h2 hK=>?_⟩
 ·obtain⟨q,t,u,p,e,n1,n2,hp,hg⟩:=hk
  exact⟨q,t,u,p,e,n1,n2,hp,kp q _ n1 n2 hg⟩
 ·obtain⟨fs,h1,h2',h3⟩:=IE ks 0 fun j k e=>by rw[aMw];exact hK j k e
  refine⟨tuples' (Value.type "int" != Value.type "tuple"),fun Q hq=>PySem.W.kat_kind h1 (by lia) (fun v hv=>?_) (by decide) hq,fun i j C hi hj hc=>?_⟩
  ·obtain⟨i,t,rfl⟩:=h3 v hv
   exact .now
  ·obtain⟨k1,e1⟩:∃ k1,ks[i]?=some k1:=⟨_,aK8 (by lia)⟩
   obtain⟨k2,e2⟩:∃ k2,ks[j]?=some k2:=⟨_,aK8 (by lia)⟩;rw[rZ e1,rZ e2];obtain⟨q1,t1,u1,p1,rfl,_,_,hp1,hg1⟩:=hK i k1 e1;obtain⟨q2,t2,u2,p2,rfl,_,_,hp2,hg2⟩:=hK j k2 e2;have hc':C (if (-p1 == -p2)=true then (if ((i:Int) == (j:Int))=true then false else decide ((i:Int)<(j:Int))) else decide (-p1 < -p2)) s:=by
    have:=hc;unfold eE at this;rw[rZ hp1,rZ hp2] at this;exact this
   refine PySem.W.kat_lt hg1 rfl hg2 rfl ?_;show PySem.W.KatLex prog w A (Value.type "int" != Value.type "tuple") _ C [(Value.int (-p1) t1,Value.int (-p2) t2),(Value.int (i:Int) u1,Value.int (j:Int) u2)] 0 s;refine PySem.W.kat_cons (wpAny_eqBool_int ?_)
   by_cases c1:(-p1 == -p2)=true
   ·rw[if_pos c1] at hc'
    rw[c1];refine PySem.W.kat_yes (PySem.W.kat_cons (wpAny_eqBool_int ?_))
    by_cases c2:((i:Int) == (j:Int))=true
    ·rw[if_pos c2] at hc'
     rw[c2];exact PySem.W.kat_yes (PySem.W.kat_nil hc')
    ·rw[if_neg c2] at hc'
     have c2':((i:Int) == (j:Int))=false:=by simpa using c2
     rw[c2'];exact PySem.W.kat_no (PySem.W.kat_one _ _ (lt_int hc'))
   ·rw[if_neg c1] at hc'
    have c1':(-p1 == -p2)=false:=by simpa using c1
    rw[c1'];exact PySem.W.kat_no (oneLt_int hc')
structure BodyOk (prog:Program) (w:World) (body:Expr) (y x:Str) (KA:List Int->Addr->Addr->Heap->Nat->Value->Prop) (ask:List Int->Nat->Nat->Bool):Prop where
 keys:∀ A ns a n,Keys prog w A (KA ns a) a n (ask ns)
 run:∀ (A:Around) (env:Env) (s:Shared) (cx pl:Addr) (its:List Value) (m:Str->Option Value) (j:Nat) (tj:Tok) (v:Int) (t:Tok) (ns:List Int) (a kS:Addr),env.scope.kind=.function->env.kindOf y=some .local->env.kindOf x=some .free->env.cells.lookup x=some cx->s.heap.IsCell cx (some (.ref pl)) ->
  s.heap.Ns env.locals m->m y=some (.int (j:Int) tj)->s.heap.IsList pl its.toArray->j<64->its[j]?=some (.int v t)->ns[j]?=some v->a<s.heap.objs.size->kS<s.heap.objs.size ->
  wpAny (model prog w) A (eval body env) (fun k s'=>∃ h' tk',s'={ s with heap:=h',toks:=tk' }/\(∀ b o,s.heap.get? b=some o->h'.get? b=some o)/\KA ns a kS h' j k) (fun _ _=>False) s
theorem RB {x y:Str}{p1 p2 p3 p4 p5 p6:Pos}{k6}(dx:(x == ("__debug__" : Str))=false) (dy:(y == ("__debug__" : Str))=false) (cdx:(x == ("__classdict__" : Str))=false):
  BodyOk prog w (.Tuple [.UnaryOp .USub (.Subscript (.Name x p1) (.Name y p2) p3) p4,.Name y p5] k6 p6) y x KAt eE:=by
 refine⟨fun A ns a n=>ZD,fun A env s cx pl its m j tj v t ns a kS hk ky kx hc hcell hns hm hl h64 hg hv ha hkS=>?_⟩;refine ZI hk ky kx hc hcell hns hm hl (by lia) (by lia) (by simpa using hg) dx dy cdx ?_;exact⟨_,_,rfl,fun b o e=>aKh _ e,_,_,_,v,rfl,aMn hkS,aMn ha,hv,aKu _ rfl⟩
end
structure LamK (K:PySem.W.Frag) (mg:Str->Option Value) (c P bm:Addr):Prop where
 code:PySem.W.codeHdIn K c P=true
 blt:mg "__builtins__" = some (.ref bm)
 mod:∃ sl,K.lookup bm=some ⟨.type "module",some builtinsNs,.plain,sl⟩
 n1:bm≠builtinsNs
 n2:bm≠mainGlobals
theorem RY {cells:List (Str × Addr)}{y x:Str}{cx:Addr}(h:cells.lookup x=some cx):cO cells (cB y x).names []=some [(x,cx)]:=by
 show cO cells [(y,.local),(x,.free)] []=_;unfold cO;rw[if_neg (by decide)];unfold cO;rw[if_pos (by decide),h]
 rfl
section
variable {X:Cx}{pins:List (Addr × Obj)}{σ:St}{H:Hp}{s:Shared}
theorem ZG {x y:Str}{yp lpos:Pos}{body:Expr}{c P bm cx:Addr}{q:Str}{Qv:Value->Shared->Prop}(I:Inv X pins σ H s) (LK:LamK X.K X.mg c P bm) (hcode:X.env.code=.ref c) (hP:H P=some (.tbc lpos q)) (hq:q=X.env.qual ++ "<lambda>") (hcx:X.env.cells.lookup x=some cx)
  (h:∀ lam c' ctv H' s',Inv X pins σ H' s'->aN H H'->s'.heap.get? lam=some (PySem.W.kla_obj "<lambda>" q (dM y yp) body (cB y x) [(x,cx)] ((X.mg "__name__").getD .none) c' ctv)->s'.heap.CodeRec (.ref c') q ->
   (∀ b o,b≠P->s.heap.get? b=some o->s'.heap.get? b=some o)->Qv (.ref lam) s'):
  wpAny (model X.prog X.w) X.A (eval (.Lambda (dM y yp) body (cB y x) lpos) X.env) Qv X.xe s:=by
 obtain⟨ps,hPo,ht,hcase⟩:∃ ps:Array Value,s.heap.get? P=some { cls:=.none,data:=.fields ps }/\TriplesOk ps.toList/\(codeAmong lpos ps.toList=none\/∃ (c:Addr) (oc:Obj) (vs:Array Value) (t:Tok),codeAmong lpos ps.toList=some (.ref c)/\H c=some (.own P)/\s.heap.get? c=some oc/\oc.data=.fields vs/\vs[1]?=some (Value.str q t)):=I.hok P _ hP;have C:PySem.W.CodeHd s.heap c P:=PySem.W.codeHd_of_K I.kIn LK.code;have G0:s.heap.Ns mainGlobals X.mg:=I.mod.glob.keeps I.bk;obtain⟨sl,hbm⟩:=LK.mod;have hbo:=I.kIn _ _ hbm;have hbP:bm≠P:=fun z=>by rw[z,hPo] at hbo;cases hbo
 have hgP:mainGlobals≠P:=fun z=>by
  obtain⟨o,es,ep,e,hd,_⟩:=G0;rw[z,hPo] at e;cases e;cases hd
 have hB:s.heap.BuiltinsAt X.mg P:=⟨bm,_,LK.blt,LK.n1,LK.n2,hbP,hbo,rfl,rfl,rfl⟩;have hcl:closureFor (cB y x) X.env=pure [(x,cx)]:=AD (RY hcx);refine PySem.W.kla_eval rfl ?_;rw[<- hq];rcases hcase with hn | ⟨c',oc,vs,t,hs,hown,hco,hd,hv⟩
 ·refine PySem.W.kla_makeFunction (mg:=X.mg) hcl I.ok.glob G0 hcode C hPo ht hn hgP hB fun c' ctv h' tk hx hge hlt hrec htb=>?_
  have hc'n:H c'=none:=I.hok.fresh hge;have hcP:c'≠P:=fun z=>by rw[z,hP] at hc'n;cases hc'n
  obtain⟨c₂,oc,vs,t,e2,hoc,hd,hv⟩:=hrec;cases e2;have neP:∀ b,H b=none->b≠P:=fun b e z=>by rw[z,hP] at e;cases e
  have kp:∀ b o,b≠P->s.heap.get? b=some o->(h'.push (PySem.W.kla_obj "<lambda>" q (dM y yp) body (cB y x) [(x,cx)] ((X.mg "__name__").getD .none) c' ctv)).get? b=some o:=fun b o hb e=>aKh _ (hx b o hb e);have nec:∀ b o,H b=some o->b≠c':=fun b o e z=>by rw[z,hc'n] at e;cases e
  have I':=I.un (H':=upd H c' (.own P)) (h':=h'.push (PySem.W.kla_obj "<lambda>" q (dM y yp) body (cB y x) [(x,cx)] ((X.mg "__name__").getD .none) c' ctv)) (t':=tk)
   ⟨fun b o e n _ _=>kp b o (neP b n) e,fun b o e n _ _=>⟨o.slots,kp b o (neP b n) e⟩,fun b o e n _=>by rw[aS (aMo (aKe (aKx e) hge))];exact n,fun b o e _=>?_,
    fun b xs e=>by rw[aS (nec b _ e)];exact e,fun b o u e=>by rw[aS (nec b _ e)];exact e,fun b ps e=>⟨#[],by rw[aS (nec b _ e),e];simp⟩⟩ (fun b o e=>?_)
  ·exact h _ c' ctv _ _ I' (cL hc'n _) (aKu _ rfl) ⟨c',oc,vs,t,rfl,aKh _ hoc,hd,hv⟩ kp
  ·by_cases hb:b=P
   ·subst hb;exact⟨_,aKh _ htb⟩
   ·exact⟨o,kp b o hb e⟩
  ·by_cases hb:b=c'
   ·subst hb
    rw[cU] at e;cases e;exact⟨oc,aKh _ hoc⟩
   ·rw[aS hb] at e
    by_cases hbP':b=P
    ·subst hbP'
     rw[hP] at e;cases e;refine⟨_,aKh _ htb,?_,.inr ⟨c',oc,vs,t,?_,cU,aKh _ hoc,hd,hv⟩⟩
     ·have:=TriplesOk_snoc lpos.line lpos.col (.ref c') _ ht
      simpa using this
     ·have:=codeAmong_snoc (pos:=lpos) (c:=.ref c') _ ht hn
      simpa using this
    ·refine (I.hok b o e).stay (fun b' u hb' e'=>kp b' u ?_ e') (fun b' e'=>by rw[aS (nec b' _ e')];exact e') fun b' xs e'=>by rw[aS (nec b' _ e')];exact e'
     rcases hb' with rfl | hb'
     ·exact hbP'
     ·exact fun z=>by rw[z,hP] at hb';cases hb'
 ·refine PySem.W.kla_makeFunctionHit (mg:=X.mg) hcl I.ok.glob G0 hcode C hPo ht hs hB fun ctv h' tk hk hsz=>?_
  have I':Inv X pins σ H { s with heap:=h'.push (PySem.W.kla_obj "<lambda>" q (dM y yp) body (cB y x) [(x,cx)] ((X.mg "__name__").getD .none) c' ctv),toks:=tk }:=I.kept fun b o e=>aKh _ (hk b o e);exact h _ c' ctv _ _ I' (aN.refl H) (aKu _ rfl) ⟨c',oc,vs,t,rfl,aKh _ (hk _ _ hco),hd,hv⟩ fun b o _ e=>aKh _ (hk b o e)
end
def eV (n:Nat) (ask:Nat->Nat->Bool):Bool:=decide (n<2)||(eW n ask (PySem.W.kas_sort n)&&(dL ask (PySem.W.kas_sort n)).toList.all (fun i=>decide (i<n))&&decide ((dL ask (PySem.W.kas_sort n)).toList.length=n))
def dW (n:Nat) (ask:Nat->Nat->Bool):List Int:=if n<2 then upT n else (dL ask (PySem.W.kas_sort n)).toList.map fun (i:Nat)=>(i:Int)
theorem ID {n:Nat}{ask:Nat->Nat->Bool}{vs:List Value}(hl:vs.length=n) (hv:∀ (j:Nat) v,vs[j]?=some v->∃ t,v=Value.int (j:Int) t) (hg:eV n ask=true):
  aK ((dW n ask).map V.int) (if n<2 then vs else (dL ask (PySem.W.kas_sort n)).toList.map fun i=>vs.getD i Value.none):=by
 unfold eV at hg;unfold dW
 by_cases h2:n<2
 ·rw[if_pos h2,if_pos h2]
  exact aHc n vs hl fun j v e=>by
   obtain⟨t,rfl⟩:=hv j v e;exact⟨t,by simp⟩
 ·rw[if_neg h2,if_neg h2]
  have hall:∀ i∈(dL ask (PySem.W.kas_sort n)).toList,i<n:=fun i hi=>by
   simp only[aKt,decide_eq_true_eq,aKn,h2,false_or,aKc] at hg;exact hg.1.2 i hi
  generalize (dL ask (PySem.W.kas_sort n)).toList=l at hall
  induction l with
  | nil=>exact .nil
  | cons i l ih=>
   refine .cons ?_ (ih fun k hk=>hall k (aK9 _ hk));have hi:=hall i aKa;obtain⟨v,e⟩:∃ v,vs[i]?=some v:=⟨_,aK8 (by lia)⟩;obtain⟨t,rfl⟩:=hv i v e;exact⟨t,by show vs.getD i Value.none=_;rw[rZ e]⟩
section
variable {X:Cx}
def tSK (K:PySem.W.Frag) (P:Addr) (lpos:Pos) (q:Str) (ix:Nat) (ask:List Int->Nat->Nat->Bool) (ta:TA):TE:=fun σ H Q=>ta σ H fun vs H1=>∃ (n:Nat) (pl:Addr) (ns:List Int),vs=[.int (n:Int)]/\H1 P=some (.tbc lpos q)/\σ[ix]?=some (some (.ref pl))/\SqL K H1 pl (ns.map V.int)/\ns.length=n/\n<64 /\
 eV n (ask ns)=true/\∀ H2 r,aN H1 H2->H2 r=none->Q (.ref r) (upd H2 r (.lst ((dW n (ask ns)).map V.int)))
theorem aD2 {e : Expr} {ta : TA} {x y : Str} {yp lpos kpos pos p p2 pos2 : Pos} {body : Expr} {c P bm : Addr} {q : Str} {ix k : Nat} {KA : List Int -> Addr -> Addr -> Heap -> Nat -> Value -> Prop} {ask : List Int -> Nat -> Nat -> Bool}
  (hc : X.calm = true) (hr : Room k X.A) (LK : LamK X.K X.mg c P bm) (hcode : X.env.code = .ref c) (hq : q = X.env.qual ++ "<lambda>") (hN : X.N[ix]? = some x) (hkx : X.env.kindOf x = some .cell \/ X.env.kindOf x = some .free)
  (hb : BodyOk X.prog X.w body y x KA ask) (hyx : (x == y) = false)
  (hbind : ∀ (q : Str) (cl : List (Str × Addr)) (pm cdv ctv u : Value), bindArgs (PySem.W.kla_fn "<lambda>" q (dM y yp) body (cB y x) cl pm cdv ctv) ⟨[u], []⟩ = pure [(y, u)])
  (hg : Gl X "sorted") (hm : X.mg "sorted" = none) (hgr : Gl X "range") (hmr : X.mg "range" = none) (ha : PA X [e] ta)
  (hs : starEach [e] X.env = [(false, eval e X.env)] := by rfl)
  (he : backTo pos (starEach [Expr.Call (.Name "range" p2) [e] [] pos2] X.env) = [(false, eval (.Call (.Name "range" p2) [e] [] pos2) X.env)] := by rfl)
  (hks : backToKw pos (keywordEach [⟨some "key", .Lambda (dM y yp) body (cB y x) lpos, kpos⟩] X.env) = [(some ("key" : Str), do let v <- eval (.Lambda (dM y yp) body (cB y x) lpos) X.env; standAt pos; pure v)] := by rfl) :
  PE X (.Call (.Name "sorted" p) [.Call (.Name "range" p2) [e] [] pos2] [⟨some "key", .Lambda (dM y yp) body (cB y x) lpos, kpos⟩] pos) (tSK X.K P lpos q ix ask ta) := by
 intro pins s σ H Q I h;refine wpAny_Call_Name_kw (eH I hg hm PyProof.Rows.boot_sorted ?_ (by decide) (by decide));refine PyProof.Rows.callWith_kw ?_ he (by rw [he]; rfl) (by rw [hks]; rfl) (by rw [hks]; rfl);rw [he, hks];refine Calls.spliced_cons ?_;refine Call_ (eH I hgr hmr boot_range (aN3 (thn (ha pos2 pins s σ H _ I h) fun us s1 ⟨vs, H1, I1, r1, q1⟩ => ?_) hs rfl));obtain ⟨n, pl, ns, e, hP, hsl, hS, hln, h64, hgd, qq⟩ := q1;subst e;cases r1 with
 | cons r rr =>
 cases rr;obtain ⟨t, rfl⟩ := r;refine call_range_1 ?_;refine Calls.spliced_nil ?_;have I2 : Inv X pins σ H1 { s1 with heap := s1.heap.push { cls := .type "range", data := .fields #[.int 0 s1.toks, .int (n : Int) t, .int 1 (s1.toks + 1)] }, toks := s1.toks + 1 + 1 } := I1.kept fun b o e => aKh _ e;have hrg : IsRange (s1.heap.push { cls := .type "range", data := .fields #[.int 0 s1.toks, .int (n : Int) t, .int 1 (s1.toks + 1)] }) s1.heap.objs.size 0 (n : Int) 1 s1.toks t (s1.toks + 1) := IsRange.new ..;show wpAny _ _ (evalAll [do let v <- eval (.Lambda (dM y yp) body (cB y x) lpos) X.env; standAt pos; pure v]) _ _ _
 -- the captured list
 obtain ⟨m0, hn0, hl0⟩ := I2.loc;obtain ⟨u0, ru0, lu0⟩ := hl0 ix x (.ref pl) hN hsl (hkx.elim (fun z => .inr (.inl z)) fun z => .inr (.inr z));cases ru0;obtain ⟨cx, hcx, hic⟩ : ∃ cx, X.env.cells.lookup x = some cx /\ (s1.heap.push { cls := .type "range", data := .fields #[.int 0 s1.toks, .int (n : Int) t, .int 1 (s1.toks + 1)] }).IsCell cx (some (.ref pl)) := by
  rcases lu0 with ⟨z, _⟩ | ⟨_, cx, ec, ic⟩
  ·rcases hkx with w | w <;> (rw [z] at w; cases w)
  ·exact ⟨cx, ec, ic⟩
 refine wpAny_evalAll_cons (wpAny_bind (ZG I2 LK hcode hP hq hcx fun lam c' ctv H3 s3 I3 sm hlam hcd kp3 => wpAny_bind (wpAny_standAt (wpAny_pure (wpAny_evalAll_nil ?_)))));show wpAny _ _ (call (.builtin "sorted") [.ref s1.heap.objs.size] [(Str.ofString "key", .ref lam)]) _ _ _;have neP : ∀ b o, (s1.heap.push { cls := .type "range", data := .fields #[.int 0 s1.toks, .int (n : Int) t, .int 1 (s1.toks + 1)] }).get? b = some o -> H1 b = none -> b ≠ P := fun b o _ e z => by rw [z, hP] at e; cases e
 have hrg3 : IsRange s3.heap s1.heap.objs.size 0 (n : Int) 1 s1.toks t (s1.toks + 1) := kp3 _ _ (neP _ _ hrg (I1.hok.fresh (aMg _))) hrg;have hic3 : s3.heap.IsCell cx (some (.ref pl)) := by
  obtain ⟨oc, g1, g2⟩ := hic;exact ⟨oc, kp3 _ _ (neP _ _ g1 (I2.freeC x cx hcx)) g1, g2⟩
 have hS3 : SqL X.K H3 pl (ns.map V.int) := by
  rcases hS with hS | hS
  ·exact .inl (fA (fun o e => sm _ _ e) hS)
  ·exact .inr hS
 obtain ⟨its, rv, plo, hz⟩ := I3.list hS3;have hli := plo.isList;refine call_function_entry_kw kind_sorted plain_sorted entry_sorted (ksk_s1 _ _) ?_;unfold Builtin.«sorted»;refine wpAny_bind (m := checkCount "sorted" 1 1 _) (wpAny_pure ?_);refine wpAny_bind (SB (n := n) (I.ok.hd hc) hrg3 (small_one (by lia) (by lia) (by lia) (by lia)) (by rw [rangeSize_one]; split <;> lia) (by lia) fun h4 tk4 acc sz4 kp4 hi => ?_)
 have hal : acc.toList.length = n := by simpa using hi.1
 have hav : ∀ (j : Nat) v, acc.toList[j]? = some v -> ∃ t, v = Value.int (j : Int) t := fun j v e => by
  obtain ⟨t, rfl⟩ := hi.2 j v (by simpa using e);exact ⟨t, by simp⟩
 refine wpAny_bind (wpAny_newList ?_ (by rw [sizeLine_eq, hal]; lia));have hoL : (h4.push (seqObj "list" acc.toList.toArray 0)).get? h4.objs.size = some (seqObj "list" acc.toList.toArray 0) := aKu _ rfl;have kp5 : ∀ b o, s3.heap.get? b = some o -> (h4.push (seqObj "list" acc.toList.toArray 0)).get? b = some o := fun b o e => aKh _ (kp4 b o e);have nea : ∀ b o, s3.heap.get? b = some o -> b ≠ h4.objs.size := fun b o e => aMo (aKx (kp4 b o e));have sz5 : (h4.push (seqObj "list" acc.toList.toArray 0)).objs.size = h4.objs.size + 1 := aKy ..;refine wpAny_bind (wpAny_holding (wpAny_call_entry_kw slot_list_sort ⟨_, hoL, rfl⟩ entry_list_sort ?_ (ksk_l1 _ _)));show wpAny _ X.A.in1.in1 (Builtin.«list.sort» ⟨[.ref h4.objs.size], [(Str.ofString "key", .ref lam)]⟩) _ _ { s3 with heap := h4.push (seqObj "list" acc.toList.toArray 0), toks := tk4 };rw [ksk_t1];have hok : eW n (ask ns) (PySem.W.kas_sort n) = true \/ n < 2 := by
  have := hgd;unfold eV at this;simp only [aKt, decide_eq_true_eq, aKn] at this;rcases this with z | z
  ·exact .inr z
  ·exact .inl z.1.1
 refine aFr (s := { s3 with heap := h4.push (seqObj "list" acc.toList.toArray 0), toks := tk4 }) (hb.keys X.A.in1.in1 ns h4.objs.size n) hoL hal h64 hok (fun j xv kS h6 tk6 hx hkS hkS2 kp6 => ?_) fun h7 tk7 c7 kp7 hout => ?_
 ·have all6 : ∀ b o, s3.heap.get? b = some o -> h6.get? b = some o := fun b o e => kp6 b o (nea b o e) (kp5 b o e)
  obtain ⟨tx, rfl⟩ := hav j xv hx;have hj : j < n := by rw [<- hal]; exact (aKb.mp hx).1
  obtain ⟨pv, hpv⟩ : ∃ pv, ns[j]? = some pv := ⟨_, aK8 (by lia)⟩;obtain ⟨iv, hiv, riv⟩ := rv.get (i := j) (x := V.int pv) (by rw [aLh, hpv]; rfl);obtain ⟨ti, rfl⟩ := riv;have hcd6 : h6.CodeRec (.ref c') q := by
   obtain ⟨c2, oc, vs, t, e2, hoc, hd, hv⟩ := hcd;exact ⟨c2, oc, vs, t, e2, all6 _ _ hoc, hd, hv⟩
  refine ZH (s := { s3 with heap := h6, toks := tk6 }) (all6 _ _ hlam) hcd6 hr.depth (I3.nolimit.keeps all6) (hbind _ _ _ _ _ _) fun h8 hns8 kp8 => ?_;have all8 : ∀ b o, s3.heap.get? b = some o -> h8.get? b = some o := fun b o e => kp8 b o (all6 b o e);have hlt8 : ∀ b, b < h6.objs.size -> b < h8.objs.size := fun b hb => by
   refine aKe hb ?_;exact aMf hns8.lt
  refine wpAny_mono (hb.run _ _ { s3 with heap := h8, toks := tk6 + 1 } cx pl its _ j tx pv ti ns h4.objs.size kS rfl ?_ ?_ ?_ ?_ hns8 ?_ ?_ (by lia) hiv hpv (hlt8 _ ?_) (hlt8 _ hkS2)) (fun k s' hq => ?_) fun _ _ z => z
  ·show (cB y x).names.lookup y = some .local
   show List.lookup y [(y, NameKind.local), (x, NameKind.free)] = _;simp
  ·show List.lookup x [(y, NameKind.local), (x, NameKind.free)] = _
   rw [aLu, hyx];simp
  ·show List.lookup x [(x, cx)] = _
   simp
  ·obtain ⟨oc, g1, g2⟩ := hic3
   exact ⟨oc, all8 _ _ g1, g2⟩
  ·show List.lookup y [(y, _)] = _
   simp
  ·obtain ⟨ol, g1, g2⟩ := hli
   exact ⟨ol, all8 _ _ g1, g2⟩
  ·have hkS' : (h4.push (seqObj "list" acc.toList.toArray 0)).objs.size <= kS := hkS
   rw [sz5] at hkS';lia
  ·obtain ⟨h9, tk9, rfl, kp9, kk⟩ := hq
   exact ⟨h9, tk9, rfl, fun b o e => kp9 b o (kp8 b o e), kk⟩
 ·refine ⟨_, rfl, wpAny_pure ⟨_, rfl, .ref h4.objs.size, _, I3.laid (t' := tk7) (o := .lst ((dW n (ask ns)).map V.int)) (fun b o e => kp7 b o (nea b o e) (kp5 b o e)) (aMf sz4) ⟨?_, _, c7, ID hal hav hgd, hout⟩, rfl, qq H3 _ sm (I3.hok.fresh (aMf sz4))⟩⟩
  have := (ID hal hav hgd).length;rw [this, sizeLine_eq]
  split
  ·lia
  ·rw [aLo]
   have hg2 := hgd;unfold eV at hg2;simp only [aKt, decide_eq_true_eq, aKn] at hg2;lia
end
def oSK (ask:List Int->Nat->Nat->Bool):List T->T->Option T
 | [.int n],.lst us=>(cV us).bind fun ns=>if n=(ns.length:Int)/\ns.length<64/\eV ns.length (ask ns)=true then some (.lst (tI (dW ns.length (ask ns)))) else none
 | _,_=>none
def fSK (fa:Rho->Option (List T)) (ix:Nat) (ask:List Int->Nat->Nat->Bool):Rho->Option T:=fun ρ=>(fa ρ).bind fun ts=>(aA ix ρ).bind fun t=>oSK ask ts t
@[simp] theorem fSK_at (fa:Rho->Option (List T)) (ix:Nat) (ask:List Int->Nat->Nat->Bool) (ρ:Rho):fSK fa ix ask ρ=(fa ρ).bind fun ts=>(aA ix ρ).bind fun t=>oSK ask ts t:=id rfl
theorem aAt {ask:List Int->Nat->Nat->Bool}{ns:List Int}{n:Int}(hn:n=(ns.length:Int)) (h:ns.length<64) (hg:eV ns.length (ask ns)=true):oSK ask [.int n] (.lst (tI ns))=some (.lst (tI (dW ns.length (ask ns)))):=by
 simp[oSK,pY,hn,h,hg]
section
variable {X:Cx}{B:Hp}{fl:List Nat}{e:Expr}{fa:Rho->Option (List T)}{l':Nat}
theorem VX {z z2 kk x y:Str}{yp lpos kpos pos p p2 pos2:Pos}{body:Expr}{c Pt bm:Addr}{q:Str}{ix k:Nat}{KA:List Int->Addr->Addr->Heap->Nat->Value->Prop}{ask:List Int->Nat->Nat->Bool}
  (hz:z = "sorted") (hz2:z2 = "range") (hkk:kk = "key")
  (hB:B Pt=some (.tbc lpos q)) (hc:X.calm=true) (hr:Room k X.A) (LK:LamK X.K X.mg c Pt bm) (hcode:X.env.code=.ref c) (hq:q=X.env.qual ++ "<lambda>") (hN:X.N[ix]?=some x) (hfl:1<=fl.getD ix 1)
  (hkx:X.env.kindOf x=some .cell\/X.env.kindOf x=some .free) (hb:BodyOk X.prog X.w body y x KA ask) (hyx:(x == y)=false)
  (hbind:∀ (q:Str) (cl:List (Str × Addr)) (pm cdv ctv u:Value),bindArgs (PySem.W.kla_fn "<lambda>" q (dM y yp) body (cB y x) cl pm cdv ctv) ⟨[u],[]⟩=pure [(y,u)])
  (hg:Gl X z) (hm:X.mg z=none) (hgr:Gl X z2) (hmr:X.mg z2=none) (ha:GA X B fl [e] fa l')
  (hs:starEach [e] X.env=[(false,eval e X.env)]:=by rfl)
  (he:backTo pos (starEach [Expr.Call (.Name z2 p2) [e] [] pos2] X.env)=[(false,eval (.Call (.Name z2 p2) [e] [] pos2) X.env)]:=by rfl)
  (hks:backToKw pos (keywordEach [⟨some kk,.Lambda (dM y yp) body (cB y x) lpos,kpos⟩] X.env)=[(some kk,do let v <- eval (.Lambda (dM y yp) body (cB y x) lpos) X.env;standAt pos;pure v)]:=by rfl):
  GE X B fl (.Call (.Name z p) [.Call (.Name z2 p2) [e] [] pos2] [⟨some kk,.Lambda (dM y yp) body (cB y x) lpos,kpos⟩] pos) (fSK fa ix ask) true 3:=by
 subst hz hz2 hkk;refine bD (aD2 (P:=Pt) hc hr LK hcode hq hN hkx hb hyx hbind hg hm hgr hmr ha hs he hks) ?_;rintro σ H Q ⟨Ex,ρ,M,t,S,hf,qq⟩;obtain⟨ts,hts,hf⟩:=bind_some hf;obtain⟨t0,ht0,hf⟩:=bind_some hf;refine⟨Ex,ρ,M,ts,S,hts,fun vs H1 s1 r1=>?_⟩
 match ts,t0,hf with
 | [.int n],.lst us,hf=>
  have hf:((cV us).bind fun ns=>if n=(ns.length:Int)/\ns.length<64/\eV ns.length (ask ns)=true then some (T.lst (tI (dW ns.length (ask ns)))) else none)=some t:=hf;obtain⟨ns,hns,hf2⟩:=bind_some hf
  clear hf
  split at hf2
  ·rename_i hcd
   obtain⟨rfl,h64,hgd⟩:=hcd;have et:=aK6 hf2;subst et;cases pX hns;obtain⟨y0,rfl,ry⟩:=dN r1;cases (show _=_ from ry);have e0:ρ[ix]?=some (some (.lst (tI ns))):=by
    unfold aA at ht0;cases h:ρ[ix]? with
    | none=>rw[h] at ht0;cases ht0
    | some o=>rw[h] at ht0;cases (show o=some _ from ht0);rfl
   obtain⟨v,ev,rv⟩:=(S.grow s1).slot ix _ e0 (.inl hfl);obtain⟨a,xs,rfl,h1,h2⟩:=rv.sqL;cases qR h2;exact⟨ns.length,a,ns,rfl,(S.same.trans s1) _ _ hB,ev,h1,rfl,h64,hgd,fun H2 r sm hr=>qq _ _ ((s1.trans sm).trans (cL hr _)) (aL.laid (s1.trans sm) hr (CO _))⟩
  ·cases hf2
end
def spP (Pt:Addr) (o:HO) (sp:Sp):Sp:=fun vs H Q E=>H Pt=some o/\sp vs H Q E
structure CalP (P:Program) (w:World) (K:PySem.W.Frag) (mg:Str->Option Value) (base:Heap) (Pt:Addr) (o:HO) (x:Str) (k:Nat) (ps:List Str) (F:List T->Option T) (n:Bool) (l:Nat):Prop where
 ex:∃ f fd,FnOk P w K mg base CX0 k f fd ps (spP Pt o (spT K F n l))/\mg x=some (.ref f)/\PySem.W.keepIn K (.ref f)=true/\fE K fd ps []
section
variable {X:Cx}{B:Hp}{fl:List Nat}{e:Expr}{es:List Expr}{f:Rho->Option T}{fa:Rho->Option (List T)}{n n':Bool}{l l' k:Nat}{pos p':Pos}{x:Str}{ps:List Str}{F:List T->Option T}{Pt:Addr}{o:HO}
theorem wM (C:CalP X.prog X.w X.K X.mg X.base Pt o x k ps F n l) (hB:B Pt=some o) (hr:Room k X.A) (hg:Gl X x) (ha:GA X B fl (e::es) fa l') (hl:(decide (l=0)||decide (l=3))=true:=by rfl) (hdb:(x == ("__debug__" : Str))=false:=by decide)
  (he:starEach (e::es) X.env=(false,eval e X.env)::starEach es X.env:=by rfl) (hpl:(backTo pos (starEach es X.env)).any (·.1)=false:=by rfl):GE X B fl (.Call (.Name x p') (e::es) [] pos) (aG fa F) n l:=by
 obtain⟨f,fd,FO,hm,hk,hb⟩:=C.ex;refine bD (JH FO hr hg hm hk hb .nil JF ha hdb he hpl) ?_;rintro σ H Q ⟨Ex,ρ,M,t,S,hf,q⟩;obtain⟨ts,hts,hf⟩:=bind_some hf;simp only[aKt,decide_eq_true_eq] at hl;refine⟨Ex,ρ,M,ts,S,hts,fun vs H1 s1 r1=>?_⟩;show spP Pt o (spT X.K F n l) (vs++[]) H1 Q E0;rw[aL3];exact⟨(S.same.trans s1) _ _ hB,ts,t,r1.weak fun _ _=>trivial,hf,fun v H2 s2 r2=>q v H2 (s1.trans s2) (r2.called S s1 hl)⟩
end
structure FunC (K:PySem.W.Frag) (x qual:Str) (st:Stmt) (f:Addr) (fd:FuncData) (c:Addr):Prop where
 ex:∃ (oc:Value) (od:Option Addr) (kV doc pm:Value) (an:Option Addr) (ct:Value) (osl:Array (Option Value)),
  fd=PySem.W.fnOf x qual (defArgs st) (defBody st) (defScope st) .none kV doc pm an (.ref c) ct/\K.lookup f=some ⟨oc,od,.func fd,osl⟩/\PySem.W.codeIn K (.ref c) qual=true
 kp:PySem.W.keepIn K (.ref f)=true
theorem FunC.fn {K:PySem.W.Frag}{x qual:Str}{st:Stmt}{f c:Addr}{fd:FuncData}(F:FunC K x qual st f fd c):Fun K x qual st f fd:=by
 obtain⟨oc,od,kV,doc,pm,an,ct,osl,h1,h2,h3⟩:=F.ex;exact⟨⟨oc,od,kV,doc,pm,an,.ref c,ct,osl,h1,h2,h3⟩,F.kp⟩
theorem VF {K:PySem.W.Frag}{x qual:Str}{st:Stmt}{f c:Addr}{oc:Value}{od an:Option Addr}{osl:Array (Option Value)}{kV doc pm ct:Value}(l:K.lookup f=some ⟨oc,od,.func (PySem.W.fnOf x qual (defArgs st) (defBody st) (defScope st) .none kV doc pm an (.ref c) ct),osl⟩)
  (cc:PySem.W.codeIn K (.ref c) qual=true) (k:PySem.W.keepIn K (.ref f)=true):FunC K x qual st f (PySem.W.fnOf x qual (defArgs st) (defBody st) (defScope st) .none kV doc pm an (.ref c) ct) c:=⟨⟨oc,od,kV,doc,pm,an,ct,osl,rfl,l,cc⟩,k⟩
section
variable {P:Program}{w:World}{K:PySem.W.Frag}{mg:Str->Option Value}{base:Heap}
theorem FH {K:PySem.W.Frag}{H:Hp}{fl:List Nat}{n:Bool}{l:Nat}{N ps:List Str}{run:Rho->Option Out}{X:Cx}{body:List Stmt}{ts:List T}{t:T}{vs:List V}{Q:VK}(hXK:X.K=K) (hfl:fl.length=N.length) (hp:∀ i,i<ps.length->fl.getD i 1=1) (hl:ts.length=ps.length) (r:RepL K H (fun _=>True) ts vs) (hN:ps.length<=N.length)
  (hb:GSs X H fl n l body run) (ho:∃ o,run (ts.map some++List.replicate (N.length-ps.length) none)=some o/\pU o t) (q:∀ v H',aN H H'->aL K H H [] H' n l t v->Q v H') (hl4:l≠4):
  ∃ tt,PSs X body tt/\tt { nx:=fun _ H'=>Q .non H',rt:=Q } (L2.start N vs) H:=by
 subst hXK;refine⟨_,hb,?_⟩;obtain⟨o,ho,hi⟩:=ho;refine⟨[],_,[],o,DB hfl hp hl r hN,ho,?_⟩;cases o with
 | rt u=>
  cases (show u=t from hi);exact fun v H' s' r'=>q v H' s' ((RtX.of hl4).mp r')
 | nx ρ'=>
  cases (show t=.non from hi);exact fun σ' M' H' S'=>q _ H' S'.same ((aL.scal rfl).mpr rfl)
 | bk _=>exact False.elim hi
 | ct _=>exact False.elim hi
theorem AY {x qual:Str}{st:Stmt}{f:Addr}{fd:FuncData}{N ps:List Str}{k:Nat}{fl:List Nat}{n:Bool}{l:Nat}{F:List T->Option T}{run:Rho->Option Out}{Pt:Addr}{o:HO}(Fu:Fun K x qual st f fd) (S:FnScope N ps (defScope st))
  (hfl:fl.length=N.length) (hp:∀ i,i<ps.length->fl.getD i 1=1) (hlen:∀ ts t,F ts=some t->ts.length=ps.length)
  (hb:∀ (cdv:Value) (A:Around) (outer:List Env) (s:Shared) (H:Hp) (E:XK),H Pt=some o->Room k (A.deeper (envOfC qual (defScope st) s.heap.objs.size f cdv)) ->
   GSs (aQ CX0 P w K mg base N qual (defScope st) f cdv A outer s H E).nox H fl n l (defBody st) run)
  (hrun:∀ ts t,F ts=some t->∃ o,run (ts.map some++List.replicate (N.length-ps.length) none)=some o/\pU o t) (hl4:l≠4:=by decide):FnOk P w K mg base CX0 (k+1) f fd ps (spP Pt o (spT K F n l)):=by
 have hN:ps.length<=N.length:=by have:=congrArg List.length S.pre;rw[aLt] at this;lia
 refine Fu.ok S (fun vs H Q E h=>?_) (fun cdv A outer s H vs Q E hr h=>?_)
 ·obtain⟨_,ts,t,r,hf,_⟩:=h
  rw[<- r.length];exact hlen ts t hf
 ·obtain⟨hP,ts,t,r,hf,q⟩:=h
  exact FH rfl hfl hp (hlen ts t hf) r hN (hb cdv A outer s H E hP hr) (hrun ts t hf) q hl4
theorem WB {x qual:Str}{st:Stmt}{f c:Addr}{fd:FuncData}{N ps:List Str}{k:Nat}{fl:List Nat}{n:Bool}{l:Nat}{F:List T->Option T}{run:Rho->Option Out}{Pt:Addr}{o:HO}(Fu:FunC K x qual st f fd c) (S:FnScope N ps (defScope st))
  (hfl:fl.length=N.length) (hp:∀ i,i<ps.length->fl.getD i 1=1) (hlen:∀ ts t,F ts=some t->ts.length=ps.length)
  (hb:∀ (A:Around) (outer:List Env) (s:Shared) (H:Hp) (E:XK),H Pt=some o->Room k (A.deeper (envOfC qual (defScope st) s.heap.objs.size f (.ref c))) ->
   GSs (aQ CX0 P w K mg base N qual (defScope st) f (.ref c) A outer s H E).nox H fl n l (defBody st) run)
  (hrun:∀ ts t,F ts=some t->∃ o,run (ts.map some++List.replicate (N.length-ps.length) none)=some o/\pU o t) (hl4:l≠4:=by decide):FnOk P w K mg base CX0 (k+1) f fd ps (spP Pt o (spT K F n l)):=by
 have hN:ps.length<=N.length:=by have:=congrArg List.length S.pre;rw[aLt] at this;lia
 obtain⟨oc,od,kV,doc,pm,an,ct,osl,rfl,lk,hcd⟩:=Fu.ex;refine AS lk hcd S (fun vs H Q E h=>?_) fun A outer s H vs Q E hr h=>?_
 ·obtain⟨_,ts,t,r,hf,_⟩:=h
  rw[<- r.length];exact hlen ts t hf
 ·obtain⟨hP,ts,t,r,hf,q⟩:=h
  obtain⟨t,h,q⟩:=FH rfl hfl hp (hlen ts t hf) r hN (hb A outer s H E hP hr) (hrun ts t hf) q hl4;exact⟨t,h.nox,q⟩
end
theorem ZJ {P:Program}{w:World}{K:PySem.W.Frag}{mg mb:Str->Option Value}{k:Nat}{fa a Pt c:Addr}{fd:FuncData}{x:Str}{F0:List T->Option T}{n:Bool}{lv:Nat}{lpos:Pos}{q:Str}{s₁:Shared}{vs:List Value}{ns:List Int}
  (KX:K.In s₁.heap) (hns:s₁.heap.Ns mainGlobals mg) (hb:s₁.heap.Ns builtinsNs mb) (hbb:∀ x:Str,x ≠ "__name__" -> mb x=bootBuiltins x) (hlim:s₁.heap.NoLimit) (hg:s₁.gens=#[])
  (ha:s₁.heap.get? a=some { cls:=.type "list",data:=.seq vs.toArray }) (hi:IntsAre vs ns) (hl:ns.length<=sizeLine) (hr:Room k callerA) (hC:PySem.W.codeHdIn K c Pt=true) (hPt:s₁.heap.get? Pt=some (PySem.W.tabObj #[])) (hPK:K.lookup Pt=none)
  (F:∀ base:Heap,K.In base->base.Ns mainGlobals mg->FnOk P w K mg base CX0 k fa fd [x] (spP Pt (.tbc lpos q) (spT K F0 n lv))) (hbind:∀ (s:Shared) (u:Value),BindsTo s fd ⟨[u],[]⟩ [(x,u)]) (ht:F0 [.lst (ns.map T.int)]=some (.bl true)):
  codeAny (model P w) callerA (.call (.ref fa) ⟨[.ref a],[]⟩) (fun r s'=>r=.ok (.ret (.bool true))/\OldK s₁.heap s'.heap/\s'.os=s₁.os/\AllBare s'.gens) s₁:=by
 have rv:=vU hi;have lenV:=hi.length;have haP:a≠Pt:=fun z=>by rw[z,hPt] at ha;cases ha
 have core:∀ H:Hp,H Pt=some (.tbc lpos q)->SqL K H a (ns.map V.int)->HOk P w H s₁.heap->(∀ b,H b≠none->b≠Pt->b=a/\∃ o xs,H b=some (.frz o (.lst xs)))->(H a≠none->K.lookup a=none) ->
   codeAny (model P w) callerA (.call (.ref fa) ⟨[.ref a],[]⟩) (fun r s'=>r=.ok (.ret (.bool true))/\OldK s₁.heap s'.heap/\s'.os=s₁.os/\AllBare s'.gens) s₁:=by
  intro H hHP hS hok hA hK;have base_of:∀ {b:Addr} {o:Obj},s₁.heap.get? b=some o->H b=none->(hG s₁.heap H).get? b=some o:=fun e n=>XI e n;have noA:∀ {b:Addr} {o:Obj} {es:Array DictEntry} {ep:Nat},s₁.heap.get? b=some o->o.data=.dict es ep->H b=none:=fun {b o es ep} e d=>by
   cases hq:H b with
   | none=>rfl
   | some u=>
    by_cases hbP:b=Pt
    ·subst hbP
     rw[hPt] at e;cases e;cases d
    ·have e':b=a:=(hA b (by rw[hq];simp) hbP).1
     subst e';rw[ha] at e;cases e;have d':Data.seq vs.toArray _=Data.dict es ep:=d;cases d'
  have nsK:∀ {b:Addr} {m:Str->Option Value},s₁.heap.Ns b m->(hG s₁.heap H).Ns b m:=fun {b m} ⟨o,es,ep,e,d,r⟩=>⟨o,es,ep,base_of e (noA e d),d,r⟩;have hKb:K.In (hG s₁.heap H):=fun b o e=>base_of (KX b o e) (by
   cases hq:H b with
   | none=>rfl
   | some u=>
    by_cases hbP:b=Pt
    ·subst hbP
     rw[hPK] at e;cases e
    ·have e':b=a:=(hA b (by rw[hq];simp) hbP).1
     subst e';rw[hK (by rw[hq];simp)] at e;cases e)
  have hM:Mod K mg (hG s₁.heap H):=⟨hKb,nsK hns,⟨mb,nsK hb,hbb⟩,let ⟨mc,h1,h2⟩:=hlim;⟨mc,nsK h1,h2⟩⟩;have e0:Env0 P w K mg (hG s₁.heap H) callerA [] s₁ H:=⟨rfl,hM,fun b o e=>aAx e,Nat.le_of_eq (XJ _ _),trivial,fun b hb=>absurd (show b∈([]:List Addr) from hb) (by simp),hok,.of_eq hg⟩;have ri:∀ ns:List Int,RepL K H (fun _=>True) (ns.map T.int) (ns.map V.int):=fun ns=>by
   induction ns with
   | nil=>exact rfl
   | cons a r ih=>exact⟨_,_,rfl,rfl,ih⟩
  have hsp:spP Pt (.tbc lpos q) (spT K F0 n lv) [.ref a] H (fun v H'=>v=.bl true/\H' Pt=some (.tbc lpos q)) fun _ _ _=>False:=by
   refine⟨hHP,[.lst (ns.map T.int)],.bl true,⟨.ref a,[],rfl,⟨a,ns.map V.int,rfl,?_,ri ns⟩,rfl⟩,ht,fun v H' sm r=>⟨(aL.scal rfl).mp r,sm _ _ hHP⟩⟩;rcases hS with hS | hS
   ·exact .inl ⟨trivial,hS⟩
   ·exact .inr hS
  refine codeAny_mono ((F _ hKb (nsK hns)).run callerA [] s₁ H ⟨[.ref a],[]⟩ [.ref a] [.ref a] _ _ hr e0 (hbind s₁ (.ref a)) (.cons rfl .nil) hsp) fun r s' h=>?_;cases r with
  | error e=>exact False.elim h
  | ok fl=>
   cases fl with
   | next=>exact False.elim h
   | brk=>exact False.elim h
   | cont=>exact False.elim h
   | ret u=>
    obtain⟨v,H',os,bare,un,hok',r',q1,q2⟩:=h;have q':v=.bl true:=q1;subst q';obtain rfl:u=Value.bool true:=r';refine⟨rfl,⟨fun b o e=>?_,fun b o e=>un.there b o e (by simp)⟩,os,bare⟩
    by_cases hbP:b=Pt
    ·subst hbP
     obtain⟨ps,h1,_⟩:=hok' b _ q2;rw[hPt] at e;cases e;exact .inr (.inl ⟨((PySem.W.codeHd_of_K KX hC).tab hPt).isCodeTable,rfl,#[],ps,rfl,by rw[h1];simp⟩)
    ·cases hq:H b with
     | none=>exact .inl (un.keep b o e hq (by intro z;exact absurd (show b∈([]:List Addr) from z) (by simp)) (by simp))
     | some u=>
      obtain⟨_,ob,xs,z⟩:=hA b (by rw[hq];simp) hbP;have z2:=un.frzs b ob _ z;obtain⟨e1,_⟩:=hok b _ z;obtain⟨e2,_⟩:=hok' b _ z2;rw[e] at e1;cases e1;exact .inl e2
 have tb:∀ H:Hp,H Pt=some (.tbc lpos q)->cN P w H s₁.heap Pt (.tbc lpos q):=fun H _=>⟨#[],hPt,trivial,.inl rfl⟩;cases hk:K.lookup a with
 | some o=>
  have e:=KX a o hk;rw[ha] at e;cases e;have h1:(fun b=>if b=Pt then some (HO.tbc lpos q) else none) Pt=some (HO.tbc lpos q):=if_pos rfl;refine core (fun b=>if b=Pt then some (.tbc lpos q) else none) h1 (.inr ⟨_,vs.toArray,_,hk,rfl,rfl,rfl,by rw[aKf,lenV];exact hl,by simpa using rv⟩) (fun b u z=>?_) (fun b z hb=>absurd (if_neg hb) z) fun z=>absurd (if_neg haP) z
  by_cases hbP:b=Pt
  ·subst hbP
   rw[h1] at z;cases z;exact tb _ h1
  ·have z':=(if_neg hbP).symm.trans z
   cases z'
 | none=>
  have h1:(fun b=>if b=Pt then some (HO.tbc lpos q) else if b=a then some (HO.frz { cls:=.type "list",data:=.seq vs.toArray } (.lst (ns.map V.int))) else none) Pt=some (HO.tbc lpos q):=if_pos rfl;have h2:(fun b=>if b=Pt then some (HO.tbc lpos q) else if b=a then some (HO.frz { cls:=.type "list",data:=.seq vs.toArray } (.lst (ns.map V.int))) else none) a=some (HO.frz { cls:=.type "list",data:=.seq vs.toArray } (.lst (ns.map V.int))):=(if_neg haP).trans (if_pos rfl);refine core (fun b=>if b=Pt then some (.tbc lpos q) else if b=a then some (.frz { cls:=.type "list",data:=.seq vs.toArray } (.lst (ns.map V.int))) else none) h1 (.inl (.inr ⟨{ cls:=.type "list",data:=.seq vs.toArray },h2⟩)) (fun b u z=>?_) (fun b z hb=>?_) fun _=>hk
  ·by_cases hbP:b=Pt
   ·subst hbP
    rw[h1] at z;cases z;exact tb _ h1
   ·by_cases hba:b=a
    ·subst hba
     rw[h2] at z;cases z;exact⟨ha,by rw[aLo];exact hl,vs,_,rv,ha⟩
    ·have z':=((if_neg hbP).trans (if_neg hba)).symm.trans z
     cases z'
  ·by_cases hba:b=a
   ·subst hba
    exact⟨rfl,_,_,h2⟩
   ·exact absurd ((if_neg hb).trans (if_neg hba)) z
theorem ZK {l:PySem.W.OpenLaw}{q:Program}{loose:List Str}{XP:(Str->Option Value)->Heap->Prop}{YP:World->Heap->Prop}{d:DefRec}{K:Params->PySem.W.Frag}{k:Nat}{F0:List T->Option T}{n:Bool}{lv:Nat}{Pt c:Addr}{lpos:Pos}{qn:Str}(hr:Room k callerA) (hn:l.most=some 63) (hdf:d.params.defaults=[])
  (hY:∀ (w:World) (h:Heap),YP w h->(K w.params).In h/\h.get? Pt=some (PySem.W.tabObj #[])) (hC:∀ p,PySem.W.codeHdIn (K p) c Pt=true) (hPK:∀ p,(K p).lookup Pt=none)
  (F:∀ (w:World) (mg:Str->Option Value) (fa:Addr) (h:Heap),(K w.params).In h->h.Ns mainGlobals mg->mg d.name=some (.ref fa) ->
   ∃ fd:FuncData,(∀ (s:Shared) (u:Value),BindsTo s fd ⟨[u],[]⟩ [("script",u)])/\∀ base:Heap,(K w.params).In base->base.Ns mainGlobals mg->FnOk l.prog w (K w.params) mg base CX0 k fa fd ["script"] (spP Pt (.tbc lpos qn) (spT (K w.params) F0 n lv)))
  (ht:∀ ns:List Int,ns.length<=63->F0 [.lst (ns.map T.int)]=some (.bl true)):
  PySem.W.WalkO q loose XP YP l.row.toRowW d [] (fun f vs=>PySem.call f vs):=by
 refine Att.attach_call hn hdf fun w s₀ s₁ mg mb fa o pm cd doc a vs ns G Y ho hd hcd hmg hobj hints hlen hg=>?_;obtain⟨KX,hPt⟩:=hY w _ Y;obtain⟨fd,hb,hF⟩:=F w mg fa _ KX G.T.g hmg;exact ZJ KX G.T.g G.T.b G.T.builtins G.T.nolimit hg hobj hints (aMh hlen (by decide)) hr (hC _) hPt (hPK _) hF hb (ht ns hlen)
section
variable {X:Cx}{B:Hp}{fl:List Nat}{e:Expr}{es:List Expr}{fa:Rho->Option (List T)}{l:Nat}{pos p':Pos}{x:Str}
end
def sY (n:Nat) (l:List Nat):Bool:=decide (l.length=n)&&l.all (fun i=>decide (i<n))&&(List.range n).all (fun i=>l.contains i)&&decide l.Nodup
def fQ (n:Nat):List (Nat × Nat × Bool)->PySem.W.KasT (Array Nat)->Bool
 | _,.ret p=>sY n p.toList
 | tr,.ask i j k=>decide (i<n)&&decide (j<n)&&(if tr.contains (i,j,true)=true then fQ n tr (k true) else if tr.contains (i,j,false)=true then fQ n tr (k false) else fQ n ((i,j,true)::tr) (k true)&&fQ n ((i,j,false)::tr) (k false))
def pW (lt:List (Nat × Nat)) (a b:Nat):List (Nat × Nat):=((a::(lt.filter (·.2 == a)).map (·.1)).flatMap fun x=>(b::(lt.filter (·.1 == b)).map (·.2)).map fun y=>(x,y))++lt
def tE (lt:List (Nat × Nat)):List Nat->Bool
 | a::b::r=>lt.contains (a,b)&&tE lt (b::r)
 | _=>true
def eX (n:Nat):List (Nat × Nat)->PySem.W.KasT (Array Nat)->Bool
 | lt,.ret p=>sY n p.toList&&tE lt p.toList
 | lt,.ask i j k=>decide (i<n)&&decide (j<n)&&decide (i≠j)&&(if lt.contains (i,j)=true then eX n lt (k true) else if lt.contains (j,i)=true then eX n lt (k false) else eX n (pW lt i j) (k true)&&eX n (pW lt j i) (k false))
def pV (ask:Nat->Nat->Bool):List Nat->Prop
 | a::b::r=>ask a b=true/\pV ask (b::r)
 | _=>True
def jJ (n:Nat) (l:List Nat):Prop:=l.length=n/\(∀ i∈l,i<n)/\(∀ i<n,i∈l)/\l.Nodup
theorem JM {n:Nat}{l:List Nat}(h:sY n l=true):jJ n l:=by
 unfold sY at h;simp only[aKn,decide_eq_true_eq,aKc,aL4,aKd] at h;exact⟨h.1.1.1,h.1.1.2,h.1.2,h.2⟩
theorem LD {ask:Nat->Nat->Bool}{lt:List (Nat × Nat)}(ht:∀ x∈lt,ask x.1 x.2=true):∀ l,tE lt l=true->pV ask l
 | [],_=>trivial
 | [_],_=>trivial
 | a::b::r,h=>by
  have h:(lt.contains (a,b)&&tE lt (b::r))=true:=h;simp only[aKn,aL4] at h;exact⟨ht _ h.1,LD ht _ h.2⟩
theorem EB {ask:Nat->Nat->Bool}(tr:∀ i j k,ask i j=true->ask j k=true->ask i k=true) {lt:List (Nat × Nat)}{a b:Nat}(ht:∀ x∈lt,ask x.1 x.2=true) (h:ask a b=true):∀ x∈pW lt a b,ask x.1 x.2=true:=by
 intro x hx;unfold pW at hx;rcases aLy.mp hx with hx | hx
 ·obtain⟨u,hu,hx⟩:=List.mem_flatMap.mp hx
  obtain⟨v,hv,rfl⟩:=aM5.mp hx;have h1:u=a\/ask u a=true:=by
   rcases aKi.mp hu with e | hu
   ·exact .inl e
   ·obtain⟨q,hq,rfl⟩:=aM5.mp hu
    obtain⟨h1,h2⟩:=aM1.mp hq;have:=ht q h1;rw[eq_of_beq h2] at this;exact .inr this
  have h2:v=b\/ask b v=true:=by
   rcases aKi.mp hv with e | hv
   ·exact .inl e
   ·obtain⟨q,hq,rfl⟩:=aM5.mp hv
    obtain⟨h1,h2⟩:=aM1.mp hq;have:=ht q h1;rw[eq_of_beq h2] at this;exact .inr this
  have h3:ask u b=true:=by
   rcases h1 with rfl | h1
   ·exact h
   ·exact tr _ _ _ h1 h
  rcases h2 with rfl | h2
  ·exact h3
  ·exact tr _ _ _ h3 h2
 ·exact ht x hx
theorem HZ {n:Nat}{ask:Nat->Nat->Bool}:∀ (t:PySem.W.KasT (Array Nat)) (tr:List (Nat × Nat × Bool)),(∀ i j b,(i,j,b)∈tr->ask i j=b)->fQ n tr t=true->eW n ask t=true/\jJ n (dL ask t).toList
 | .ret p,tr,ht,h=>⟨rfl,JM h⟩
 | .ask i j k,tr,ht,h=>by
  have h:(decide (i<n)&&decide (j<n)&&(if tr.contains (i,j,true)=true then fQ n tr (k true) else if tr.contains (i,j,false)=true then fQ n tr (k false) else fQ n ((i,j,true)::tr) (k true)&&fQ n ((i,j,false)::tr) (k false)))=true:=h;rw[aKn,aKn,decide_eq_true_eq,decide_eq_true_eq] at h;obtain⟨hij,h⟩:=h;obtain⟨tr',ht',key⟩:∃ tr',(∀ i j b,(i,j,b)∈tr'->ask i j=b)/\fQ n tr' (k (ask i j))=true:=by
   by_cases c1:tr.contains (i,j,true)=true
   ·rw[if_pos c1] at h
    exact⟨tr,ht,by rw[ht _ _ _ (aL4.mp c1)];exact h⟩
   ·rw[if_neg c1] at h
    by_cases c2:tr.contains (i,j,false)=true
    ·rw[if_pos c2] at h
     exact⟨tr,ht,by rw[ht _ _ _ (aL4.mp c2)];exact h⟩
    ·rw[if_neg c2,aKn] at h
     refine⟨(i,j,ask i j)::tr,fun a b c hm=>?_,?_⟩
     ·rcases aKi.mp hm with e | hm
      ·cases e;rfl
      ·exact ht a b c hm
     ·cases ask i j with
      | true=>exact h.1
      | false=>exact h.2
  obtain⟨h1,h2⟩:=HZ (k (ask i j)) tr' ht' key;refine⟨?_,h2⟩;show (decide (i<n)&&decide (j<n)&&eW n ask (k (ask i j)))=true;simp only[aKn,decide_eq_true_eq];exact⟨hij,h1⟩
theorem IA {n:Nat}{ask:Nat->Nat->Bool}(ha:∀ i j,ask i j=true->ask j i=false) (hs:∀ i j,i≠j->ask i j=false->ask j i=true) (tr:∀ i j k,ask i j=true->ask j k=true->ask i k=true):
  ∀ (t:PySem.W.KasT (Array Nat)) (lt:List (Nat × Nat)),(∀ x∈lt,ask x.1 x.2=true)->eX n lt t=true->eW n ask t=true/\jJ n (dL ask t).toList/\pV ask (dL ask t).toList
 | .ret p,lt,ht,h=>by
  have h:(sY n p.toList&&tE lt p.toList)=true:=h;rw[aKn] at h;exact⟨rfl,JM h.1,LD ht _ h.2⟩
 | .ask i j k,lt,ht,h=>by
  have h:(decide (i<n)&&decide (j<n)&&decide (i≠j)&&(if lt.contains (i,j)=true then eX n lt (k true) else if lt.contains (j,i)=true then eX n lt (k false) else eX n (pW lt i j) (k true)&&eX n (pW lt j i) (k false)))=true:=h;rw[aKn,aKn,aKn,decide_eq_true_eq,decide_eq_true_eq,decide_eq_true_eq] at h;obtain⟨⟨hij,hne⟩,h⟩:=h;obtain⟨lt',ht',key⟩:∃ lt',(∀ x∈lt',ask x.1 x.2=true)/\eX n lt' (k (ask i j))=true:=by
   by_cases c1:lt.contains (i,j)=true
   ·rw[if_pos c1] at h
    exact⟨lt,ht,by rw[ht _ (aL4.mp c1)];exact h⟩
   ·rw[if_neg c1] at h
    by_cases c2:lt.contains (j,i)=true
    ·rw[if_pos c2] at h
     exact⟨lt,ht,by rw[ha _ _ (ht _ (aL4.mp c2))];exact h⟩
    ·rw[if_neg c2,aKn] at h
     cases e:ask i j with
     | true=>exact⟨_,EB tr ht e,h.1⟩
     | false=>exact⟨_,EB tr ht (hs _ _ hne e),h.2⟩
  obtain⟨h1,h2⟩:=IA ha hs tr (k (ask i j)) lt' ht' key;refine⟨?_,h2⟩;show (decide (i<n)&&decide (j<n)&&eW n ask (k (ask i j)))=true;simp only[aKn,decide_eq_true_eq];exact⟨hij,h1⟩
theorem RO:((List.range 7).all fun n=>fQ n [] (PySem.W.kas_sort n))=true:=by kernel_rfl
theorem RP:((List.range 7).all fun n=>decide (n<2)||eX n [] (PySem.W.kas_sort n))=true:=by kernel_rfl
theorem YU {n:Nat}(hn:n<=6) (ask:Nat->Nat->Bool):eV n ask=true/\∃ l,jJ n l/\dW n ask=l.map fun (i:Nat)=>(i:Int):=by
 have h:=aKc.mp RO n (aKd.mpr (by lia));obtain⟨h1,h2⟩:=HZ (ask:=ask) _ [] (fun _ _ _ z=>by cases z) h
 by_cases h3:n<2
 ·refine⟨by simp[eV,h3],List.range n,⟨aLq,fun i hi=>aKd.mp hi,fun i hi=>aKd.mpr hi,List.nodup_range⟩,by simp[dW,h3,upT]⟩
 ·refine⟨?_,_,h2,by simp[dW,h3]⟩
  unfold eV;simp only[aKt,aKn,decide_eq_true_eq,aKc];exact .inr ⟨⟨h1,h2.2.1⟩,h2.1⟩
theorem YV {n:Nat}(hn:n<=6) {ask:Nat->Nat->Bool}(ha:∀ i j,ask i j=true->ask j i=false) (hs:∀ i j,i≠j->ask i j=false->ask j i=true) (tr:∀ i j k,ask i j=true->ask j k=true->ask i k=true):
  ∃ l,jJ n l/\pV ask l/\dW n ask=l.map fun (i:Nat)=>(i:Int):=by
 by_cases h3:n<2
 ·refine⟨List.range n,⟨aLq,fun i hi=>aKd.mp hi,fun i hi=>aKd.mpr hi,List.nodup_range⟩,?_,by simp[dW,h3,upT]⟩
  have:n=0\/n=1:=by lia
  rcases this with rfl | rfl<;>exact trivial
 ·have h:=aKc.mp RP n (aKd.mpr (by lia))
  have h':eX n [] (PySem.W.kas_sort n)=true:=by simpa [h3] using h
  obtain⟨_,h2,h4⟩:=IA ha hs tr _ [] (fun _ z=>by cases z) h';exact⟨_,h2,h4,by simp[dW,h3]⟩
theorem rL {ns:List Int}{i j:Nat}:eE ns i j=true ↔ ns.getD j 0<ns.getD i 0\/(ns.getD i 0=ns.getD j 0/\i<j):=by
 unfold eE
 by_cases h:ns.getD i 0=ns.getD j 0
 ·rw[if_pos (by rw[h];simp)]
  by_cases h2:i=j
  ·subst h2;simp
  ·rw[if_neg (by simp only[beq_iff_eq];lia)]
   simp only[decide_eq_true_eq];lia
 ·rw[if_neg (by simp only[beq_iff_eq];lia)]
  simp only[decide_eq_true_eq];lia
theorem YW {ns:List Int}(hn:ns.length<=6):∃ l,jJ ns.length l/\pV (eE ns) l/\dW ns.length (eE ns)=l.map fun (i:Nat)=>(i:Int):=by
 refine YV hn (fun i j h=>?_) (fun i j hne h=>?_) (fun i j k h1 h2=>?_)
 ·cases h2:eE ns j i with
  | false=>rfl
  | true=>
   rw[rL] at h h2;lia
 ·have h':¬ eE ns i j=true:=by rw[h];decide
  rw[rL] at h' ⊢;lia
 ·rw[rL] at h1 h2 ⊢
  lia
theorem jJ.perm {n:Nat}{l:List Nat}(h:jJ n l):l.Perm (List.range n):=(List.perm_ext_iff_of_nodup h.2.2.2 List.nodup_range).mpr fun a=>⟨fun z=>aKd.mpr (h.2.1 a z),fun z=>h.2.2.1 a (aKd.mp z)⟩
theorem LE {ask:Nat->Nat->Bool}(tr:∀ i j k,ask i j=true->ask j k=true->ask i k=true):∀ l,pV ask l->l.Pairwise fun a b=>ask a b=true
 | [],_=>.nil
 | [a],_=>by simp
 | a::b::r,h=>by
  have ih:=LE tr (b::r) h.2;refine aMc.mpr ⟨fun c hc=>?_,ih⟩;rcases aKi.mp hc with rfl | hc
  ·exact h.1
  ·exact tr _ _ _ h.1 ((aMc.mp ih).1 c hc)
theorem aCq {ns:List Int}(hn:ns.length<=6):∃ l:List Nat,l.Perm (List.range ns.length)/\l.Pairwise (fun a b=>ns.getD b 0<ns.getD a 0\/(ns.getD a 0=ns.getD b 0/\a<b))/\eV ns.length (eE ns)=true/\dW ns.length (eE ns)=l.map fun (i:Nat)=>(i:Int):=by
 obtain⟨l,h1,h2,h3⟩:=YW hn;refine⟨l,h1.perm,(LE (fun i j k h1 h2=>?_) l h2).imp fun h=>rL.mp h,(YU hn _).1,h3⟩;rw[rL] at h1 h2 ⊢;lia
def aEd (i:Nat):Rho->Option Out:=fun ρ=>(aA i ρ).bind fun t=>match t with
 | .lst ts=>if ts.length=0 then none else some (.nx (ρ.set i (some (.lst ts.dropLast))))
 | _=>none
@[simp] theorem rPop0_at (i:Nat) (ρ:Rho):aEd i ρ=(aA i ρ).bind fun t=>match t with
 | .lst ts=>if ts.length=0 then none else some (.nx (ρ.set i (some (.lst ts.dropLast))))
 | _=>none:=id rfl
section
variable {X:Cx}{B:Hp}{fl:List Nat}{n:Bool}{l:Nat}{pos pos':Pos}{x:Str}
end
section
variable {X:Cx}{B:Hp}{fl:List Nat}{a b:Expr}{f g:Rho->Option T}{n n':Bool}{l l':Nat}{pos:Pos}
open SeqAt in
end
end G
namespace L2
open PySem PySem.Spec PyProof.Rows
def rem (S:List Addr) (h:Heap):Heap:={ h with objs:=h.objs.mapIdx fun i o=>if i∈S then { o with data:=.freed } else o }
theorem jU {S:List Addr}{h:Heap}{b:Addr}(hb:b∈S):(rem S h).get? b=none:=by
 unfold rem Heap.get?;simp only[Array.getElem?_mapIdx];cases h.objs[b]? with
 | none=>rfl
 | some o=>simp[hb]
theorem fW {S:List Addr}{h:Heap}{b:Addr}(hb:b ∉ S):(rem S h).get? b=h.get? b:=by
 unfold rem Heap.get?;simp only[Array.getElem?_mapIdx];cases e:h.objs[b]? with
 | none=>rfl
 | some o=>simp[hb]
theorem yF (S:List Addr) (h:Heap):(rem S h).StaysIn h:=fun b o e=>by
 by_cases hb:b∈S
 ·rw[jU hb] at e;cases e
 ·rw[fW hb] at e;exact e
theorem rT {S:List Addr}{h B:Heap}:∀ {l:List Env},(∀ b∈frs l,b∈S)->h.FunFrames B l->h.FunFrames (rem S h) l
 | [],_,_=>by unfold Heap.FunFrames;trivial
 | env::l,hs,hf=>by
  unfold Heap.FunFrames at hf ⊢;obtain⟨k,⟨L,o,f,_,g,d⟩,r⟩:=hf;have hL:L∈frs (env::l):=by
   unfold frs;exact aM2.mpr ⟨env,aKa,f⟩
  refine⟨k,⟨L,o,f,jU (hs L hL),g,d⟩,rT (fun b hb=>hs b ?_) r⟩;unfold frs at hb ⊢;obtain⟨e,he,hx⟩:=aM2.mp hb;exact aM2.mpr ⟨e,aK9 _ he,hx⟩
theorem cN.there {P:Program}{w:World}{H:Hp}{h:Heap}{a:Addr}{o:HO}(x:cN P w H h a o):∃ u,h.get? a=some u:=by
 induction o with
 | lst xs=>obtain⟨_,_,_,_,e⟩:=x;exact⟨_,e⟩
 | tup xs=>obtain⟨_,_,_,ob,e,_⟩:=x;exact⟨_,e⟩
 | dK kvs=>obtain⟨_,_,_,_,o,_,_,e,_⟩:=x;exact⟨_,e⟩
 | dT kvs=>obtain⟨_,_,_,_,o,_,_,e,_⟩:=x;exact⟨_,e⟩
 | set S n=>obtain⟨o,_,_,_,e,_⟩:=x;exact⟨_,e⟩
 | ins C dx fs=>obtain⟨_,_,_,e,_⟩:=x;exact⟨_,e⟩
 | own y=>exact x
 | xd fs=>obtain⟨_,⟨_,_,_,e,_⟩,_⟩:=x;exact⟨_,e⟩
 | rng lo hi=>obtain⟨_,_,_,e⟩:=x;exact⟨_,e⟩
 | frz ob u ih=>exact⟨_,x.1⟩
 | tbl ps=>exact⟨_,x⟩
 | met f y=>exact⟨_,x⟩
 | ext φ=>exact x.2.1
 | tbc pos q=>obtain⟨_,e,_⟩:=x;exact⟨_,e⟩
structure Air (fr:Bool) (h₀:Heap) (H:Hp) (a:Addr) (cls:Value) (h:Heap):Prop where
 new:h₀.get? a=none
 free:H a=none
 obj:∃ oe vs a0,h.get? a=some oe/\oe.cls=cls/\oe.data=.fields vs/\vs[0]?=some a0/\((fr=true/\vs[1]?=some .none) \/
  ∃ T oT ts,fr=false/\vs[1]?=some (.ref T)/\h₀.get? T=none/\H T=none/\T≠a/\h.get? T=some oT/\oT.data=.fields ts/\ts[3]?=some .none)
def CX1 (P:Program) (w:World):CXT:=fun outer H s E e s'=>∃ a cls H',e=.ref a/\s'.os=s.os/\AllBare s'.gens/\Un (frs outer) [] H H' s.heap s'.heap/\HOk P w H' s'.heap/\Air false s.heap H' a cls s'.heap/\E cls none H'
theorem IG {P:Program}{w:World}{l:List Env}{H H':Hp}{h₀ h h' B0:Heap}{a:Addr}{cls a0:Value}{fr:Bool}(un:Un (frs l) [] H H' h₀ h) (hok:HOk P w H' h) (hff:h.FunFrames B0 l) (hfree:∀ b∈frs l,H' b=none) (x:Air fr h₀ H' a cls h) (S:List Addr)
  (hS2:∀ b∈S,b∈frs l\/(h₀.get? b=none/\H' b=none)) (hl:(rem S h).LeftW l a cls a0 h h'):Un (frs l) [] H H' h₀ h'/\HOk P w H' h'/\Air false h₀ H' a cls h':=by
 obtain⟨st,ff,trc,slo⟩:=hl;have noS:∀ b o,h₀.get? b=some o->b ∉ frs l->b ∉ S:=fun b o e hb hbS=>by
  rcases hS2 b hbS with z | ⟨z,_⟩
  ·exact hb z
  ·rw[e] at z;cases z
 have tracked:∀ b o,H' b=some o->b ∉ S:=fun b o e hbS=>by
  rcases hS2 b hbS with z | ⟨_,z⟩
  ·rw[hfree b z] at e;cases e
  ·rw[z] at e;cases e
 refine⟨⟨?_,?_,un.free,?_,un.tups,un.frzs,un.tbls⟩,?_,⟨x.new,x.free,?_⟩⟩
 ·intro b o e n hb hx
  have e1:=un.keep b o e n hb hx;exact st b o (by rw[fW (noS b o e hb)];exact e1)
 ·intro b o e n hb hx
  obtain⟨sl,e1⟩:=un.slot b o e n hb hx;obtain⟨_,o2,e2,nd⟩:=hff.mem hb;obtain⟨sl',e3⟩:=slo b o2 e2 nd;rw[e1] at e2;cases aK6 e2;exact⟨sl',e3⟩
 ·intro b o e hx
  by_cases hb:b∈frs l
  ·obtain⟨_,o2,e2,nd⟩:=hff.mem hb
   obtain⟨sl',e3⟩:=slo b o2 e2 nd;exact⟨_,e3⟩
  ·obtain⟨o',e1⟩:=un.there b o e hx
   exact⟨o',st b o' (by rw[fW (noS b o e hb)];exact e1)⟩
 ·intro b o e
  refine (hok b o e).stay (fun b' u hb' g'=>?_) (fun _ z=>z) fun _ _ z=>z;have:b' ∉ S:=by
   rcases hb' with rfl | hb'
   ·exact tracked _ _ e
   ·exact tracked _ _ hb'
  exact st b' u (by rw[fW this];exact g')
 ·obtain⟨oe',vs',T,oT,ts,t1,⟨t2,t2'⟩,t3,t4,t5,t6,t7,t8,t9⟩:=trc
  refine⟨oe',vs',a0,t1,t2,t3,t2',.inr ⟨T,oT,ts,rfl,t4,?_,?_,t6,t7,t8,t9⟩⟩
  ·by_cases hT:T∈S
   ·rcases hS2 T hT with z | ⟨z,_⟩
    ·obtain⟨_,o2,e2,nd⟩:=ff.mem z
     rw[t7] at e2;cases aK6 e2;exact absurd t8 (nd _)
    ·exact z
   ·rw[fW hT] at t5
    cases e0:h₀.get? T with
    | none=>rfl
    | some o=>
     obtain⟨o',e1⟩:=un.there T o e0 (by simp);rw[t5] at e1;cases e1
  ·by_cases hT:T∈S
   ·rcases hS2 T hT with z | ⟨_,z⟩
    ·obtain⟨_,o2,e2,nd⟩:=ff.mem z
     rw[t7] at e2;cases aK6 e2;exact absurd t8 (nd _)
    ·exact z
   ·rw[fW hT] at t5
    cases e0:H' T with
    | none=>rfl
    | some o=>
     obtain⟨u,e1⟩:=(hok T o e0).there;rw[t5] at e1;cases e1
theorem ZL {X:Cx}{pins:List (Addr × Obj)}{σ:St}{H:Hp}{s:Shared}{a:Addr}{cls:Value}{E:XK}{E':Value->Shared->Prop}{fr:Bool}(I:Inv X pins σ H s) (hst:X.stack=X.env::X.outer) (hL:X.env.frame=some X.env.locals) (hex:X.ex=[])
  (x:Air fr X.s₀.heap H a cls s.heap) (q:E cls none H):wpAny (model X.prog X.w) X.A (leaving X.env (.ref a)) (fun _ s''=>CX1 X.prog X.w X.outer X.H₀ X.s₀ E (.ref a) s'') E' s:=by
 have hfr:X.A.frames=some (X.env::X.outer):=by rw[<- hst];exact I.ok.frames
 have hff:s.heap.FunFrames X.base (X.env::X.outer):=by rw[<- hst];exact I.stack
 have hfree:∀ b∈frs (X.env::X.outer),H b=none:=by rw[<- hst];exact I.stkFree
 have hbase:=I.base;rw[hex] at hbase;obtain⟨oe,vs,a0,g,c,d,v0,tr⟩:=x.obj;have main:∀ (S:List Addr),(∀ b∈frs (X.env::X.outer),b∈S)->(∀ b∈S,b∈frs (X.env::X.outer)\/(X.s₀.heap.get? b=none/\H b=none))->a∈S->∀ h',(rem S s.heap).LeftW (X.env::X.outer) a oe.cls a0 s.heap h'->CX1 X.prog X.w X.outer X.H₀ X.s₀ E (.ref a) { heap:=h',gens:=s.gens,drawn:=s.drawn,toks:=s.toks,os:=s.os }:=by
  intro S hS1 hS2 ha h' hl;obtain⟨st,ff,trc,slo⟩:=hl;have noS:∀ b o,X.s₀.heap.get? b=some o->b ∉ frs X.outer->b ∉ S:=fun b o e hb hbS=>by
   rcases hS2 b hbS with z | ⟨z,_⟩
   ·unfold frs at z
    obtain⟨env,he,hx⟩:=aM2.mp z;rcases aKi.mp he with rfl | he
    ·rw[hL] at hx
     have h1:=aK6 hx;have h2:=aKx e;exact absurd h2 (by rw[<- h1];exact Nat.not_lt.mpr I.ok.above)
    ·exact hb (aM2.mpr ⟨env,he,hx⟩)
   ·rw[e] at z;cases z
  have inOuter:∀ b,b∈frs X.outer->b∈frs (X.env::X.outer):=fun b hb=>by
   unfold frs at hb ⊢;obtain⟨e,he,hx⟩:=aM2.mp hb;exact aM2.mpr ⟨e,aK9 _ he,hx⟩
  have tracked:∀ b o,H b=some o->b ∉ S:=fun b o e hbS=>by
   rcases hS2 b hbS with z | ⟨_,z⟩
   ·rw[hfree b z] at e;cases e
   ·rw[z] at e;cases e
  refine⟨a,cls,H,rfl,I.os,I.bare,⟨?_,?_,?_,?_,hbase.tups,hbase.frzs,hbase.tbls⟩,?_,⟨x.new,x.free,?_⟩,q⟩
  ·intro b o e n hb hx
   have e1:=hbase.keep b o e n hb hx;exact st b o (by rw[fW (noS b o e hb)];exact e1)
  ·intro b o e n hb hx
   obtain⟨sl,e1⟩:=hbase.slot b o e n hb hx;obtain⟨_,o2,e2,nd⟩:=hff.mem (inOuter b hb);obtain⟨sl',e3⟩:=slo b o2 e2 nd;rw[e1] at e2;cases aK6 e2;exact⟨sl',e3⟩
  ·exact hbase.free
  ·intro b o e hx
   by_cases hb:b∈frs X.outer
   ·obtain⟨_,o2,e2,nd⟩:=hff.mem (inOuter b hb)
    obtain⟨sl',e3⟩:=slo b o2 e2 nd;exact⟨_,e3⟩
   ·obtain⟨o',e1⟩:=hbase.there b o e hx
    exact⟨o',st b o' (by rw[fW (noS b o e hb)];exact e1)⟩
  ·intro b o e
   refine (I.hok b o e).stay (fun b' u hb' g'=>?_) (fun _ z=>z) fun _ _ z=>z;have:b' ∉ S:=by
    rcases hb' with rfl | hb'
    ·exact tracked _ _ e
    ·exact tracked _ _ hb'
   exact st b' u (by rw[fW this];exact g')
  ·obtain⟨oe',vs',T,oT,ts,t1,⟨t2,t2'⟩,t3,t4,t5,t6,t7,t8,t9⟩:=trc
   refine⟨oe',vs',a0,t1,by rw[t2,c],t3,t2',.inr ⟨T,oT,ts,rfl,t4,?_,?_,t6,t7,t8,t9⟩⟩
   ·by_cases hT:T∈S
    ·rcases hS2 T hT with z | ⟨z,_⟩
     ·obtain⟨_,o2,e2,nd⟩:=ff.mem z
      rw[t7] at e2;cases aK6 e2;exact absurd t8 (nd _)
     ·exact z
    ·rw[fW hT] at t5
     cases e0:X.s₀.heap.get? T with
     | none=>rfl
     | some o=>
      obtain⟨o',e1⟩:=hbase.there T o e0 (by simp);rw[t5] at e1;cases e1
   ·by_cases hT:T∈S
    ·rcases hS2 T hT with z | ⟨_,z⟩
     ·obtain⟨_,o2,e2,nd⟩:=ff.mem z
      rw[t7] at e2;cases aK6 e2;exact absurd t8 (nd _)
     ·exact z
    ·rw[fW hT] at t5
     cases e0:H T with
     | none=>rfl
     | some o=>
      obtain⟨u,e1⟩:=(I.hok T o e0).there;rw[t5] at e1;cases e1
 rcases tr with ⟨_,tr⟩ | ⟨T,oT,ts,_,t1,t2,t3,t4,t5,t6,t7⟩
 ·refine wpAny_leaving_firstW (a0:=a0) (base:=rem (frs (X.env::X.outer)++[a]) s.heap) hfr (rT (fun b hb=>aLz _ hb) hff) hL g (yF _ _) (jU (by simp)) d tr v0 fun h' hl=>?_
  exact main _ (fun b hb=>aLz _ hb) (fun b hb=>by
   rcases aLy.mp hb with z | z
   ·exact .inl z
   ·rw[aM8] at z;subst z;exact .inr ⟨x.new,x.free⟩) (by simp) h' hl
 ·refine wpAny_leaving_nextW (base:=rem (frs (X.env::X.outer)++[a,T]) s.heap) (cls:=oe.cls) (a0:=a0) hfr (rT (fun b hb=>aLz _ hb) hff) hL ⟨oe,vs,T,oT,ts,g,⟨rfl,v0⟩,d,t1,jU (by simp),t4,t5,t6,t7⟩ (yF _ _) (jU (by simp)) fun h' hl=>?_
  exact main _ (fun b hb=>aLz _ hb) (fun b hb=>by
   rcases aLy.mp hb with z | z
   ·exact .inl z
   ·rcases aKi.mp z with rfl | z
    ·exact .inr ⟨x.new,x.free⟩
    ·rw[aM8] at z;subst z;exact .inr ⟨t2,t3⟩) (by simp) h' hl
abbrev XS:=Bool->Value->St->Hp->Prop
def XP (X:Cx) (pins:List (Addr × Obj)) (Ex:XS) (e:Value) (s':Shared):Prop:=∃ fr a cls σ H H' s,e=.ref a/\Inv X pins σ H s/\s'.os=s.os/\AllBare s'.gens/\Un (frs X.stack) [] H H' s.heap s'.heap/\HOk X.prog X.w H' s'.heap/\Air fr s.heap H' a cls s'.heap/\Ex fr cls σ H'
abbrev TSX:=Ends->XS->St->Hp->Prop
abbrev TEX:=St->Hp->VK->(Bool->Value->Hp->Prop)->Prop
def PSX (X:Cx) (st:Stmt) (t:TSX):Prop:=
 ∀ (pins:List (Addr × Obj)) (s:Shared) (σ:St) (H:Hp) (D:Ends) (Ex:XS),Inv X pins σ H s->t D Ex σ H->wpAny (model X.prog X.w) X.A (exec st X.env) (SP X pins D) (XP X pins Ex) s
def eD (X:Cx) (st:List Stmt) (t:TSX):Prop:=
 ∀ (pins:List (Addr × Obj)) (s:Shared) (σ:St) (H:Hp) (D:Ends) (Ex:XS),Inv X pins σ H s->t D Ex σ H->wpAny (model X.prog X.w) X.A (execs st X.env) (SP X pins D) (XP X pins Ex) s
def PEX (X:Cx) (e:Expr) (t:TEX):Prop:=
 ∀ (pins:List (Addr × Obj)) (s:Shared) (σ:St) (H:Hp) (Q:VK) (Ex:Bool->Value->Hp->Prop),Inv X pins σ H s->t σ H Q Ex->wpAny (model X.prog X.w) X.A (eval e X.env) (EP X pins σ Q) (XP X pins fun fr c σ' H'=>σ'=σ/\Ex fr c H') s
section
variable {X:Cx}{st:Stmt}{rest a b:List Stmt}{t u:TSX}{e:Expr}{te:TEX}{pos:Pos}
theorem XP.mono {pins:List (Addr × Obj)}{Ex Ex':XS}{v:Value}{s':Shared}(h:XP X pins Ex v s') (k:∀ fr c σ H,Ex fr c σ H->Ex' fr c σ H):XP X pins Ex' v s':=
 let ⟨fr,a,c,σ,H,H',s,e,I,x1,x2,x3,x4,x,q⟩:=h
 ⟨fr,a,c,σ,H,H',s,e,I,x1,x2,x3,x4,x,k _ _ _ _ q⟩
def tOf (t:TS):TSX:=fun D _ σ H=>t D σ H
theorem KB {t:TS}(h:PSs X.nox rest t):eD X rest (tOf t):=fun pins s σ H D Ex I q=>
 wpAny_mono (h pins s σ H D (I.wish _) q) (fun _ _ z=>z.unwish) fun _ _ z=>False.elim z
def aGi (t u:TSX):TSX:=fun D Ex σ H=>t { D with nx:=u D Ex } Ex σ H
theorem aDv (h1:PSX X st t) (h2:eD X rest u):eD X (st::rest) (aGi t u):=by
 intro pins s σ H D Ex I h;refine wpAny_execs_cons (thn (h1 pins s σ H { D with nx:=u D Ex } Ex I h) fun f s1 q=>?_);cases f with
 | next=>
  obtain⟨σ',H',I',q⟩:=q;exact h2 pins s1 σ' H' D Ex I' q
 | ret v=>exact q
 | brk=>exact q
 | cont=>exact q
theorem KC (h1:PSX X st t):eD X [st] t:=by
 intro pins s σ H D Ex I h;refine wpAny_execs_cons (thn (h1 pins s σ H D Ex I h) fun f s1 q=>?_);cases f with
 | next=>exact wpAny_execs_nil q
 | ret v=>exact q
 | brk=>exact q
 | cont=>exact q
def aG5 (c:TT) (t u:TSX):TSX:=fun D Ex σ H=>c σ H fun b H1=>if b=true then t D Ex σ H1 else u D Ex σ H1
theorem aDw {c:Expr}{tc:TT}(hc:PT X.nox c tc) (ha:eD X a t) (hb:eD X b u):PSX X (.If c a b pos) (aG5 tc t u):=by
 intro pins s σ H D Ex I h;refine wpAny_If (wpAny_mono (hc pins s σ H _ (I.wish _) h) (fun d s1 ⟨H1,I1,q1⟩=>?_) fun _ _ z=>False.elim z);cases d with
 | true=>exact ha pins s1 σ H1 D Ex I1.unwish q1
 | false=>exact hb pins s1 σ H1 D Ex I1.unwish q1
def aG0 (te:TEX):TSX:=fun D Ex σ H=>te σ H (fun _ H1=>D.nx σ H1) fun fr c H1=>Ex fr c σ H1
theorem KD (he:PEX X e te) (hs:swapsWith e none pos.line X.env=pure false:=by rfl):PSX X (.Expr e pos) (aG0 te):=by
 intro pins s σ H D Ex I h;refine wpAny_Expr_any (wpAny_mono (he pins s σ H _ _ I h) (fun v s1 ⟨x,H1,I1,r1,q1⟩=>⟨σ,H1,I1,q1⟩) fun v s1 z=>z.mono ?_) I.quiet hs;rintro fr c _ H1 ⟨rfl,q⟩;exact q
end
theorem Inv.oldNone {X:Cx}{pins:List (Addr × Obj)}{σ:St}{H:Hp}{s:Shared}{a:Addr}(I:Inv X pins σ H s) (hex:X.ex=[]) (e:s.heap.get? a=none):X.s₀.heap.get? a=none/\H a=none:=by
 constructor
 ·cases e0:X.s₀.heap.get? a with
  | none=>rfl
  | some o=>
   obtain⟨o',e1⟩:=I.base.there a o e0 (by rw[hex];simp);rw[e] at e1;cases e1
 ·cases e0:H a with
  | none=>rfl
  | some o=>
   obtain⟨u,e1⟩:=(I.hok a o e0).there;rw[e] at e1;cases e1
def aGf (C:Addr) (ta:TA):TSX:=fun _ Ex σ H=>ta σ H fun vs H1=>vs.length<=sizeLine/\Ex true (.ref C) σ H1
theorem aDx {X:Cx}{x:Str}{C:Addr}{B newId initId:String}{bmB:List Value}{np cpos pos:Pos}{e₀:Expr}{es:List Expr}{ta:TA}(hc:X.calm=true) (hex:X.ex=[]) (hg:Gl X x) (O:OwnCls x C bmB newId X.mg X.base) (FB:ExcBaseFacts B newId initId bmB)
  (ha:PA X.nox (e₀::es) ta) (hdb:(x == ("__debug__" : Str))=false:=by decide) (he:starEach (e₀::es) X.env=(false,eval e₀ X.env)::starEach es X.env:=by rfl) (hpl:(backTo cpos (starEach es X.env)).any (·.1)=false:=by rfl):
  PSX X (.Raise (some (.Call (.Name x np) (e₀::es) [] cpos)) none pos) (aGf C ta):=by
 intro pins s σ H D Ex I h;obtain⟨bm,N,nm,q,bs,hdct,sn,sub,ab,col,dd,k0,k1,k2,k3,k5,mN,hC,hN,hni,T⟩:=O.obj;refine wpAny_Raise_call_subT (nm:=nm) (q:=q) (N:=N) (bs:=bs) (hdct:=hdct) (sn:=sn) (sub:=sub) (ab:=ab) (col:=col) (dd:=dd) (k0:=k0) (k1:=k1) (k2:=k2) (k3:=k3) (k5:=k5) FB (T.hasType FB.hasBase) (I.ok.hd hc) (by rw[he];show (false||(backTo cpos (starEach es X.env)).any (·.1))=false;rw[hpl];rfl) hni (sH I hg O.bound ⟨rfl,?_⟩ hdb);rw[he];have hh:=ha cpos pins s σ H _ (I.wish _) h;rw[show starEach (e₀::es) X.nox.env=_ from he] at hh;refine Calls.evalArgs_plain (wpAny_mono hh (fun us s2 z=>?_) fun _ _ z=>False.elim z);obtain⟨vs,H1,I1,r,hl,q1⟩:=z;have I1:=I1.unwish;refine⟨rfl,by show us.length<=sizeLine;rw[<- r.length];exact hl,I1.bk _ _ hC,hN.keeps I1.bk,T.keeps I1.bk,fun h' e m=>?_⟩;obtain⟨n1,n2⟩:=I1.oldNone hex m.new;obtain⟨t,g,_,_⟩:=m.there;exact⟨true,e,_,σ,H1,H1,s2,rfl,I1,rfl,I1.bare,Un.kept m.keeps,I1.hok.kept m.keeps,⟨m.new,n2,⟨_,_,_,g,rfl,rfl,rfl,.inl ⟨rfl,rfl⟩⟩⟩,q1⟩
theorem eD.pss {P:Program}{w:World}{K:PySem.W.Frag}{mg:Str->Option Value}{base:Heap}{N:List Str}{qual:Str}{scope:Scope}{f:Addr}{cd:Value}{A:Around}{outer:List Env}{s:Shared}{H:Hp}{E:XK}{body:List Stmt}{t:TSX}
  (h:eD (aQ (CX1 P w) P w K mg base N qual scope f cd A outer s H E) body t):PSs (aQ (CX1 P w) P w K mg base N qual scope f cd A outer s H E) body (fun D σ H=>t D (fun _ c _ H'=>E c none H') σ H):=by
 intro pins s1 σ H1 D I q;refine wpAny_mono (h pins s1 σ H1 D _ I q) (fun _ _ z=>z) fun e s' z=>?_;obtain⟨fr,a,cls,σ',H0,H',s0,rfl,I0,os,bare,un,hok,air,q'⟩:=z;have I':=I0.call' (ch:=[]) os un hok bare fun b z=>absurd z (by simp);have x:Air fr s.heap H' a cls s'.heap:=by
  obtain⟨oe,vs,a0,g1,c1,d1,v0,tr⟩:=air.obj;exact⟨(I0.oldNone rfl air.new).1,air.free,oe,vs,a0,g1,c1,d1,v0,tr.imp id fun ⟨T,oT,ts,z0,z1,z2,z3,z4⟩=>⟨T,oT,ts,z0,z1,(I0.oldNone rfl z2).1,z3,z4⟩⟩
 exact ZL I' rfl rfl rfl x q'
theorem Fun.okX {P:Program}{w:World}{K:PySem.W.Frag}{mg:Str->Option Value}{base:Heap}{x qual:Str}{st:Stmt}{f:Addr}{fd:FuncData}{N ps:List Str}{k:Nat}{sp:Sp}(F:Fun K x qual st f fd) (S:FnScope N ps (defScope st)) (len:∀ vs H Q E,sp vs H Q E->vs.length=ps.length)
  (hbody:∀ (cdv:Value) (A:Around) (outer:List Env) (s:Shared) (H:Hp) (vs:List V) (Q:VK) (E:XK),Room k (A.deeper (envOfC qual (defScope st) s.heap.objs.size f cdv))->sp vs H Q E ->
   ∃ t,eD (aQ (CX1 P w) P w K mg base N qual (defScope st) f cdv A outer s H E) (defBody st) t/\t { nx:=fun _ H'=>Q .non H',rt:=Q } (fun _ c _ H'=>E c none H') (start N vs) H):FnOk P w K mg base (CX1 P w) (k+1) f fd ps sp:=by
 obtain⟨oc,od,kV,doc,pm,an,cdv,ct,osl,rfl,lk,hcd⟩:=F.ex;refine AS lk hcd S len fun A outer s H vs Q E hr hsp=>?_;obtain⟨t,h,q⟩:=hbody cdv A outer s H vs Q E hr hsp;exact⟨_,h.pss,q⟩
section
variable {X:Cx}{k:Nat}{f C:Addr}{fd:FuncData}{ps:List Str}{sp:Sp}{x:Str}{p pos:Pos}{e:Expr}{es:List Expr}{t:TA}
end
theorem aA1 {M:Model}{A:Around}{E:Value->Shared->Prop}{K:PySem.W.Frag}{s:Shared}{a C CE:Addr}{oe:Obj}{b:Bool}{cd:ClassData}{Q:Bool->Shared->Prop}(k:K.In s.heap) (ht:W.typeIn K (.ref CE)=some (.type "type")) (hc:W.clsIn K CE=some cd)
  (hb:W.subIn K (.ref CE) (.type "BaseException")=some true) (he:s.heap.get? a=some oe) (hcls:oe.cls=.ref C) (hs:W.subIn K (.ref C) (.ref CE)=some b) (q:Q b s):wpAny M A (excMatches (.ref a) (.ref CE)) Q E s:=by
 have keep:∀ (b:Addr) (o:Obj),s.heap.get? b=some o->s.heap.get? b=some o:=fun _ _ z=>z;unfold excMatches;refine wpAny_bind ?_;unfold isInstance;refine wpAny_bind (W.looks_typeIn k ht A _ E s keep ?_);refine wpAny_of_eq tc_notTuple ?_;refine wpAny_ite_false rfl (wpAny_bind (wpAny_pure ?_));refine wpAny_bind ?_;refine wpAny_forIn_list _ (fun l _ s'=>s'=s/\(l=[.ref CE]\/l=[])) _ (fun x rest _ s1 h1=>?_) (fun _ s1 h1=>?_) _ _ ⟨rfl,.inl rfl⟩
 ·obtain⟨rfl,h1⟩:=h1
  have hx:x=.ref CE/\rest=[]:=by
   rcases h1 with z | z
   ·injection z with z1 z2;exact⟨z1,z2⟩
   ·cases z
  obtain⟨rfl,rfl⟩:=hx;refine wpAny_bind ?_;unfold isExcClass;refine wpAny_bind ?_;obtain⟨oD,e1,e2⟩:∃ oD,s1.heap.get? CE=some oD/\oD.data=.cls cd:=by
   unfold W.clsIn at hc;split at hc
   ·rename_i _ _ _ _ _ e
    cases hc;exact⟨_,k _ _ e,rfl⟩
   ·cases hc
  obtain⟨h,g,d,t,os⟩:=s1;refine ks_wpAny_isType_cls e1 e2 ?_;refine wpAny_ite_true rfl (W.looks_subIn k hb A _ E _ (fun _ _ z=>z) ?_);exact wpAny_ite_false rfl (wpAny_pure ⟨rfl,.inr rfl⟩)
 ·obtain⟨rfl,_⟩:=h1
  refine wpAny_bind (wpAny_typeOf_ref he ?_);rw[hcls];refine wpAny_bind ?_;refine wpAny_forIn_list _ (fun l r s'=>s'=s1/\((l=[.ref CE]/\r=(none,()))\/(l=[]/\r=(none,())/\b=false))) _ (fun x rest r s2 h2=>?_) (fun r s2 h2=>?_) _ _ ⟨rfl,.inl ⟨rfl,rfl⟩⟩
  ·obtain⟨rfl,h2⟩:=h2
   have hx:x=.ref CE/\rest=[]:=by
    rcases h2 with ⟨z,_⟩ | ⟨z,_⟩
    ·injection z with z1 z2;exact⟨z1,z2⟩
    ·cases z
   obtain⟨rfl,rfl⟩:=hx;refine wpAny_bind (W.looks_subIn k hs A _ E _ (fun _ _ z=>z) ?_);cases b with
   | true=>exact wpAny_ite_true rfl (wpAny_pure (wpAny_pure q))
   | false=>exact wpAny_ite_false rfl (wpAny_pure ⟨rfl,.inr ⟨rfl,rfl,rfl⟩⟩)
  ·obtain⟨rfl,h2⟩:=h2
   rcases h2 with ⟨z,_⟩ | ⟨_,z,zb⟩
   ·cases z
   ·subst z;subst zb;exact wpAny_pure q
def Cx.hdl (X:Cx) (a:Addr):Cx:={ X with A:=X.A.mark (some (.ref a)),calm:=false,xe:=fun _ _=>False }
theorem Cx.Ok.hdl {X:Cx}(ok:X.Ok) (a:Addr):(X.hdl a).Ok:=
 ⟨ok.mod,ok.kind,ok.glob,ok.blt,ok.above,ok.inj,ok.has,ok.cab,fun z=>(by cases z),ok.frames,ok.stk,ok.exf,ok.bs,ok.bsz,ok.noex,ok.exfs,ok.funs,ok.frf⟩
section
variable {X:Cx}{pins:List (Addr × Obj)}{σ:St}{H H':Hp}{s s':Shared}{a:Addr}{cls:Value}
theorem Inv.hdl (I:Inv X pins σ H s) (a:Addr):Inv (X.hdl a) pins σ H s:=⟨I.ok.hdl a,I.os,I.bare,I.base,I.loc,I.cell,I.free,I.freeC,I.pin,I.hok,I.len⟩
theorem Inv.unhdl (ok:X.Ok) (I:Inv (X.hdl a) pins σ H s):Inv X pins σ H s:=⟨ok,I.os,I.bare,I.base,I.loc,I.cell,I.free,I.freeC,I.pin,I.hok,I.len⟩
theorem aH6 {M:Model}{A:Around}{E:Value->Shared->Prop}{i:Nat}{x:Str}{Q:Unit->Shared->Prop}{v:V}(I:Inv X pins σ H s) (hN:X.N.Nodup) (hi:X.N[i]?=some x) (hx:X.env.scope.names.lookup x=some .local) (hv:σ[i]?=some (some v))
  (h:∀ s',Inv X pins (σ.set i none) H s'->Q () s'):wpAny M A (unbindName X.env x) Q E s:=by
 obtain⟨m,hn,hl⟩:=id I.loc;have hcls:(X.env.scope.kind == .class||(X.env.scope.kind == .module&&X.env.locals != X.env.globals))=false:=by rw[I.ok.kind];rfl
 have hiσ:i<σ.length:=by rw[I.len];exact (aKb.mp hi).1
 obtain⟨u,_,lk⟩:=hl i x v hi hv (.inl hx);have hm:m x=some u:=by
  rcases lk with ⟨_,z⟩ | ⟨z,_⟩
  ·exact z
  ·have:X.env.kindOf x=some .local:=hx
   rw[this] at z;rcases z with z | z<;>cases z
 refine wpAny_unbindName_local hx hn hm hcls fun h' u' hn' hs=>?_;have ne:∀ b o,X.s₀.heap.get? b=some o->b≠X.env.locals:=fun b o e=>aMo (aKe (aKx e) I.ok.above);refine h _ ⟨I.ok,I.os,I.bare,⟨fun b o e n hb hx=>(hs.2 b (ne b o e)).trans (I.base.keep b o e n hb hx),fun b o e n hb hx=>?_,I.base.free,fun b o e hx=>?_,I.base.tups,I.base.frzs,I.base.tbls⟩,⟨_,hn',fun j y v' e1 e2 e3=>?_⟩,fun y c e=>?_,I.free,I.freeC,fun p hp=>?_,fun b ob e=>?_,by simpa using I.len⟩
 ·obtain⟨sl,e1⟩:=I.base.slot b o e n hb hx
  exact⟨sl,(hs.2 b (ne b o e)).trans e1⟩
 ·obtain⟨o',e1⟩:=I.base.there b o e hx
  exact⟨o',(hs.2 b (ne b o e)).trans e1⟩
 ·by_cases hj:j=i
  ·subst hj
   rw[aLi hiσ] at e2;cases e2
  ·rw[aKg (Ne.symm hj)] at e2
   obtain⟨u',r',q⟩:=hl j y v' e1 e2 e3;refine⟨u',r',?_⟩;rcases q with ⟨k,e⟩ | ⟨k,c,e,z⟩
   ·refine .inl ⟨k,?_⟩
    have:y≠x:=fun e=>hj (BU hN e1 (e ▸ hi));simp[this,e]
   ·exact .inr ⟨k,c,e,z.sameBut hs (I.cne y c e)⟩
 ·obtain⟨w',z⟩:=I.cell y c e
  exact⟨w',z.sameBut hs (I.cne y c e)⟩
 ·obtain⟨e,n,ne',nf,d⟩:=I.pin p hp
  exact⟨(hs.2 p.1 ne').trans e,n,ne',nf,d⟩
 ·refine (I.hok b ob e).stay (fun c w' hc q=>(hs.2 c ?_).trans q) (fun _ q=>q) fun _ _ q=>q
  rintro rfl;rcases hc with rfl | hc
  ·rw[I.free] at e;cases e
  ·rw[I.free] at hc;cases hc
structure Got (X:Cx) (pins:List (Addr × Obj)) (σ:St) (H H':Hp) (s s':Shared) (fr:Bool) (a:Addr) (cls:Value):Prop where
 inv:Inv X pins σ H s
 os:s'.os=s.os
 bare:AllBare s'.gens
 un:Un (frs X.stack) [] H H' s.heap s'.heap
 hok:HOk X.prog X.w H' s'.heap
 air:Air fr s.heap H' a cls s'.heap
theorem Got.now {fr:Bool}(g:Got X pins σ H H' s s' fr a cls):Inv X pins σ H' s':=g.inv.call' (ch:=[]) g.os g.un g.hok g.bare fun b z=>absurd z (by simp)
theorem Got.obj {fr:Bool}(g:Got X pins σ H H' s s' fr a cls):∃ oe vs,s'.heap.get? a=some oe/\oe.cls=cls/\oe.data=.fields vs:=
 let ⟨oe,vs,_,g1,c1,d1,_⟩:=g.air.obj
 ⟨oe,vs,g1,c1,d1⟩
theorem Got.flight {M:Model}{A:Around}{E:Value->Shared->Prop}{Q:Unit->Shared->Prop}(g:Got X pins σ H H' s s' false a cls) (q:∀ h3,Got X pins σ H H' s { s' with heap:=h3 } false a cls->Q () { s' with heap:=h3 }):wpAny M A (setFlight (.ref a) none) Q E s':=by
 obtain⟨oe,vs,a0,g1,c1,d1,v0,tr⟩:=g.air.obj;rcases tr with ⟨z,_⟩ | ⟨T,oT,ts,_,t1,t2,t3,t4,t5,t6,t7⟩
 ·cases z
 have hff:=g.now.stack;have hfree:=g.now.stkFree;refine wpAny_setFlight_noneW (base:=rem (frs X.stack++[a,T]) s'.heap) (l:=X.stack) (cls:=cls) (a0:=a0) (fl:=.none) (yF _ _) (rT (fun b hb=>aLz _ hb) hff) ⟨oe,vs,T,oT,ts,g1,⟨c1,v0⟩,d1,t1,jU (by simp),t4,t5,t6,t7⟩ fun h' st ff trw same=>?_;obtain⟨un,hok,air⟩:=IG (a0:=a0) g.un g.hok hff hfree g.air (frs X.stack++[a,T]) (fun b hb=>by
  rcases aLy.mp hb with z | z
  ·exact .inl z
  ·rcases aKi.mp z with rfl | z
   ·exact .inr ⟨g.air.new,g.air.free⟩
   ·rw[aM8] at z;subst z;exact .inr ⟨t2,t3⟩) (h':=h') ⟨st,ff,trw,fun b o e d=>⟨o.slots,same b o e d⟩⟩
 exact q h' ⟨g.inv,g.os,g.bare,un,hok,air⟩
theorem Got.note {M:Model}{A A2:Around}{E E':Value->Shared->Prop}{Q:Unit->Shared->Prop}(hst:X.stack=X.env::X.outer) (hL:X.env.frame=some X.env.locals) (hA:A.frames=some X.stack) (g:Got X pins σ H H' s s' false a cls)
  (q:∀ h3,Got X pins σ H H' s { s' with heap:=h3 } false a cls->Q () { s' with heap:=h3 }):wpAny M A (noteFrame (.ref a) X.env) (fun _ s2=>wpAny M A2 (setFlight (.ref a) none) Q E s2) E' s':=by
 obtain⟨oe,vs,a0,g1,c1,d1,v0,tr⟩:=g.air.obj;rcases tr with ⟨z,_⟩ | ⟨T,oT,ts,_,t1,t2,t3,t4,t5,t6,t7⟩
 ·cases z
 have hff:=g.now.stack;have hfree:=g.now.stkFree;have hS:∀ b∈frs X.stack++[a,T],b∈frs X.stack\/(s.heap.get? b=none/\H' b=none):=fun b hb=>by
  rcases aLy.mp hb with z | z
  ·exact .inl z
  ·rcases aKi.mp z with rfl | z
   ·exact .inr ⟨g.air.new,g.air.free⟩
   ·rw[aM8] at z;subst z;exact .inr ⟨t2,t3⟩
 have hff':=rT (S:=frs X.stack++[a,T]) (fun b hb=>aLz _ hb) hff;refine wpAny_noteFrame_onW (base:=rem (frs X.stack++[a,T]) s'.heap) (outer:=X.outer) (cls:=cls) (a0:=a0) (by rw[hA,hst]) (by rw[<- hst];exact hff') hL ⟨oe,vs,T,oT,ts,g1,⟨c1,v0⟩,d1,t1,jU (by simp),t4,t5,t6,t7⟩ (yF _ _) (jU (by simp)) fun h' hl=>?_;rw[<- hst] at hl;obtain⟨st,ff,tra,slo⟩:=hl;refine wpAny_setFlight_noneW (base:=rem (frs X.stack++[a,T]) s'.heap) (l:=X.stack) (cls:=cls) (a0:=a0) st ff tra fun h2 st2 ff2 trw same=>?_;obtain⟨un,hok,air⟩:=IG (a0:=a0) g.un g.hok hff hfree g.air _ hS (h':=h2) ⟨st2,ff2,trw,fun b o e d=>by
  obtain⟨sl,e1⟩:=slo b o e d;exact⟨sl,same b _ e1 d⟩⟩
 exact q h2 ⟨g.inv,g.os,g.bare,un,hok,air⟩
theorem Got.hold (g:Got X pins σ H H' s s' false a cls):Inv X pins σ (upd H' a (qB a cls)) s':=by
 have hne:∀ b o,s.heap.get? b=some o->b≠a:=fun b o e z=>by rw[z,g.air.new] at e;cases e
 have hne':∀ b o,H' b=some o->b≠a:=fun b o e z=>by rw[z,g.air.free] at e;cases e
 refine g.inv.call' (ch:=[]) g.os ⟨g.un.keep,g.un.slot,fun b o e n hx=>?_,g.un.there,fun b xs e=>?_,fun b o u e=>?_,fun b ps e=>?_⟩ (fun b o e=>?_) g.bare fun b z=>absurd z (by simp)
 ·rw[aS (hne b o e)];exact g.un.free b o e n hx
 ·have:=g.un.tups b xs e
  rw[aS (hne' b _ this)];exact this
 ·have:=g.un.frzs b o u e
  rw[aS (hne' b _ this)];exact this
 ·obtain⟨more,this⟩:=g.un.tbls b ps e
  exact⟨more,by rw[aS (hne' b _ this)];exact this⟩
 ·by_cases hb:b=a
  ·subst hb
   rw[cU] at e;cases e;obtain⟨oe,vs,g1,c1,d1⟩:=g.obj;exact⟨⟨oe,vs,g1,c1,d1⟩,⟨oe,g1⟩,fun h1 h2 ⟨oe,vs,z1,z2,z3⟩ k=>⟨oe,vs,k _ z1,z2,z3⟩⟩
  ·rw[aS hb] at e
   exact (g.hok b o e).stay (fun _ _ _ z=>z) (fun c z=>by rw[aS (hne' c _ z)];exact z) fun c xs z=>by rw[aS (hne' c _ z)];exact z
end
def EF (i:Nat) (D:Ends):Ends:={ nx:=fun σ H=>D.nx (σ.set i none) H,rt:=D.rt,bk:=fun σ H=>D.bk (σ.set i none) H,ct:=fun σ H=>D.ct (σ.set i none) H }
def aGk (K:PySem.W.Frag) (CE:Addr) (i:Nat) (tb:TSX) (ts:TS):TS:=fun D σ H=>tb D (fun fr cls σ' H'=>fr=false/\∃ C,cls=.ref C/\PySem.W.subIn K (.ref C) (.ref CE)=some true /\
 ∀ a,H' a=none->ts (EF i D) (σ'.set i (some (.ref a))) (upd H' a (qB a cls))) σ H
theorem aDq {X:Cx}{body suite:List Stmt}{b₀:Stmt}{tb:TSX}{ts:TS}{c n:Str}{i:Nat}{CE:Addr}{cd:ClassData}{cp hpos pos:Pos}(hst:X.stack=X.env::X.outer) (hL:X.env.frame=some X.env.locals) (hN:X.N.Nodup) (hi:X.N[i]?=some n)
  (hx:X.env.scope.names.lookup n=some .local) (hg:Gl X c) (hm:X.mg c=some (.ref CE)) (ht:PySem.W.typeIn X.K (.ref CE)=some (.type "type")) (hc:PySem.W.clsIn X.K CE=some cd) (hbe:PySem.W.subIn X.K (.ref CE) (.type "BaseException")=some true)
  (hb:eD X body tb) (hs:∀ a,PSs (X.hdl a) (b₀::suite) ts) (hdb:(c == ("__debug__" : Str))=false:=by decide):
  PS X (.Try body [.ExceptHandler (some (.Name c cp)) (some n) (b₀::suite) hpos] [] [] pos) (aGk X.K CE i tb ts):=by
 intro pins s σ H D I h;refine wpAny_Try_except (wpAny_mono (hb pins s σ H D _ I h) (fun f s1 z=>?_) (fun e s1 z=>?_))
 ·cases f with
  | next=>exact wpAny_execs_nil z
  | ret v=>exact z
  | brk=>exact z
  | cont=>exact z
 ·obtain⟨fr,a,cls,σ',H0,H',s0,rfl,I0,os,bare,un,hok,air,rfl,C,rfl,hsub,q⟩:=z
  have g:Got X pins σ' H0 H' s0 s1 false a (.ref C):=⟨I0,os,bare,un,hok,air⟩;refine g.note hst hL I.ok.frames fun h3 g3=>?_;refine wpAny_handleBy_cons ?_ (by intro z;cases z);refine codeAny_handlers_test ?_;obtain⟨oe,vs,g1,c1,d1⟩:=g3.obj;refine sH (X:=X.hdl a) (g3.now.hdl a) hg hm ?_ hdb;refine aA1 (K:=X.K) g3.now.kIn ht hc hbe g1 c1 hsub ?_;refine codeAny_handlers_suite_as ?_;refine g3.flight fun h4 g4=>?_;refine zF (v:=.ref a) g4.hold hN hi (.inl hx) rfl (fun s5 I5=>?_) (.inr hx);refine wpAny_mono (hs a pins s5 _ _ (EF i D) (I5.hdl a) (q a g4.air.free)) (fun f s6 z=>?_) fun _ _ z=>False.elim z;have away:∀ {σ2:St} {H2:Hp} {Q:Unit->Shared->Prop},Inv (X.hdl a) pins σ2 H2 s6->(∀ s8,Inv X pins (σ2.set i none) H2 s8->Q () s8)->wpAny (model X.prog X.w) X.A (do
    bindName X.env n Value.none
    unbindBehindTheSuite X.env n hpos) Q X.xe s6:=by
   intro σ2 H2 Q I6 k;have I6:=I6.unhdl I.ok;have hlen:i<σ2.length:=by rw[I6.len];exact (aKb.mp hi).1
   refine wpAny_bind (wpAny_bindName (zF (v:=.non) I6 hN hi (.inl hx) rfl (fun s7 I7=>?_) (.inr hx)));unfold unbindBehindTheSuite;refine wpAny_onRaise (aH6 (v:=.non) I7 hN hi hx (aLi hlen) fun s8 I8=>?_);rw[List.set_set] at I8;exact k s8 I8
  cases f with
  | next=>
   obtain⟨σ2,H2,I6,q6⟩:=z;exact away I6 fun s8 I8=>⟨_,_,I8,q6⟩
  | ret v=>
   obtain⟨w,σ2,H2,I6,r6,q6⟩:=z;exact away I6 fun s8 I8=>⟨w,_,_,I8,r6,q6⟩
  | brk=>
   obtain⟨σ2,H2,I6,q6⟩:=z;exact away I6 fun s8 I8=>⟨_,_,I8,q6⟩
  | cont=>
   obtain⟨σ2,H2,I6,q6⟩:=z;exact away I6 fun s8 I8=>⟨_,_,I8,q6⟩
section
variable {X:Cx}{k:Nat}{f:Addr}{fd:FuncData}{ps:List Str}{sp:Sp}{x:Str}{p pos:Pos}{e:Expr}{es:List Expr}{t:TA}
end
theorem RW {prog:Program}{w:World}{A:Around}{s:Shared}{K:PySem.W.Frag}{x C:Addr}{R:Result->Shared->Prop}{ox:Obj}{tp:Value}(k:K.In s.heap) (he:s.heap.get? x=some ox) (hc:ox.cls=.ref C) (hm:W.mroIn K C (.type "object")=some true)
  (h:R (.ok (.ret (.ref C))) s):codeAny (model prog w) A (.call (.builtin "getset_descriptor.__get__") { pos:=[.builtin "object.__class__",.ref x,tp] }) R s:=by
 obtain⟨hh,g,dr,t,os⟩:=s;have keep:∀ (b:Addr) (o:Obj),hh.get? b=some o->hh.get? b=some o:=fun _ _ z=>z;have L0:∀ {M:Model} {A:Around} {Q:Value->Shared->Prop} {E:Value->Shared->Prop},Q (.ref C) ⟨hh,g,dr,t,os⟩->wpAny M A (typeOf (.ref x)) Q E ⟨hh,g,dr,t,os⟩:=fun {M A Q E} q=>wpAny_typeOf_ref he (by rw[hc];exact q);refine codeAny_call_builtin W.KF.slot_gs.plain W.KF.entry_gs (W.KF.slot_gs.check _ _ _ _ _ [.ref x,tp] [] _ W.KF.type_class (W.KF.args_gs _ _ _) ?_);unfold Builtin.«getset_descriptor.__get__» Builtin.Getset_descriptor.descrGet;rw[W.dga_obj];refine wpAny_bind (wpAny_pure ?_);show wpAny _ _ (Builtin.Getset_descriptor.descrGetter _ _) _ _ _;unfold Builtin.Getset_descriptor.descrGetter;refine wpAny_bind ?_;unfold Builtin.Getset_descriptor.descrCheckInstance;refine wpAny_bind ?_;show wpAny _ _ (pure (Str.ofString (Builtin.Getset_descriptor.descrOwnerAndName "object.__class__").2,Value.type (Builtin.Getset_descriptor.descrOwnerAndName "object.__class__").1)) _ _ _;rw[W.KF.owner_class];refine wpAny_pure ?_;refine wpAny_bind ?_;unfold isInstance;refine wpAny_bind (L0 ?_);refine W.looks_subIn (K:=K) k (show W.subIn K (.ref C) (.type "object")=some true from hm) A.in1 _ _ _ keep ?_;refine wpAny_ite_false rfl (wpAny_pure ?_);show wpAny _ _ (again (Code.builtin "object.__class__" { pos:=[.ref x] })) _ _ _;unfold again;refine wpAny_pure ⟨Code.quiet_builtin _ (by decide +kernel),codeAny_builtin W.KF.entry_class ?_⟩;unfold Builtin.«object.__class__»;refine wpAny_bind ?_;unfold shownTypeOf;refine wpAny_bind (L0 ?_);refine wpAny_ite_false rfl (wpAny_pure (wpAny_pure h))
theorem RV {prog:Program}{w:World}{A:Around}{E:Value->Shared->Prop}{K:PySem.W.Frag}{s:Shared}{a C:Addr}{o:Obj}{Q:Option Value->Shared->Prop}(k:K.In s.heap) (he:s.heap.get? a=some o) (hc:o.cls=.ref C)
  {nm qn:Str} {N:Addr} {bs bm bmB:List Value} {hdct:Bool} {sn:List Str} {sub:List Value} {ab:Bool} {col:Option Bool} {dd:Option Addr} {k0 k1 k2 k3 k5:Option Value} {B newId:String} (FB:ExcAttrBase B bmB) (hC:s.heap.get? C=some (excClassObj nm qn C N bs bm hdct sn sub ab col dd k0 k1 k2 k3 k5 newId)) (T:OwnTailQ s.heap bmB bm)
  (h1:W.findIn K (.ref C) "__getattribute__" = some (some (.builtin "BaseException.__getattribute__"))) (h2:W.findIn K (.ref C) "__getattr__" = some none)
  (h3:W.findIn K (.ref C) "__class__" = some (some (.builtin "object.__class__"))) (h4:W.specialIn K (.builtin "object.__class__") "__get__" = some (some (.builtin "getset_descriptor.__get__"))) (h5:W.takesIn K (.builtin "object.__class__")=some true)
  (h6:W.mroIn K C (.type "object")=some true) (q:Q (some (.ref C)) { s with toks:=s.toks+1 }):wpAny (model prog w) A (getAttr? (.ref a) "__class__") Q E s:=by
 obtain⟨h,g,d,t,os⟩:=s;have keep:∀ (b:Addr) (o:Obj),h.get? b=some o->h.get? b=some o:=fun _ _ z=>z;unfold getAttr?;refine wpAny_bind ?_;refine wpAny_bind (wpAny_fresh' (wpAny_pure ?_));unfold getAttrBy?;refine wpAny_bind (wpAny_attempt ?_);unfold getAttrBy;refine wpAny_holding (wpAny_bind ?_);refine wpAny_bind (wpAny_loadPart_at he ?_);rw[hc];refine wpAny_pure (wpAny_bind (W.looks_findIn k h1 A _ _ _ keep ?_));refine wpAny_ite_false rfl ?_;unfold getAttrByItsOwn;refine wpAny_bind ?_;unfold hookBefore;refine wpAny_ite_true rfl (W.looks_findIn k h2 A _ _ _ keep ?_);refine wpAny_bind (wpAny_attempt (wpAny_holding ?_));unfold callGetattribute;refine wpAny_ite_false rfl ?_;unfold boundAndCalled;refine wpAny_bind (wpAny_of_eq (FB.ga.bind (.ref a)) (wpAny_call ?_));refine codeAny_call_builtin FB.ga.plain F.entry_bexc_ga (wpAny_check_ga_own FB hC T he hc ?_);unfold Builtin.«object.__getattribute__»;refine wpAny_bind ?_;unfold slotArgs;refine wpAny_ite_false rfl ?_;refine wpAny_ite_false rfl (wpAny_pure ?_);refine wpAny_bind ?_;refine wpAny_pure (wpAny_bind ?_);refine wpAny_bind (wpAny_loadPart_at he ?_);rw[hc];refine wpAny_pure (wpAny_bind ?_);unfold Builtin.ObjectAttr.find;refine wpAny_bind (W.looks_findIn k h3 A.in1 _ _ _ keep ?_);refine wpAny_bind ?_;unfold Builtin.ObjectAttr.getOf;refine W.looks_specialIn k h4 A.in1 _ _ _ keep ?_;refine wpAny_bind ?_;unfold Builtin.ObjectAttr.dataDescriptor?;refine wpAny_bind (W.looks_takesIn k h5 A.in1 _ _ _ keep ?_);refine wpAny_ite_true rfl (wpAny_pure ?_);refine wpAny_bind (wpAny_rule ?_);refine wpAny_pure ?_;unfold Builtin.ObjectAttr.bindTo;refine wpAny_bind (wpAny_holding (wpAny_call ?_));refine RW (s:=⟨h,g,d,_,os⟩) k he hc h6 ?_;exact wpAny_pure (wpAny_pure (wpAny_pure q))
theorem ZE {K:PySem.W.Frag}{a C N:Addr}{nm qn:Str}{bs bm bmB:List Value}{hdct:Bool}{sn:List Str}{sub:List Value}{ab:Bool}{col:Option Bool}{dd:Option Addr}{k0 k1 k2 k3 k5:Option Value}{B newId:String}(FB:ExcAttrBase B bmB)
  (hC:K.lookup C=some (excClassObj nm qn C N bs bm hdct sn sub ab col dd k0 k1 k2 k3 k5 newId)) (T:∀ h:Heap,K.In h->OwnTailQ h bmB bm)
  (h1:W.findIn K (.ref C) "__getattribute__" = some (some (.builtin "BaseException.__getattribute__"))) (h2:W.findIn K (.ref C) "__getattr__" = some none) (h3:W.findIn K (.ref C) "__class__" = some (some (.builtin "object.__class__")))
  (h4:W.specialIn K (.builtin "object.__class__") "__get__" = some (some (.builtin "getset_descriptor.__get__"))) (h5:W.takesIn K (.builtin "object.__class__")=some true) (h6:W.mroIn K C (.type "object")=some true):
  W.KitX K (.ref a) (.ref C) (fun h=>∃ oe,h.get? a=some oe/\oe.cls=.ref C) where
 ty:=fun M h _ ⟨oe,e,c⟩ A Q E s keep q=>wpAny_typeOf_ref (keep _ _ e) (by rw[c];exact q)
 it:=fun M h k _ A Q E s keep q=>by
  obtain⟨hh,g,d,t,os⟩:=s;exact ks_wpAny_isType_cls (keep _ _ (k _ _ hC)) rfl q
 ne:=fun h tp dd' its n sl k e=>by
  rw[beq_eq_false_iff_ne];intro z;have z:=Value.ref.inj z;subst z;rw[k _ _ hC] at e;exact absurd (congrArg (fun o=>o.data) (aK6 e)) (by intro y;cases y)
 ca:=fun {prog w A E Q s} k ⟨oe,e,c⟩ q=>RV k e c FB (k _ _ hC) (T _ k) h1 h2 h3 h4 h5 h6 q
end L2
namespace G
open PySem PySem.Spec PyProof.Rows L2
abbrev nmC (K:PySem.W.Frag) (nm:Str) (C:Addr):Prop:=PySem.W.nsIn K mainGlobals nm=some (some (.ref C))
def ND (K:PySem.W.Frag) (B:Hp) (fl:List Nat) (n:Bool) (l:Nat) (Exl:List (T × V)) (D:Ends) (Ex:XS):Out ⊕ Str->Prop
 | .inl o=>zM K B fl n l Exl D o
 | .inr nm=>∀ fr C σ' H',nmC K nm C->aN B H'->Ex fr (.ref C) σ' H'
def tSX (K:PySem.W.Frag) (B:Hp) (fl:List Nat) (n:Bool) (l:Nat) (run:Rho->Option (Out ⊕ Str)):TSX:=fun D Ex σ H=>
 ∃ Exl ρ M o,Sl K B fl Exl σ ρ M H/\run ρ=some o/\ND K B fl n l Exl D Ex o
def GSX (X:Cx) (B:Hp) (fl:List Nat) (n:Bool) (l:Nat) (st:Stmt) (run:Rho->Option (Out ⊕ Str)):Prop:=PSX X st (tSX X.K B fl n l run)
def fJ (X:Cx) (B:Hp) (fl:List Nat) (n:Bool) (l:Nat) (st:List Stmt) (run:Rho->Option (Out ⊕ Str)):Prop:=eD X st (tSX X.K B fl n l run)
theorem CJ {X:Cx}{st:Stmt}{t t':TSX}(h:PSX X st t) (k:∀ D Ex σ H,t' D Ex σ H->t D Ex σ H):PSX X st t':=fun pins s σ H D Ex I q=>h pins s σ H D Ex I (k D Ex σ H q)
theorem CI {X:Cx}{st:List Stmt}{t t':TSX}(h:eD X st t) (k:∀ D Ex σ H,t' D Ex σ H->t D Ex σ H):eD X st t':=fun pins s σ H D Ex I q=>h pins s σ H D Ex I (k D Ex σ H q)
def xOf (r:Rho->Option Out):Rho->Option (Out ⊕ Str):=fun ρ=>(r ρ).map .inl
def DI (r1 r2:Rho->Option (Out ⊕ Str)):Rho->Option (Out ⊕ Str):=fun ρ=>(r1 ρ).bind fun o=>match o with | .inl (.nx ρ')=>r2 ρ' | o=>some o
def xIf (p:Rho->Option Bool) (r1 r2:Rho->Option (Out ⊕ Str)):Rho->Option (Out ⊕ Str):=fun ρ=>(p ρ).bind fun b=>if b then r1 ρ else r2 ρ
def zL (nm:Str) (fa:Rho->Option (List T)):Rho->Option (Out ⊕ Str):=fun ρ=>(fa ρ).bind fun ts=>if ts.length<=cap then some (.inr nm) else none
def DH (fa:Rho->Option (List T)) (FX:List T->Option (T ⊕ Str)):Rho->Option (Out ⊕ Str):=fun ρ=>(fa ρ).bind fun ts=>(FX ts).bind fun o=>match o with | .inl _=>some (.inl (.nx ρ)) | .inr nm=>some (.inr nm)
@[simp] theorem xOf_at (r:Rho->Option Out) (ρ:Rho):xOf r ρ=(r ρ).map .inl:=id rfl
@[simp] theorem xSeq_at (r1 r2:Rho->Option (Out ⊕ Str)) (ρ:Rho):DI r1 r2 ρ=(r1 ρ).bind fun o=>match o with | .inl (.nx ρ')=>r2 ρ' | o=>some o:=id rfl
@[simp] theorem xIf_at (p:Rho->Option Bool) (r1 r2:Rho->Option (Out ⊕ Str)) (ρ:Rho):xIf p r1 r2 ρ=(p ρ).bind fun b=>if b then r1 ρ else r2 ρ:=id rfl
@[simp] theorem xRaise_at (nm:Str) (fa:Rho->Option (List T)) (ρ:Rho):zL nm fa ρ=(fa ρ).bind fun ts=>if ts.length<=cap then some (.inr nm) else none:=id rfl
@[simp] theorem xCall_at (fa:Rho->Option (List T)) (FX:List T->Option (T ⊕ Str)) (ρ:Rho):DH fa FX ρ=(fa ρ).bind fun ts=>(FX ts).bind fun o=>match o with | .inl _=>some (.inl (.nx ρ)) | .inr nm=>some (.inr nm):=id rfl
def spX (K:PySem.W.Frag) (FX:List T->Option (T ⊕ Str)) (n:Bool) (l:Nat):Sp:=fun vs H Q E=>
 ∃ ts o,RepL K H (fun _=>True) ts vs/\FX ts=some o/\(match o with
  | .inl t=>∀ v H',aN H H'->aL K H H [] H' n l t v->Q v H'
  | .inr nm=>∀ C H',nmC K nm C->aN H H'->E (.ref C) none H')
section
variable {X:Cx}{B:Hp}{fl:List Nat}{n:Bool}{l:Nat}{st:Stmt}{rest a b:List Stmt}{r:Rho->Option Out}{r1 r2:Rho->Option (Out ⊕ Str)}{pos:Pos}{c:Expr}{p:Rho->Option Bool}
theorem aHj {K:PySem.W.Frag}(D:Ends) (Ex:XS) (σ:St) (H:Hp) (h:tSX K B fl n l (xOf r) D Ex σ H):tOf (tS K B fl n l r) D Ex σ H:=by
 obtain⟨Exl,ρ,M,o,S,hr,e⟩:=h;cases hq:r ρ with
 | none=>rw[xOf_at,hq] at hr;cases hr
 | some o'=>
  rw[xOf_at,hq] at hr;cases (aK6 hr);exact⟨Exl,ρ,M,o',S,hq,e⟩
theorem WU (h:GSs X.nox B fl n l rest r):fJ X B fl n l rest (xOf r):=CI (KB h) aHj
theorem WS (h1:GSX X B fl n l st r1) (h2:fJ X B fl n l rest r2):fJ X B fl n l (st::rest) (DI r1 r2):=by
 refine CI (aDv h1 h2) ?_;rintro D Ex σ H ⟨Exl,ρ,M,o,S,hr,e⟩;obtain⟨o1,h1,hr⟩:=bind_some hr;refine⟨Exl,ρ,M,o1,S,h1,?_⟩
 match o1,hr with
 | .inl (.nx ρ'),hr=>exact fun σ' M' H' S'=>⟨Exl,ρ',M',o,S',hr,e⟩
 | .inl (.rt t),hr=>cases (aK6 hr);exact e
 | .inl (.bk _),hr=>cases (aK6 hr);exact e
 | .inl (.ct _),hr=>cases (aK6 hr);exact e
 | .inr nm,hr=>cases (aK6 hr);exact e
theorem GX (h1:GSX X B fl n l st r1):fJ X B fl n l [st] r1:=KC h1
theorem WW (hc:GT X.nox B fl c p) (ha:fJ X B fl n l a r1) (hb:fJ X B fl n l b r2):GSX X B fl n l (.If c a b pos) (xIf p r1 r2):=by
 refine CJ (aDw hc ha hb) ?_;rintro D Ex σ H ⟨Exl,ρ,M,o,S,hr,e⟩;obtain⟨d,hd,hr⟩:=bind_some hr;refine⟨Exl,ρ,M,d,S,hd,fun H1 s1=>?_⟩;cases d with
 | true=>exact jN ⟨Exl,ρ,M,o,S.grow s1,hr,e⟩
 | false=>exact jM ⟨Exl,ρ,M,o,S.grow s1,hr,e⟩
theorem WT:fJ X B fl n l [] (xOf bO):=by
 refine CI (KB (rest:=[]) (t:=fun D σ H=>D.nx σ H) (fun pins s σ H D I q=>wpAny_execs_nil ⟨σ,H,I,q⟩)) ?_;rintro D Ex σ H ⟨Exl,ρ,M,o,S,hr,e⟩;cases (aK6 hr);exact e σ M H S
theorem WX {x:Str}{C:Addr}{B' newId initId:String}{bmB:List Value}{np cpos:Pos}{e₀:Expr}{es:List Expr}{fa:Rho->Option (List T)}{l':Nat}(hc:X.calm=true) (hex:X.ex=[]) (hg:Gl X x) (O:OwnCls x C bmB newId X.mg X.base) (FB:ExcBaseFacts B' newId initId bmB)
  (hn:nmC X.K x C) (ha:GA X.nox B fl (e₀::es) fa l') (hdb:(x == ("__debug__" : Str))=false:=by decide) (he:starEach (e₀::es) X.env=(false,eval e₀ X.env)::starEach es X.env:=by rfl) (hpl:(backTo cpos (starEach es X.env)).any (·.1)=false:=by rfl):
  GSX X B fl n l (.Raise (some (.Call (.Name x np) (e₀::es) [] cpos)) none pos) (zL x fa):=by
 refine CJ (aDx hc hex hg O FB ha hdb he hpl) ?_;rintro D Ex σ H ⟨Exl,ρ,M,o,S,hr,e⟩;obtain⟨ts,hts,hr⟩:=bind_some hr;split at hr
 ·rename_i hl
  cases (aK6 hr);exact⟨Exl,ρ,M,ts,S,hts,fun vs H1 s1 r1=>⟨by rw[<- r1.length];exact aMf (gH hl),e true C σ H1 hn (S.same.trans s1)⟩⟩
 ·cases hr
end
structure CalX (P:Program) (w:World) (K:PySem.W.Frag) (mg:Str->Option Value) (base:Heap) (x:Str) (k:Nat) (ps:List Str) (FX:List T->Option (T ⊕ Str)) (n:Bool) (l:Nat) (ds:List Value):Prop where
 ex:∃ f fd,FnOk P w K mg base (CX1 P w) k f fd ps (spX K FX n l)/\mg x=some (.ref f)/\PySem.W.keepIn K (.ref f)=true/\fE K fd ps ds
section
variable {X:Cx}{k:Nat}{f:Addr}{fd:FuncData}{ps:List Str}{sp:Sp}{x:Str}{p pos:Pos}{e:Expr}{es:List Expr}{t:TA}
theorem aEz {ds:List Value}{dvs:List V}{pins:List (Addr × Obj)}{σ:St}{H:Hp}{s:Shared}{Q:VK}{Ex:Bool->Value->Hp->Prop}{us:List Value}{vs:List V}(F:FnOk X.prog X.w X.K X.mg X.base (CX1 X.prog X.w) k f fd ps sp) (hr:Room k X.A) (hex:X.ex=[]) (hb:fE X.K fd ps ds) (hd:aK dvs ds)
  (I:Inv X pins σ H s) (r:aK vs us) (h:sp (vs++dvs) H Q fun c _ H'=>Ex false c H'):wpAny (model X.prog X.w) X.A (call (.ref f) us) (EP X pins σ Q) (XP X pins fun fr c σ' H'=>σ'=σ/\Ex fr c H') s:=by
 have hl:(us++ds).length=ps.length:=by
  rw[aLl,<- r.length,<- hd.length,<- List.length_append];exact F.len _ _ _ _ h
 have hb':=hb s us I.kIn hl;refine wpAny_call (codeAny_mono (F.run X.A X.stack s H ⟨us,[]⟩ (us++ds) (vs++dvs) Q _ hr I.env0 hb' (aK.append r hd) h) fun r s' hq=>?_);cases r with
 | error e=>
  obtain⟨a,cls,H',rfl,os,bare,un,hok,air,q⟩:=hq;exact⟨false,a,cls,σ,H,H',s,rfl,I,os,bare,un,hok,air,rfl,q⟩
 | ok fl=>
  cases fl with
  | ret u=>exact I.after hq
  | next=>exact False.elim hq
  | brk=>exact False.elim hq
  | cont=>exact False.elim hq
def aFx (sp:Sp) (dvs:List V) (t:TA):TEX:=fun σ H Q Ex=>t σ H fun vs H1=>sp (vs++dvs) H1 Q fun c _ H'=>Ex false c H'
theorem JN {ds:List Value}{dvs:List V}(F:FnOk X.prog X.w X.K X.mg X.base (CX1 X.prog X.w) k f fd ps sp) (hr:Room k X.A) (hex:X.ex=[]) (hg:Gl X x) (hm:X.mg x=some (.ref f)) (hk:PySem.W.keepIn X.K (.ref f)=true) (hb:fE X.K fd ps ds) (hd:aK dvs ds)
  (ha:PA X.nox (e::es) t) (hdb:(x == ("__debug__" : Str))=false:=by decide) (he:starEach (e::es) X.env=(false,eval e X.env)::starEach es X.env:=by rfl) (hpl:(backTo pos (starEach es X.env)).any (·.1)=false:=by rfl):
  PEX X (.Call (.Name x p) (e::es) [] pos) (aFx sp dvs t):=by
 intro pins s σ H Q Ex I h;refine wpAny_Call_Name_kw (sH I hg hm ?_ hdb);refine PySem.W.callWith_K (h₀:=X.base) I.ok.mod.kin hk (wpAny_mono (ha pos pins s σ H _ (I.wish _) h) (fun us s1 ⟨vs,H1,I1,r,q⟩=>⟨I1.kIn,?_⟩) fun _ _ z=>False.elim z) he hpl;exact aEz F hr hex hb hd I1.unwish r q
end
section
variable {X:Cx}{B:Hp}{fl:List Nat}{n n':Bool}{l l' k:Nat}{e:Expr}{es:List Expr}{fa:Rho->Option (List T)}{FX:List T->Option (T ⊕ Str)}{x:Str}{ps:List Str}{p' pos epos:Pos}
theorem LC {K:PySem.W.Frag}{H:Hp}{A:Addr->Prop}{ts:List T}{vs:List V}(r:RepL K H A ts vs):RepL K H (fun _=>True) ts vs:=r.weak fun _ _=>trivial
theorem WV (C:CalX X.prog X.w X.K X.mg X.base x k ps FX n' l' []) (hr:Room k X.A) (hex:X.ex=[]) (hg:Gl X x) {la:Nat}(ha:GA X.nox B fl (e::es) fa la) (hs:swapsWith (.Call (.Name x p') (e::es) [] pos) none epos.line X.env=pure false:=by rfl) (hdb:(x == ("__debug__" : Str))=false:=by decide)
  (he:starEach (e::es) X.env=(false,eval e X.env)::starEach es X.env:=by rfl) (hpl:(backTo pos (starEach es X.env)).any (·.1)=false:=by rfl):GSX X B fl n l (.Expr (.Call (.Name x p') (e::es) [] pos) epos) (DH fa FX):=by
 obtain⟨f,fd,FO,hm,hk,hb⟩:=C.ex;refine CJ (KD (JN (dvs:=[]) FO hr hex hg hm hk hb .nil ha hdb he hpl) hs) ?_;rintro D Ex σ H ⟨Exl,ρ,M,o,S,hr,q⟩;obtain⟨ts,hts,hr⟩:=bind_some hr;obtain⟨u,hu,hr⟩:=bind_some hr;refine⟨Exl,ρ,M,ts,S,hts,fun vs H1 s1 r1=>?_⟩;show spX X.K FX n' l' (vs++[]) H1 _ _;rw[aL3];refine⟨ts,u,LC r1,hu,?_⟩;cases u with
 | inl t=>
  cases (aK6 hr);exact fun v H2 s2 _=>q σ M H2 (S.grow (s1.trans s2))
 | inr nm=>
  cases (aK6 hr);exact fun C H2 hC s2=>q false C σ H2 hC (S.same.trans (s1.trans s2))
end
def sV:Out ⊕ Str->Option (T ⊕ Str)
 | .inl o=>(aZ o).map .inl
 | .inr nm=>some (.inr nm)
@[simp] theorem outX_inl (o:Out):sV (.inl o)=(aZ o).map .inl:=rfl
@[simp] theorem outX_inr (nm:Str):sV (.inr nm)=some (.inr nm):=rfl
def pT (np k:Nat) (run:Rho->Option (Out ⊕ Str)) (ts:List T):Option (T ⊕ Str):=if ts.length=np then (run (ts.map some++List.replicate k none)).bind sV else none
theorem DU {np k:Nat}{run:Rho->Option (Out ⊕ Str)}{ts:List T}{t:T ⊕ Str}(h:pT np k run ts=some t):ts.length=np:=by
 unfold pT at h;split at h
 ·assumption
 ·cases h
def vW:Out ⊕ Str->T ⊕ Str->Prop
 | .inl o,.inl t=>pU o t
 | .inr a,.inr b=>a=b
 | _,_=>False
theorem DV {np k:Nat}{run:Rho->Option (Out ⊕ Str)}{ts:List T}{t:T ⊕ Str}(h:pT np k run ts=some t):∃ o,run (ts.map some++List.replicate k none)=some o/\vW o t:=by
 unfold pT at h;split at h
 ·obtain⟨o,e,h⟩:=bind_some h
  refine⟨o,e,?_⟩;cases o with
  | inr nm=>cases (aK6 h);exact rfl
  | inl o=>
   cases o with
   | rt u=>cases (aK6 h);exact rfl
   | nx _=>cases (aK6 h);exact rfl
   | bk _=>cases h
   | ct _=>cases h
 ·cases h
section
variable {P:Program}{w:World}{K:PySem.W.Frag}{mg:Str->Option Value}{base:Heap}
theorem FY {N ps:List Str}{fl:List Nat}{n:Bool}{l:Nat}{FX:List T->Option (T ⊕ Str)}{run:Rho->Option (Out ⊕ Str)}(hN:ps.length<=N.length) (hfl:fl.length=N.length) (hp:∀ i,i<ps.length->fl.getD i 1=1) (hlen:∀ ts t,FX ts=some t->ts.length=ps.length)
  (hrun:∀ ts t,FX ts=some t->∃ o,run (ts.map some++List.replicate (N.length-ps.length) none)=some o/\vW o t) {vs:List V} {H:Hp} {Q:VK} {E:XK} (h:spX K FX n l vs H Q E) (hl4:l≠4):
  tSX K H fl n l run { nx:=fun _ H'=>Q .non H',rt:=Q } (fun _ c _ H'=>E c none H') (L2.start N vs) H:=by
 obtain⟨ts,t,r,hf,q⟩:=h;obtain⟨o,ho,hi⟩:=hrun ts t hf;refine⟨[],_,[],o,DB hfl hp (hlen ts t hf) r hN,ho,?_⟩
 match o,t,hi,q with
 | .inr a,.inr b,hi,q=>
  cases (show a=b from hi);exact fun fr C σ' H' hC s'=>q C H' hC s'
 | .inl (.rt u),.inl t,hi,q=>
  cases (show u=t from hi);exact fun v H' s' r'=>q v H' s' ((RtX.of hl4).mp r')
 | .inl (.nx ρ'),.inl t,hi,q=>
  cases (show t=.non from hi);exact fun σ' M' H' S'=>q _ H' S'.same ((aL.scal rfl).mpr rfl)
theorem WC {x qual:Str}{st:Stmt}{f:Addr}{fd:FuncData}{N ps:List Str}{k:Nat}{fl:List Nat}{n:Bool}{l:Nat}{FX:List T->Option (T ⊕ Str)}{run:Rho->Option (Out ⊕ Str)}(Fu:Fun K x qual st f fd) (S:FnScope N ps (defScope st))
  (hfl:fl.length=N.length) (hp:∀ i,i<ps.length->fl.getD i 1=1) (hlen:∀ ts t,FX ts=some t->ts.length=ps.length)
  (hb:∀ (cdv:Value) (A:Around) (outer:List Env) (s:Shared) (H:Hp) (E:XK),Room k (A.deeper (envOfC qual (defScope st) s.heap.objs.size f cdv)) ->
   fJ (aQ (CX1 P w) P w K mg base N qual (defScope st) f cdv A outer s H E) H fl n l (defBody st) run)
  (hrun:∀ ts t,FX ts=some t->∃ o,run (ts.map some++List.replicate (N.length-ps.length) none)=some o/\vW o t) (hl4:l≠4:=by decide):FnOk P w K mg base (CX1 P w) (k+1) f fd ps (spX K FX n l):=by
 have hN:ps.length<=N.length:=by have:=congrArg List.length S.pre;rw[aLt] at this;omega
 refine Fun.okX Fu S (fun vs H Q E h=>?_) (fun cdv A outer s H vs Q E hr h=>⟨_,hb cdv A outer s H E hr,FY hN hfl hp hlen hrun h hl4⟩);obtain⟨ts,t,r,hf,_⟩:=h;rw[<- r.length];exact hlen ts t hf
end
theorem Sl.drop {K:PySem.W.Frag}{B H:Hp}{fl:List Nat}{Ex:List (T × V)}{σ:St}{ρ:Rho}{M:List Addr}{i:Nat}(S:Sl K B fl Ex σ ρ M H):Sl K B fl Ex (σ.set i none) (ρ.set i none) M H:=by
 have get:∀ {j:Nat} {u:T},(ρ.set i none)[j]?=some (some u)->j≠i/\ρ[j]?=some (some u):=fun {j u} e=>by
  by_cases hj:j=i
  ·subst hj
   by_cases hl:j<ρ.length
   ·rw[aLi hl] at e;cases e
   ·rw[List.getElem?_eq_none_iff.mpr (by rw[aLs];omega)] at e;cases e
  ·rw[aKg (Ne.symm hj)] at e
   exact⟨hj,e⟩
 obtain⟨g,hg,ap⟩:=S.mu;refine⟨S.same,fun j u e k=>?_,⟨g,fun j u e k hm=>?_,fun j j' c d u u' us ws hne e e' k k' hm hm'=>?_⟩,S.ex,S.mB,by rw[aLs];exact S.len⟩
 ·obtain⟨hj,e⟩:=get e
  obtain⟨w,e1,r1⟩:=S.slot j u e k;exact⟨w,by rw[aKg (Ne.symm hj)];exact e1,r1⟩
 ·obtain⟨hj,e⟩:=get e
  obtain⟨w,e2,e3⟩:=hg j u e k hm;exact⟨w,by rw[aKg (Ne.symm hj)];exact e2,e3⟩
 ·obtain⟨hj,e⟩:=get e
  obtain⟨hj',e'⟩:=get e';exact ap j j' c d u u' us ws hne e e' k k' hm hm'
def zU (dts:List T) (fa:Rho->Option (List T)):Rho->Option (List T):=fun ρ=>(fa ρ).map (· ++ dts)
@[simp] theorem aApp_at (dts:List T) (fa:Rho->Option (List T)) (ρ:Rho):zU dts fa ρ=(fa ρ).map (· ++ dts):=id rfl
theorem hd0:aK [] []:=.nil
theorem hd1:aK [.non] [.none]:=.cons rfl .nil
theorem XH {K:PySem.W.Frag}:∀ H:Hp,RepL K H (fun _=>True) [] []:=fun _=>rfl
def CN (i:Nat) (fa:Rho->Option (List T)) (FX:List T->Option (T ⊕ Str)) (nms:List Str) (rs:Rho->Option Out):Rho->Option Out:=fun ρ=>(fa ρ).bind fun ts=>(FX ts).bind fun u=>match u with
 | .inl _=>some (.nx ρ)
 | .inr nm=>if nm∈nms then (rs (ρ.set i (some (.exc nm)))).bind fun o=>(match o with | .nx ρ'=>some (.nx (ρ'.set i none)) | .rt t=>some (.rt t) | _=>none) else none
@[simp] theorem rTry_at (i:Nat) (fa:Rho->Option (List T)) (FX:List T->Option (T ⊕ Str)) (nms:List Str) (rs:Rho->Option Out) (ρ:Rho):CN i fa FX nms rs ρ=(fa ρ).bind fun ts=>(FX ts).bind fun u=>match u with
 | .inl _=>some (.nx ρ)
 | .inr nm=>if nm∈nms then (rs (ρ.set i (some (.exc nm)))).bind fun o=>(match o with | .nx ρ'=>some (.nx (ρ'.set i none)) | .rt t=>some (.rt t) | _=>none) else none:=id rfl
structure TryK (K:PySem.W.Frag) (mg:Str->Option Value) (c:Str) (nms:List Str):Prop where
 ex:∃ (CE:Addr) (cd:ClassData),mg c=some (.ref CE)/\PySem.W.typeIn K (.ref CE)=some (.type "type")/\PySem.W.clsIn K CE=some cd/\PySem.W.subIn K (.ref CE) (.type "BaseException")=some true /\
  ∀ nm∈nms,∀ C,nmC K nm C->fF K nm C/\PySem.W.subIn K (.ref C) (.ref CE)=some true
theorem UU {X:Cx}{pins:List (Addr × Obj)}{σ:St}{H:Hp}{s:Shared}{A:Around}{E:Value->Shared->Prop}{Q:Value->Shared->Prop}{c:Value}{b:Bool}{Ad:Addr->Prop}{nm:Str}{v:V}{u:Value}(I:Inv X pins σ H s) (r:Rep X.K H Ad (.exc nm) v) (rx:aV v u)
  (hx:∀ C,fF X.K nm C->PySem.W.kitOne X.K (.ref C) c=some b) (h:∀ tk,Q (.bool b) { s with toks:=tk }):wpAny (model X.prog X.w) A (call (.builtin "isinstance") [u,c]) Q E s:=by
 obtain⟨a,C,rfl,k,h1⟩:=r;cases rx;have ho:∃ oe,s.heap.get? a=some oe/\oe.cls=.ref C:=by
  rcases h1 with h1 | ⟨o,h1⟩
  ·obtain⟨⟨oe,vs,g1,g2,_⟩,_⟩:=I.hok a _ h1
   exact⟨oe,g1,g2⟩
  ·obtain⟨_,⟨oe,vs,g1,g2,_⟩,_⟩:=I.hok a _ h1
   exact⟨oe,g1,g2⟩
 exact aN4 (k.2.1 a) I.kIn ho (hx C k) (fun z=>nomatch z) h
def hU (tab:List (Str × Bool)):T->Option T
 | .exc nm=>(tab.lookup nm).map .bl
 | _=>none
section
variable {X:Cx}{B:Hp}{fl:List Nat}{e:Expr}{f:Rho->Option T}{n:Bool}{l:Nat}{pos p' p2:Pos}{x y:Str}{tab:List (Str × Bool)}
theorem HK {c:Value}{vc:V}(rc:aV vc c) (hE:PE X (.Name y p2) (tC vc)) (hx:x = "isinstance") (hg:Gl X x) (hm:X.mg x=none) (ht:∀ nm b,tab.lookup nm=some b->∀ C,fF X.K nm C->PySem.W.kitOne X.K (.ref C) c=some b) (he:GE X B fl e f n l)
  (hinj:∀ u,aV vc u->u=c)
  (h1:starEach [e,.Name y p2] X.env=(false,eval e X.env)::starEach [.Name y p2] X.env:=by rfl) (h2:starEach [.Name y p2] X.env=[(false,eval (.Name y p2) X.env)]:=by rfl) (hpl:(backTo pos (starEach [.Name y p2] X.env)).any (·.1)=false:=by rfl):
  GE X B fl (.Call (.Name x p') [e,.Name y p2] [] pos) (f1 f (hU tab)) true 3:=by
 subst hx;have cr:eN X (.builtin "isinstance") (fun xs H Q=>∃ v nm b A,xs=[v,vc]/\Rep X.K H A (.exc nm) v/\tab.lookup nm=some b/\Q (.bl b) H):=by
  intro pins s σ H xs us Q I r h;obtain⟨v,nm,b,A,rfl,rt,hl,q⟩:=h;obtain⟨u,w',rfl,r1,r2⟩:=zJ r;cases hinj w' r2;exact UU I rt r1 (fun C k=>ht nm b hl C k) fun tk=>⟨.bl _,H,I.tok tk,rfl,q⟩
 refine bD (jS cr hg hm PyProof.Rows.boot_isinstance (eI he (eI hE hX h2) h1) (by decide) (by decide) h1 hpl) ?_;rintro σ H Q ⟨Ex,ρ,M,t,S,hf,q⟩;obtain⟨u,hu,hf⟩:=bind_some hf
 match u,hf with
 | .exc nm,hf=>
  have hf:(tab.lookup nm).map T.bl=some t:=hf;cases hb:tab.lookup nm with
  | none=>rw[hb] at hf;cases hf
  | some b=>
   rw[hb] at hf;cases (aK6 hf);exact⟨Ex,ρ,M,.exc nm,S,hu,fun v H1 s1 r1=>⟨v,nm,b,_,rfl,r1.rep S,hb,q _ H1 s1 ((aL.scal rfl).mpr rfl)⟩⟩
theorem VP (hx:x = "isinstance") (hg:Gl X x) (hm:X.mg x=none) (hg':Gl X y) (hT:∃ CE:Addr,X.mg y=some (.ref CE)/\∀ nm b,tab.lookup nm=some b->∀ C,fF X.K nm C->PySem.W.kitOne X.K (.ref C) (.ref CE)=some b) (he:GE X B fl e f n l)
  (hd:(y == ("__debug__" : Str))=false:=by decide)
  (h1:starEach [e,.Name y p2] X.env=(false,eval e X.env)::starEach [.Name y p2] X.env:=by rfl) (h2:starEach [.Name y p2] X.env=[(false,eval (.Name y p2) X.env)]:=by rfl) (hpl:(backTo pos (starEach [.Name y p2] X.env)).any (·.1)=false:=by rfl):
  GE X B fl (.Call (.Name x p') [e,.Name y p2] [] pos) (f1 f (hU tab)) true 3:=by
 obtain⟨CE,hy,ht⟩:=hT;exact HK (c:=.ref CE) (vc:=.ref CE) rfl (JK hg' hy rfl hd) hx hg hm ht he (fun u r=>by cases r;rfl) h1 h2 hpl
theorem VO {c:String}(hx:x = "isinstance") (hg:Gl X x) (hm:X.mg x=none) (hg':Gl X y) (hm':X.mg y=none) (hv:bootBuiltins y=some (.type c)) (ht:∀ nm b,tab.lookup nm=some b->∀ C,fF X.K nm C->PySem.W.kitOne X.K (.ref C) (.type c)=some b) (he:GE X B fl e f n l)
  (hn:y ≠ "__name__" := by decide) (hd:(y == ("__debug__" : Str))=false:=by decide)
  (h1:starEach [e,.Name y p2] X.env=(false,eval e X.env)::starEach [.Name y p2] X.env:=by rfl) (h2:starEach [.Name y p2] X.env=[(false,eval (.Name y p2) X.env)]:=by rfl) (hpl:(backTo pos (starEach [.Name y p2] X.env)).any (·.1)=false:=by rfl):
  GE X B fl (.Call (.Name x p') [e,.Name y p2] [] pos) (f1 f (hU tab)) true 3:=
 HK (c:=.type c) (vc:=.ty c) rfl (JG (v:=.ty c) hg' hm' hv rfl hn hd) hx hg hm ht he (fun u r=>by cases r;rfl) h1 h2 hpl
end
abbrev VB:List Value:=[.type "ValueError",.type "Exception",.type "BaseException",.type "object"]
def sF (K:PySem.W.Frag) (N:Addr):Bool:=PySem.W.nsOkIn K N&&quietNames.all fun z=>PySem.W.nsIn K N z == some none
theorem HH {K:PySem.W.Frag}{h:Heap}{N:Addr}(I:K.In h) (e:sF K N=true):∃ mN,h.Ns N mN/\∀ z∈quietNames,mN z=none:=by
 unfold sF at e;obtain⟨e1,e2⟩:=aKo.mp e;refine⟨h.nsMap N,.of_isNs (PySem.W.isNs_of_in I e1),fun z hz=>PySem.W.nsMap_none_of_in I e1 ?_⟩;exact beq_iff_eq.mp (aKc.mp e2 z hz)
def sI (K:PySem.W.Frag):List Value->Bool
 | []=>false
 | v::r=>((v::r) == VB)||(match v with
  | .ref A=>(match K.lookup A with
   | some u=>(match u.data with | .cls cd=>sF K cd.ns&&sI K r | _=>false)
   | none=>false)
  | _=>false)
theorem BN {K:PySem.W.Frag}{h:Heap}(I:K.In h):∀ {ls:List Value},sI K ls=true->OwnTailQ h VB ls
 | [],e=>by cases e
 | v::r,e=>by
  unfold sI at e;rcases Bool.or_eq_true_iff.mp e with q | q
  ·have:=beq_iff_eq.mp q
   rw[this];exact .base
  ·cases v with
   | ref A=>
    dsimp only at q;cases hA:K.lookup A with
    | none=>rw[hA] at q;cases q
    | some u=>
     rw[hA] at q;obtain⟨c0,d0,data0,s0⟩:=u;cases data0 with
     | cls cd=>
      obtain⟨q1,q2⟩:=aKo.mp q;obtain⟨mN,n1,n2⟩:=HH I q1;exact .own (I _ _ hA) n1 n2 (BN I q2)
     | _=>cases q
   | _=>cases q
def AO (K:PySem.W.Frag) (C:Addr):Bool:=match K.lookup C with
 | some ⟨.type "type",_,.cls cd,sl⟩=>(match cd.mro,sl.toList with
  | .ref C'::bm,[_,_,_,_,some (.builtin z),_]=>(z == "ValueError.__new__")&&(C' == C)&&sI K bm&&sF K cd.ns && !cd.hasDel
  | _,_=>false)
 | _=>false
theorem FG {K:PySem.W.Frag}{C:Addr}(h:AO K C=true):∃ bm N nm qn bs hdct sn sub ab col dd k0 k1 k2 k3 k5,K.lookup C=some (excClassObj nm qn C N bs bm hdct sn sub ab col dd k0 k1 k2 k3 k5 "ValueError.__new__")/\sF K N=true/\sI K bm=true:=by
 unfold AO at h;split at h
 ·rename_i d9 cd9 sl9 hK
  split at h
  ·rename_i C9 bm9 y0 y1 y2 y3 z9 y5 em es
   simp only[aKn,beq_iff_eq,Bool.not_eq_true'] at h;obtain⟨⟨⟨⟨e1,e2⟩,e3⟩,e4⟩,e5⟩:=h;obtain⟨a1,a2,a3,a4,a5,a6,a7,a8,a9,a10,a11⟩:=cd9;dsimp only at em e4 e5;obtain⟨ll⟩:=sl9;have es':ll=[y0,y1,y2,y3,some (.builtin z9),y5]:=es;subst em e5 es' e1 e2;exact⟨bm9,_,_,_,_,_,_,_,_,_,_,y0,y1,y2,y3,y5,hK,e4,e3⟩
  ·cases h
 ·cases h
def qA (K:PySem.W.Frag) (C:Addr):Bool:=AO K C&&(PySem.W.findIn K (.ref C) "__getattribute__" == some (some (.builtin "BaseException.__getattribute__")))&&(PySem.W.findIn K (.ref C) "__getattr__" == some none) &&
 (PySem.W.findIn K (.ref C) "__class__" == some (some (.builtin "object.__class__")))&&(PySem.W.specialIn K (.builtin "object.__class__") "__get__" == some (some (.builtin "getset_descriptor.__get__")))&&(PySem.W.takesIn K (.builtin "object.__class__") == some true) &&
 (PySem.W.mroIn K C (.type "object") == some true)&&(["int","bool","list","tuple","str"]:List String).all fun c=>PySem.W.kitOne K (.ref C) (.type c) == some false
theorem UT {K:PySem.W.Frag}{nm:Str}{C:Addr}(hn:nmC K nm C) (h:qA K C=true):fF K nm C:=by
 unfold qA at h;simp only[aKn,beq_iff_eq] at h;obtain⟨⟨⟨⟨⟨⟨⟨h0,h1⟩,h2⟩,h3⟩,h4⟩,h5⟩,h6⟩,h7⟩:=h;obtain⟨bm,N,nm',qn,bs,hdct,sn,sub,ab,col,dd,k0,k1,k2,k3,k5,hC,_,hl⟩:=FG h0;exact⟨hn,fun a=>ZE F.attrBase_ValueError hC (fun h I=>BN I hl) h1 h2 h3 h4 h5 h6,fun c hc=>beq_iff_eq.mp (aKc.mp h7 c hc)⟩
structure RaiseK (K:PySem.W.Frag) (mg:Str->Option Value) (base:Heap) (nm:Str):Prop where
 ex:∃ C,OwnCls nm C VB "ValueError.__new__" mg base/\nmC K nm C
theorem aEl {K:PySem.W.Frag}{mg:Str->Option Value}{base:Heap}{nm:Str}{C:Addr}(I:K.In base) (G0:base.Ns mainGlobals mg) (hn:nmC K nm C) (h:qA K C=true):RaiseK K mg base nm:=by
 unfold qA at h;simp only[aKn,beq_iff_eq] at h;obtain⟨⟨⟨⟨⟨⟨⟨h0,h1⟩,h2⟩,h3⟩,h4⟩,h5⟩,h6⟩,h7⟩:=h;obtain⟨bm,N,nm',qn,bs,hdct,sn,sub,ab,col,dd,k0,k1,k2,k3,k5,hC,hh,hl⟩:=FG h0;obtain⟨mN,n1,n2⟩:=HH I hh;exact⟨C,OwnClsQ.own ⟨aN6 I G0 hn,bm,N,nm',qn,bs,hdct,sn,sub,ab,col,dd,k0,k1,k2,k3,k5,mN,I _ _ hC,n1,n2,BN I hl⟩,hn⟩
theorem WY {X:Cx}{B:Hp}{fl:List Nat}{n:Bool}{l l':Nat}{x:Str}{np cpos pos:Pos}{e₀:Expr}{es:List Expr}{fa:Rho->Option (List T)}(R:RaiseK X.K X.mg X.base x) (hc:X.calm=true) (hex:X.ex=[]) (hg:Gl X x)
  (ha:GA X.nox B fl (e₀::es) fa l') (hdb:(x == ("__debug__" : Str))=false:=by decide) (he:starEach (e₀::es) X.env=(false,eval e₀ X.env)::starEach es X.env:=by rfl) (hpl:(backTo cpos (starEach es X.env)).any (·.1)=false:=by rfl):
  GSX X B fl n l (.Raise (some (.Call (.Name x np) (e₀::es) [] cpos)) none pos) (zL x fa):=by
 obtain⟨C,O,hn⟩:=R.ex;exact WX hc hex hg O F.excBase_ValueError hn ha hdb he hpl
theorem BS {K:PySem.W.Frag}{nm:Str}{C C':Addr}(h:nmC K nm C) (h':nmC K nm C'):C=C':=by
 have:=h.symm.trans h';cases this;rfl
def dG (K:PySem.W.Frag) (mg:Str->Option Value) (y:Str) (tab:List (Str × Bool)):Prop:=∃ CE:Addr,mg y=some (.ref CE)/\∀ nm b,tab.lookup nm=some b->∀ C,fF K nm C->PySem.W.kitOne K (.ref C) (.ref CE)=some b
def rH (K:PySem.W.Frag) (c:String) (tab:List (Str × Bool)):Prop:=∀ nm b,tab.lookup nm=some b->∀ C,fF K nm C->PySem.W.kitOne K (.ref C) (.type c)=some b
section
variable {X:Cx}{B:Hp}{fl:List Nat}{e:Expr}{es:List Expr}{f:Rho->Option T}{fa:Rho->Option (List T)}{n n':Bool}{l l' k:Nat}{pos p':Pos}{x:Str}{ps:List Str}{F:List T->Option T}
end
section
variable {P:Program}{w:World}{K:PySem.W.Frag}{mg:Str->Option Value}{base:Heap}
end
def CK (X:Cx) (es:List Expr) (tab:List (Str × Bool)):Prop:=
 ∃ cs:List Addr,cs.length=es.length/\PA X es (fun _ H Q=>Q (cs.map V.ref) H)/\∀ nm,tab.lookup nm=some false->∀ C,fF X.K nm C->PySem.W.kitAny X.K (.ref C) (cs.map Value.ref)=some false
section
variable {X:Cx}{B:Hp}{fl:List Nat}{e:Expr}{es:List Expr}{f:Rho->Option T}{n:Bool}{l:Nat}{pos p' p2:Pos}{x y:Str}{tab:List (Str × Bool)}
theorem RU:CK X [] tab:=⟨[],rfl,hX,fun _ _ _ _=>rfl⟩
theorem rP (hg:Gl X y) (hT:dG X.K X.mg y tab) (h:CK X es tab) (hd:(y == ("__debug__" : Str))=false:=by decide) (hs:starEach (.Name y p2::es) X.env=(false,eval (.Name y p2) X.env)::starEach es X.env:=by rfl):CK X (.Name y p2::es) tab:=by
 obtain⟨c,hy,ht⟩:=hT;obtain⟨cs,h1,h2,h3⟩:=h;refine⟨c::cs,by rw[aLm,aLm,h1],fun pos pins s σ H Q I q=>eI (JK (v:=.ref c) hg hy rfl hd) h2 hs pos pins s σ H Q I q,fun nm hn C k=>?_⟩;show (match PySem.W.kitOne X.K (.ref C) (.ref c) with | some true=>_ | some false=>_ | none=>_)=_
 rw[ht nm false hn C k];exact h3 nm hn C k
theorem KP:∀ {cs:List Addr}{us:List Value},aK (cs.map V.ref) us->us=cs.map Value.ref
 | [],_,h=>by cases h;rfl
 | c::cs,_,h=>by
  cases h with
  | cons r t=>
   rw[KP t];cases r
   rfl
theorem ML {nm:Str}{b:Bool}:∀ {tab:List (Str × Bool)},tab.all (fun x=>!x.2)=true->tab.lookup nm=some b->b=false
 | [],_,h=>by cases h
 | (m,c)::r,ha,h=>by
  rw[List.all_cons,aKn] at ha;rw[aLu] at h;split at h
  ·cases h
   simpa using ha.1
  ·exact ML ha.2 h
theorem VN {cx:Nat}(hx:x = "isinstance") (hg:Gl X x) (hm:X.mg x=none) (hc:CK X es tab) (hall:tab.all (fun x=>!x.2)=true) (hlen:es.length<=1000) (he:GE X B fl e f n l)
  (h1:starEach [e,.Tuple es cx p2] X.env=(false,eval e X.env)::starEach [.Tuple es cx p2] X.env:=by rfl) (h2:starEach [.Tuple es cx p2] X.env=[(false,eval (.Tuple es cx p2) X.env)]:=by rfl) (hpl:(backTo pos (starEach [.Tuple es cx p2] X.env)).any (·.1)=false:=by rfl):
  GE X B fl (.Call (.Name x p') [e,.Tuple es cx p2] [] pos) (f1 f (hU tab)) true 3:=by
 subst hx;obtain⟨cs,hl,hp,hk⟩:=hc;have cr:eN X (.builtin "isinstance") (fun xs H Q=>∃ v nm A tp,xs=[v,.ref tp]/\Rep X.K H A (.exc nm) v/\Rd H tp (.tup (cs.map V.ref))/\tab.lookup nm=some false/\Q (.bl false) H):=by
  intro pins s σ H xs us Q I r h;obtain⟨v,nm,A,tp,rfl,rt,hd,hn,q⟩:=h;obtain⟨u,w',rfl,r1,r2⟩:=zJ r;cases r2;obtain⟨a,C,rfl,k,g⟩:=rt;cases r1;have ho:∃ oe,s.heap.get? a=some oe/\oe.cls=.ref C:=by
   rcases g with g | ⟨o,g⟩
   ·obtain⟨⟨oe,vs,g1,g2,_⟩,_⟩:=I.hok a _ g
    exact⟨oe,g1,g2⟩
   ·obtain⟨_,⟨oe,vs,g1,g2,_⟩,_⟩:=I.hok a _ g
    exact⟨oe,g1,g2⟩
  obtain⟨its,rv,⟨⟨cls,dd,data,sl⟩,g3,g4,n,g5⟩,_⟩:=I.tuple (.inl hd);cases KP rv;simp only at g4 g5;subst g4 g5;exact PySem.W.kia_tup (k.2.1 a) I.kIn ho g3 (hk nm hn C k) (fun z=>nomatch z) fun tk=>⟨.bl _,H,I.tok tk,rfl,q⟩
 refine bD (jS cr hg hm PyProof.Rows.boot_isinstance (eI he (eI (CD hp) hX h2) h1) (by decide) (by decide) h1 hpl) ?_;rintro σ H Q ⟨Ex,ρ,M,t,S,hf,q⟩;obtain⟨u,hu,hf⟩:=bind_some hf
 match u,hf with
 | .exc nm,hf=>
  have hf:(tab.lookup nm).map T.bl=some t:=hf;cases hb:tab.lookup nm with
  | none=>rw[hb] at hf;cases hf
  | some b=>
   rw[hb] at hf;cases (aK6 hf);cases ML hall hb;refine⟨Ex,ρ,M,.exc nm,S,hu,fun v H1 s1 r1=>⟨?_,fun p hp=>?_⟩⟩
   ·rw[aLo,hl,sizeLine_eq];omega
   ·exact⟨v,nm,_,p,rfl,(r1.rep S).grow (cL hp _),.inl cU,hb,q _ _ (s1.trans (cL hp _)) ((aL.scal rfl).mpr rfl)⟩
end
section
variable {X:Cx}{e1 e2:Expr}{t1:TE}{t2:TEX}{k:Nat}{f:Addr}{fd:FuncData}{ps:List Str}{sp:Sp}{x:Str}{p pos:Pos}
end
def aHl (f1:Rho->Option T) (fa:Rho->Option (List T)) (FX:List T->Option (T ⊕ Str)) (F:List T->Option T):Rho->Option (Out ⊕ Str):=fun ρ=>(f1 ρ).bind fun t1=>(fa ρ).bind fun ts=>(FX ts).bind fun u=>match u with
 | .inl t2=>(F [t1,t2]).map fun t=>.inl (.rt t)
 | .inr nm=>some (.inr nm)
@[simp] theorem xRet2_at (f1:Rho->Option T) (fa:Rho->Option (List T)) (FX:List T->Option (T ⊕ Str)) (F:List T->Option T) (ρ:Rho):aHl f1 fa FX F ρ=(f1 ρ).bind fun t1=>(fa ρ).bind fun ts=>(FX ts).bind fun u=>match u with
 | .inl t2=>(F [t1,t2]).map fun t=>.inl (.rt t)
 | .inr nm=>some (.inr nm):=id rfl
section
variable {X:Cx}{B:Hp}{fl:List Nat}{n nf ng n1:Bool}{l lf lg l1 la kf kg:Nat}{e1 e:Expr}{es:List Expr}{f1:Rho->Option T}{fa:Rho->Option (List T)}{FX:List T->Option (T ⊕ Str)}{F:List T->Option T}{x y:Str}{psf psg:List Str}{p p' pos pos' epos:Pos}
end
section
variable {X:Cx}{B:Hp}{fl:List Nat}{n n':Bool}{l l' k:Nat}{e:Expr}{es:List Expr}{fa:Rho->Option (List T)}{FX:List T->Option (T ⊕ Str)}{x:Str}{ps:List Str}{p' pos epos:Pos}{ds:List Value}{dvs:List V}{dts:List T}
end
section
variable {K:PySem.W.Frag}{mg:Str->Option Value}{base:Heap}{y m c:Str}{C CE:Addr}{b0:Bool}{tab:List (Str × Bool)}{nms:List Str}{cd:ClassData}
theorem MK {nm:Str}{b:Bool}(h:((m,b0)::tab).lookup nm=some b):(nm=m/\b=b0)\/tab.lookup nm=some b:=by
 rw[aLu] at h;cases e:nm == m with
 | true=>rw[e] at h;exact .inl ⟨eq_of_beq e,(aK6 h).symm⟩
 | false=>rw[e] at h;exact .inr h
theorem qJ (I:K.In base) (G0:base.Ns mainGlobals mg) (hy:nmC K y CE):dG K mg y []:=⟨CE,aN6 I G0 hy,fun nm b h=>by cases h⟩
theorem qI (I:K.In base) (G0:base.Ns mainGlobals mg) (hy:nmC K y CE) (hm:nmC K m C) (hk:PySem.W.kitOne K (.ref C) (.ref CE)=some b0) (h:dG K mg y tab):dG K mg y ((m,b0)::tab):=by
 obtain⟨CE',e1,e2⟩:=h;have e:=aN6 I G0 hy;rw[e1] at e;cases (Value.ref.inj (aK6 e));refine⟨_,e1,fun nm b hl C' hC=>?_⟩;rcases MK hl with ⟨rfl,rfl⟩ | hl
 ·rw[BS hC.1 hm];exact hk
 ·exact e2 nm b hl C' hC
theorem XW {v:String}:rH K v []:=fun nm b h=>by cases h
theorem XV {v:String}(hm:nmC K m C) (hk:PySem.W.kitOne K (.ref C) (.type v)=some b0) (h:rH K v tab):rH K v ((m,b0)::tab):=fun nm b hl C' hC=>by
 rcases MK hl with ⟨rfl,rfl⟩ | hl
 ·rw[BS hC.1 hm];exact hk
 ·exact h nm b hl C' hC
theorem aGz (I:K.In base) (G0:base.Ns mainGlobals mg) (hc:nmC K c CE) (ht:PySem.W.typeIn K (.ref CE)=some (.type "type")) (hcl:PySem.W.clsIn K CE=some cd) (hb:PySem.W.subIn K (.ref CE) (.type "BaseException")=some true):TryK K mg c []:=
 ⟨CE,cd,aN6 I G0 hc,ht,hcl,hb,fun nm h=>by cases h⟩
theorem aGy (I:K.In base) (G0:base.Ns mainGlobals mg) (hc:nmC K c CE) (hm:nmC K m C) (hx:qA K C=true) (hs:PySem.W.subIn K (.ref C) (.ref CE)=some true) (h:TryK K mg c nms):TryK K mg c (m::nms):=by
 obtain⟨CE',cd',e1,e2,e3,e4,e5⟩:=h.ex;have e:=aN6 I G0 hc;rw[e1] at e;cases (Value.ref.inj (aK6 e));refine⟨_,cd',e1,e2,e3,e4,fun nm hn C' hC=>?_⟩;rcases aKi.mp hn with rfl | hn
 ·cases BS hC hm
  exact⟨UT hm hx,hs⟩
 ·exact e5 nm hn C' hC
end
def aHk (fa:Rho->Option (List T)) (FX:List T->Option (T ⊕ Str)):Rho->Option (Out ⊕ Str):=fun ρ=>(fa ρ).bind fun ts=>(FX ts).bind fun u=>match u with
 | .inl t=>some (.inl (.rt t))
 | .inr nm=>some (.inr nm)
@[simp] theorem xRet1_at (fa:Rho->Option (List T)) (FX:List T->Option (T ⊕ Str)) (ρ:Rho):aHk fa FX ρ=(fa ρ).bind fun ts=>(FX ts).bind fun u=>match u with
 | .inl t=>some (.inl (.rt t))
 | .inr nm=>some (.inr nm):=id rfl
section
variable {X:Cx}{B:Hp}{fl:List Nat}{n n':Bool}{l l' k la:Nat}{e:Expr}{es:List Expr}{fa:Rho->Option (List T)}{FX:List T->Option (T ⊕ Str)}{x:Str}{ps:List Str}{p' pos epos:Pos}
end
structure CalXP (P:Program) (w:World) (K:PySem.W.Frag) (mg:Str->Option Value) (base:Heap) (Pt:Addr) (o:HO) (x:Str) (k:Nat) (ps:List Str) (FX:List T->Option (T ⊕ Str)) (n:Bool) (l:Nat) (ds:List Value):Prop where
 ex:∃ f fd,FnOk P w K mg base (CX1 P w) k f fd ps (spP Pt o (spX K FX n l))/\mg x=some (.ref f)/\PySem.W.keepIn K (.ref f)=true/\fE K fd ps ds
theorem WR {X:Cx}{B:Hp}{fl:List Nat}{n n':Bool}{l l' la k i:Nat}{e:Expr}{es:List Expr}{fa:Rho->Option (List T)}{FX:List T->Option (T ⊕ Str)}{x c v:Str}{ps:List Str}{p' pos epos cp hpos tpos:Pos}{b₀:Stmt}{suite:List Stmt}{rs:Rho->Option Out}{nms:List Str}{ds:List Value}{dvs:List V}{dts:List T}{Pt:Addr}{oP:HO}
  (C:CalXP X.prog X.w X.K X.mg X.base Pt oP x k ps FX n' l' ds) (hB:B Pt=some oP) (hd:aK dvs ds) (hdt:∀ (H:Hp),RepL X.K H (fun _=>True) dts dvs) (TK:TryK X.K X.mg c nms) (hr:Room k X.A) (hex:X.ex=[]) (hg:Gl X x) (hgc:Gl X c) (ha:GA X.nox B fl (e::es) fa la)
  (hst:X.stack=X.env::X.outer) (hL:X.env.frame=some X.env.locals) (hN:X.N.Nodup) (hi:X.N[i]?=some v) (hv:X.env.scope.names.lookup v=some .local) (hfl:(decide (i<fl.length)&&decide (1<=fl.getD i 1))=true)
  (hs:∀ a,GSs (X.hdl a) B fl n l (b₀::suite) rs) (hsw:swapsWith (.Call (.Name x p') (e::es) [] pos) none epos.line X.env=pure false:=by rfl) (hdb:(x == ("__debug__" : Str))=false:=by decide) (hdc:(c == ("__debug__" : Str))=false:=by decide)
  (he:starEach (e::es) X.env=(false,eval e X.env)::starEach es X.env:=by rfl) (hpl:(backTo pos (starEach es X.env)).any (·.1)=false:=by rfl):
  GS X B fl n l (.Try [.Expr (.Call (.Name x p') (e::es) [] pos) epos] [.ExceptHandler (some (.Name c cp)) (some v) (b₀::suite) hpos] [] [] tpos) (CN i (zU dts fa) FX nms rs):=by
 obtain⟨f,fd,FO,hm,hk,hb⟩:=C.ex;obtain⟨CE,cd,hmc,ht,hcl,hbe,hnm⟩:=TK.ex;simp only[aKn,decide_eq_true_eq] at hfl;refine eB (aDq (ts:=tS X.K B fl n l rs) (i:=i) hst hL hN hi hv hgc hmc ht hcl hbe (KC (KD (JN (dvs:=dvs) FO hr hex hg hm hk hb hd ha hdb he hpl) hsw)) (fun a=>hs a) hdc) ?_;rintro D σ H ⟨Ex,ρ,M,o,S,hrr,q⟩;obtain⟨ts',hts',hrr⟩:=bind_some hrr;obtain⟨u,hu,hrr⟩:=bind_some hrr;cases hts:fa ρ with
 | none=>simp only[aApp_at,hts] at hts';cases hts'
 | some ts=>
 simp only[aApp_at,hts] at hts';cases (aK6 hts');refine⟨Ex,ρ,M,ts,S,hts,fun vs H1 s1 r1=>?_⟩;show spP Pt oP (spX X.K FX n' l') (vs++dvs) H1 _ _;refine⟨(S.same.trans s1) _ _ hB,ts++dts,u,RepL.app (LC r1) (hdt H1),hu,?_⟩;cases u with
 | inl t=>
  cases (aK6 hrr);exact fun v H2 s2 _=>q σ M H2 (S.grow (s1.trans s2))
 | inr nm=>
  intro C' H2 hC s2;dsimp only at hrr;split at hrr
  ·rename_i hmem
   obtain⟨o',ho',hrr⟩:=bind_some hrr;obtain⟨hEx,hsub⟩:=hnm nm hmem C' hC;refine⟨rfl,C',rfl,hsub,fun a ha0=>?_⟩;have S2:=(S.grow (s1.trans s2)).grow (cL ha0 (qB a (.ref C')));have S3:=S2.set (i:=i) (t:=.exc nm) (v:=.ref a) hfl.1 (.inl hfl.2) ⟨a,C',rfl,hEx,.inl cU⟩;refine⟨Ex,_,M,o',S3,ho',?_⟩
   match o',hrr with
   | .nx ρ',hrr=>
    cases (aK6 hrr);exact fun σ' M' H' S'=>q _ M' H' S'.drop
   | .rt t,hrr=>
    cases (aK6 hrr);exact q
  ·cases hrr
section
variable {P:Program}{w:World}{K:PySem.W.Frag}{mg:Str->Option Value}{base:Heap}
theorem WD {x qual:Str}{st:Stmt}{f:Addr}{fd:FuncData}{N ps:List Str}{k:Nat}{fl:List Nat}{n:Bool}{l:Nat}{FX:List T->Option (T ⊕ Str)}{run:Rho->Option (Out ⊕ Str)}{Pt:Addr}{oP:HO}(Fu:Fun K x qual st f fd) (S:FnScope N ps (defScope st))
  (hfl:fl.length=N.length) (hp:∀ i,i<ps.length->fl.getD i 1=1) (hlen:∀ ts t,FX ts=some t->ts.length=ps.length)
  (hb:∀ (cdv:Value) (A:Around) (outer:List Env) (s:Shared) (H:Hp) (E:XK),H Pt=some oP->Room k (A.deeper (envOfC qual (defScope st) s.heap.objs.size f cdv)) ->
   fJ (aQ (CX1 P w) P w K mg base N qual (defScope st) f cdv A outer s H E) H fl n l (defBody st) run)
  (hrun:∀ ts t,FX ts=some t->∃ o,run (ts.map some++List.replicate (N.length-ps.length) none)=some o/\vW o t) (hl4:l≠4:=by decide):FnOk P w K mg base (CX1 P w) (k+1) f fd ps (spP Pt oP (spX K FX n l)):=by
 have hN:ps.length<=N.length:=by have:=congrArg List.length S.pre;rw[aLt] at this;omega
 refine Fun.okX Fu S (fun vs H Q E h=>?_) (fun cdv A outer s H vs Q E hr h=>⟨_,hb cdv A outer s H E h.1 hr,FY hN hfl hp hlen hrun h.2 hl4⟩);obtain⟨_,ts,t,r,hf,_⟩:=h;rw[<- r.length];exact hlen ts t hf
end
end G
namespace My
open PySem PySem.Spec PyProof.Rows L2 G
def top (i:Nat):Stmt:=PySem.Challenge.pw_groupcost_k32_best_base.main.body.getD i (.Pass ⟨0,0,0,0⟩)
local macro_rules | `(tactic| trivial)=>`(tactic| first | exact Or.inl rfl | exact Or.inr rfl | exact Or.inr (Or.inl rfl) | exact Or.inr (Or.inr rfl))
set_option maxRecDepth 100000
variable {P:Program}{w:World}{K:PySem.W.Frag}{mg:Str->Option Value}{base:Heap}{f Pt cq bm:Addr}
abbrev bQ:HO:=.tbc ⟨77,42,77,76⟩ ((("price_order" : Str) ++ ".<locals>.") ++ "<lambda>")
abbrev nB:Stmt:=top 35
theorem aF1:FnScope ["script","k"] ["script","k"] (defScope nB):=⟨rfl,rfl,rfl,by decide +kernel,rfl,by decide +kernel,by decide +kernel⟩
def tM:Rho->Option Out:=
 aH (rIf (fB (f2 (aA 1) (aG (aC (aA 0) aE) cH) oLt)) (aP (f1 (f2 (aA 0) (aA 1) oIx) bF)) bO)
  (aP (fC (.int 0)))
def bX:List T->Option T:=Fof 2 0 tM
theorem NJ (t0 t1:T):bX [t0,t1]=(tM [some t0,some t1]).bind aZ:=rfl
theorem SR (aHs:mg "len" = none) (cdv:Value) (A:Around) (outer:List Env) (s:Shared) (H:Hp) (E:XK)
  (hr:Room 0 (A.deeper (envOfC "_law_cell" (defScope nB) s.heap.objs.size f cdv))):
  GSs (aQ CX0 P w K mg base ["script","k"] "_law_cell" (defScope nB) f cdv A outer s H E).nox H [1,1] false 3 (defBody nB) tM:=by
 have hu:=hr.units;unfold tM;exact @aI _ _ _ _ _ _ _ _ _ (@bS _ _ _ _ _ _ _ _ _ _ _ _ (@wZ _ _ _ _ _ _ _ _ _ _ _ _ (aB 1) (dC (by rfl) (by rfl) aHs (aD (aB 0) aF))) (@aJ _ _ _ _ _ _ _ (@aT _ _ _ _ _ _ _ _ (@aX _ _ _ _ _ _ _ _ _ (@GE.sc _ _ _ _ _ _ _ (@aW _ _ _ _ _ _ _ _ _ _ _ _ (aB 0) (aB 1) (by exact fun _ _=>rfl))) (by rfl)))) bU) (@aJ _ _ _ _ _ _ _ (@aT _ _ _ _ _ _ _ _ (@aX _ _ _ _ _ _ _ _ _ ge_int (by rfl))))
theorem aB3 {fd:FuncData}(aHs:mg "len" = none) (Fu:Fun K "_law_cell" "_law_cell" nB f fd):
  FnOk P w K mg base CX0 1 f fd ["script","k"] (spT K bX false 3):=
 gfn Fu aF1 rfl (by decide) (fun ts t h=>bB h) (fun cdv A outer s H E hr=>@SR _ _ _ _ _ _ aHs cdv A outer s H E hr) (fun ts t h=>bC h)
abbrev nG:Stmt:=top 37
theorem aF2:FnScope ["script"] ["script"] (defScope nG):=⟨rfl,rfl,rfl,by decide +kernel,rfl,by decide +kernel,by decide +kernel⟩
def tY:Rho->Option Out:=
 aP (f1 (f2 (fC (.lst (tI [1,2,3,4,3,2,4,5,3,6]))) (f2 (aG (aC (aA 0) (aC (fC (.int 0)) aE)) bX) (fC (.int 10)) aY) oIx) bF)
def kF:List T->Option T:=Fof 1 0 tY
theorem NN (t0:T):kF [t0]=(tY [some t0]).bind aZ:=rfl
theorem SV (aHt:Cal P w K mg base "_law_cell" 1 ["script","k"] bX false 3) (cdv:Value) (A:Around) (outer:List Env) (s:Shared) (H:Hp) (E:XK)
  (hr:Room 1 (A.deeper (envOfC "_law_hands" (defScope nG) s.heap.objs.size f cdv))):
  GSs (aQ CX0 P w K mg base ["script"] "_law_hands" (defScope nG) f cdv A outer s H E).nox H [1] false 3 (defBody nG) tY:=by
 have hu:=hr.units;unfold tY;exact @aJ _ _ _ _ _ _ _ (@aT _ _ _ _ _ _ _ _ (@aX _ _ _ _ _ _ _ _ _ (@GE.sc _ _ _ _ _ _ _ (@aW _ _ _ _ _ _ _ _ _ _ _ _ (@wO _ _ _ _ _ ([ 1 ,2 ,3 ,4 ,3 ,2 ,4 ,5 ,3 ,6 ]) (by rfl) (by decide +kernel)) (@cF _ _ _ _ _ _ _ _ _ _ _ _ (aR aHt (hr.mono (by decide)) (by rfl) (aD (aB 0) (aD ge_int aF))) ge_int) (by exact fun _ _=>rfl))) (by rfl)))
theorem aB7 {fd:FuncData}(aHt:Cal P w K mg base "_law_cell" 1 ["script","k"] bX false 3) (Fu:Fun K "_law_hands" "_law_hands" nG f fd):
  FnOk P w K mg base CX0 2 f fd ["script"] (spT K kF false 3):=
 gfn Fu aF2 rfl (by decide) (fun ts t h=>bB h) (fun cdv A outer s H E hr=>@SV _ _ _ _ _ _ aHt cdv A outer s H E hr) (fun ts t h=>bC h)
abbrev nM:Stmt:=top 39
theorem vP:FnScope ["script","hands","size","slots","k","at"] ["script","hands"] (defScope nM):=⟨rfl,rfl,rfl,by decide +kernel,rfl,by decide +kernel,by decide +kernel⟩
def yQ:Rho->Option T:=
 f2 (f2 (f2 (f2 (aA 0) (aA 0) bH) (fC (.int 48271)) bH) (f2 (fC (.int 7)) (aA 0) bH) bM) (fC (.int 1009)) aY
def yP:Rho->Option Out:=
 aH (aO 5 (f2 (f2 (aA 4) (fC (.int 1)) cZ) (aA 2) aY))
  (hZ 3 (aA 5) (f2 (f2 (f2 (f2 (aA 3) (aA 5) oIx) (fC (.int 1000003)) bH) (f2 (aA 0) (aA 4) oIx) bM) (f2 (fC (.int 10)) (fC (.int 59)) cD) aY))
def uE:Rho->Option Out:=
 aH (aO 2 (f2 (f2 (fC (.int 1)) (aA 1) cJ) (fC (.int 1)) cZ))
  (aH (dA 3 (cW (bY (aC (aA 2) aE) cI) [none] bI yQ))
  (aH (bW 4 (bY (aC (fC (.int 1)) (aC (aG (aC (aA 0) aE) cH) aE)) eZ)
  yP)
  (aP (fM 3))))
def kH:List T->Option T:=Fof 2 4 uE
theorem NS (t0 t1:T):kH [t0,t1]=(uE [some t0,some t1,none,none,none,none]).bind aZ:=rfl
theorem TC (aHr:mg "range" = none) (aHs:mg "len" = none) (cdv:Value) (A:Around) (outer:List Env) (s:Shared) (H:Hp) (E:XK)
  (hr:Room 0 (A.deeper (envOfC "_law_slots" (defScope nM) s.heap.objs.size f cdv))):
  GSs (aQ CX0 P w K mg base ["script","hands","size","slots","k","at"] "_law_slots" (defScope nM) f cdv A outer s H E).nox H [1,1,1,0,1,1] true 3 (defBody nM) uE:=by
 have hu:=hr.units;unfold uE yP yQ;exact @aI _ _ _ _ _ _ _ _ _ (@aU _ _ _ _ _ _ _ _ _ _ _ _ 2 (@dI _ _ _ _ _ _ _ _ _ _ _ _ (@dR _ _ _ _ _ _ _ _ _ _ _ _ ge_int (aB 1)) ge_int) vP.nd (by rfl) (Or.inl (by rfl)) (by rfl) (by rfl) (by trivial)) (@aI _ _ _ _ _ _ _ _ _ (@sD _ _ _ _ _ _ _ _ _ _ _ _ _ _ _ _ _ _ _ _ _ _ _ _ _ 3 (dO (by kernel_rfl) (N':=[ "k" ]) (src:=[ none ])) (fN (by kernel_rfl) (fl':=[ 2 ])) (by rfl) (dS (by rfl) (by rfl) aHr (aD (aB 2) aF)) (by rfl) (by rfl) (fun cl C s H ex=>⟨fP,@cF _ _ _ _ _ _ _ _ _ _ _ _ (@bN _ _ _ _ _ _ _ _ _ _ _ _ (@dH _ _ _ _ _ _ _ _ _ _ _ _ (@dH _ _ _ _ _ _ _ _ _ _ _ _ (aB 0) (aB 0)) ge_int) (@dH _ _ _ _ _ _ _ _ _ _ _ _ ge_int (aB 0))) ge_int⟩) vP.nd (by rfl) (Or.inl (by rfl)) (by rfl) (by rfl) (by intro _;rfl) (by trivial)) (@aI _ _ _ _ _ _ _ _ _ (@cA _ _ _ _ _ _ _ _ _ 4 _ _ _ _ _ PassesOwn.never (by rfl) (wU (by rfl) (by rfl) aHr (aD ge_int (aD (dC (by rfl) (by rfl) aHs (aD (aB 0) aF)) aF))) vP.nd (by rfl) (Or.inl (by rfl)) (@aI _ _ _ _ _ _ _ _ _ (@aU _ _ _ _ _ _ _ _ _ _ _ _ 5 (@cF _ _ _ _ _ _ _ _ _ _ _ _ (@dI _ _ _ _ _ _ _ _ _ _ _ _ (aB 4) ge_int) (aB 2)) vP.nd (by rfl) (Or.inl (by rfl)) (by rfl) (by rfl) (by trivial)) (@aJ _ _ _ _ _ _ _ (@mJ _ _ _ _ _ _ _ _ _ _ _ 3 _ _ _ _ _ _ (@cF _ _ _ _ _ _ _ _ _ _ _ _ (@bN _ _ _ _ _ _ _ _ _ _ _ _ (@dH _ _ _ _ _ _ _ _ _ _ _ _ (@aW _ _ _ _ _ _ _ _ _ _ _ _ (aB 3) (aB 5) (by exact fun _ _=>rfl)) ge_int) (@aW _ _ _ _ _ _ _ _ _ _ _ _ (aB 0) (aB 4) (by exact fun _ _=>rfl))) (@gM _ _ _ _ _ _ _ _ _ _ _ _ ge_int ge_int)) (aB 5) (by rfl) (by rfl) (by trivial) (by decide) (by decide) (by intro _;rfl) (by rfl) (by rfl) (by rfl)))) (by rfl) (by intro _;rfl) (by trivial)) (@aJ _ _ _ _ _ _ _ (@aT _ _ _ _ _ _ _ _ (@jL _ _ _ _ _ _ _ 3 (by rfl) (by trivial) (by rfl) (by decide) (by decide))))))
theorem aBd {fd:FuncData}(aHr:mg "range" = none) (aHs:mg "len" = none) (Fu:Fun K "_law_slots" "_law_slots" nM f fd):
  FnOk P w K mg base CX0 1 f fd ["script","hands"] (spT K kH true 3):=
 gfn Fu vP rfl (by decide) (fun ts t h=>bB h) (fun cdv A outer s H E hr=>@TC _ _ _ _ _ _ aHr aHs cdv A outer s H E hr) (fun ts t h=>bC h)
abbrev nH:Stmt:=top 38
theorem zB:FnScope ["group","many"] ["group"] (defScope nH):=⟨rfl,rfl,rfl,by decide +kernel,rfl,by decide +kernel,by decide +kernel⟩
def LG:Rho->Option Out:=
 aH (aO 1 (f2 (aA 1) (f2 (aA 0) (fC (.int 2)) aY) bM))
  (aO 0 (f2 (aA 0) (fC (.int 2)) bV))
def LH:Rho->Option Bool:=
 fB (f2 (aA 0) (fC (.int 0)) oGt)
def CS:Rho->Option Out:=
 aH (aO 1 (fC (.int 0)))
  (aH (yD LH LG)
  (aP (f1 (aA 1) bF)))
def fG:List T->Option T:=Fof 1 1 CS
theorem SW (cdv:Value) (A:Around) (outer:List Env) (s:Shared) (H:Hp) (E:XK)
  (hr:Room 0 (A.deeper (envOfC "_law_many" (defScope nH) s.heap.objs.size f cdv))):
  GSs (aQ CX0 P w K mg base ["group","many"] "_law_many" (defScope nH) f cdv A outer s H E).nox H [1,1] false 3 (defBody nH) CS:=by
 have hu:=hr.units;unfold CS LH LG;exact @aI _ _ _ _ _ _ _ _ _ (@aU _ _ _ _ _ _ _ _ _ _ _ _ 1 ge_int zB.nd (by rfl) (Or.inl (by rfl)) (by rfl) (by rfl) (by trivial)) (@aI _ _ _ _ _ _ _ _ _ (@GV _ _ _ _ _ _ _ _ _ _ PassesOwn.never (@wY _ _ _ _ _ _ _ _ _ _ _ _ (aB 0) ge_int) (@aI _ _ _ _ _ _ _ _ _ (@aU _ _ _ _ _ _ _ _ _ _ _ _ 1 (@bN _ _ _ _ _ _ _ _ _ _ _ _ (aB 1) (@cF _ _ _ _ _ _ _ _ _ _ _ _ (aB 0) ge_int)) zB.nd (by rfl) (Or.inl (by rfl)) (by rfl) (by rfl) (by trivial)) (@aJ _ _ _ _ _ _ _ (@aU _ _ _ _ _ _ _ _ _ _ _ _ 0 (@gJ _ _ _ _ _ _ _ _ _ _ _ _ (aB 0) ge_int) zB.nd (by rfl) (Or.inl (by rfl)) (by rfl) (by rfl) (by trivial))))) (@aJ _ _ _ _ _ _ _ (@aT _ _ _ _ _ _ _ _ (@aX _ _ _ _ _ _ _ _ _ (@GE.sc _ _ _ _ _ _ _ (aB 1)) (by rfl)))))
theorem aB8 {fd:FuncData}(Fu:Fun K "_law_many" "_law_many" nH f fd):
  FnOk P w K mg base CX0 1 f fd ["group"] (spT K fG false 3):=
 gfn Fu zB rfl (by decide) (fun ts t h=>bB h) (fun cdv A outer s H E hr=>@SW _ _ _ _ _ _  cdv A outer s H E hr) (fun ts t h=>bC h)
abbrev nN:Stmt:=top 41
theorem fZ:FnScope ["slots","hands","most","table","part","slot","cap","weight","group","held","hand","each"] ["slots","hands","most"] (defScope nN):=⟨rfl,rfl,rfl,by decide +kernel,rfl,by decide +kernel,by decide +kernel⟩
def CT:Rho->Option T:=
 fC (.int 0)
def uG:Rho->Option Out:=
 aH (aO 9 (aG (aC (aA 6) (aC (aG (aC (f2 (aA 8) (aA 4) jP) aE) fG) aE)) BV))
  (hZ 3 (aA 8) (f2 (f2 (aA 3) (aA 8) oIx) (f2 (aA 7) (aA 9) bH) bM))
def qV:Rho->Option Out:=
 aH (aO 5 (f1 (f2 (aA 0) (f2 (aA 4) (fC (.int 1)) cZ) oIx) bF))
  (aH (aO 6 (f2 (fC (.int 1)) (f2 (f2 (f2 (aA 5) (fC (.int 5)) bV) (fC (.int 11)) aY) (aG (aC (aA 4) aE) fG) aY) bM))
  (aH (aO 7 (f2 (f2 (aA 5) (fC (.int 55)) bV) (aA 2) aY))
  (rIf (sX (fB (f2 (aA 7) (fC (.int 0)) oGt)) (fB (f2 (f2 (aA 5) (fC (.int 5)) aY) (fC (.int 3)) oLt))) (bW 8 (bY (aC (f2 (fC (.int 1)) (aA 1) cJ) aE) cI)
  uG) bO)))
def uH:Rho->Option Out:=
 rIf (fB (f2 (f2 (f2 (aA 8) (aA 10) jR) (fC (.int 1)) jP) (fC (.int 1)) oEq)) (aH (aO 11 (f2 (f2 (f2 (f2 (aA 0) (aA 10) oIx) (fC (.int 3)) bV) (fC (.int 7)) aY) (fC (.int 3)) cZ))
  (hZ 3 (aA 8) (f2 (f2 (aA 3) (aA 8) oIx) (f2 (f2 (aA 11) (aA 2) bH) (fC (.int 2)) bV) bM))) bO
def uI:Rho->Option Out:=
 bW 10 (bY (aC (aA 1) aE) cI)
  uH
def uF:Rho->Option Out:=
 aH (dA 3 (cW (bY (aC (f2 (fC (.int 1)) (aA 1) cJ) aE) cI) [none] bI CT))
  (aH (bW 4 (bY (aC (fC (.int 1)) (aC (f2 (fC (.int 1)) (aA 1) cJ) aE)) eZ)
  qV)
  (aH (bW 8 (bY (aC (f2 (fC (.int 1)) (aA 1) cJ) aE) cI)
  uI)
  (aP (fM 3))))
def kI:List T->Option T:=Fof 3 9 uF
theorem NT (t0 t1 t2:T):kI [t0,t1,t2]=(uF [some t0,some t1,some t2,none,none,none,none,none,none,none,none,none]).bind aZ:=rfl
theorem TD (aI0:Cal P w K mg base "_law_many" 1 ["group"] fG false 3) (aHr:mg "range" = none) (aJc:mg "min" = none) (cdv:Value) (A:Around) (outer:List Env) (s:Shared) (H:Hp) (E:XK)
  (hr:Room 1 (A.deeper (envOfC "_law_tied" (defScope nN) s.heap.objs.size f cdv))):
  GSs (aQ CX0 P w K mg base ["slots","hands","most","table","part","slot","cap","weight","group","held","hand","each"] "_law_tied" (defScope nN) f cdv A outer s H E).nox H [1,1,1,0,1,1,1,1,1,1,1,1] true 3 (defBody nN) uF:=by
 have hu:=hr.units;unfold uF uI uH qV uG CT;exact @aI _ _ _ _ _ _ _ _ _ (@sD _ _ _ _ _ _ _ _ _ _ _ _ _ _ _ _ _ _ _ _ _ _ _ _ _ 3 (dO (by kernel_rfl) (N':=[ "group" ]) (src:=[ none ])) (fN (by kernel_rfl) (fl':=[ 2 ])) (by rfl) (dS (by rfl) (by rfl) aHr (aD (@dR _ _ _ _ _ _ _ _ _ _ _ _ ge_int (aB 1)) aF)) (by rfl) (by rfl) (fun cl C s H ex=>⟨fP,@ge_int _ _ _ _ _ _⟩) fZ.nd (by rfl) (Or.inl (by rfl)) (by rfl) (by rfl) (by intro _;rfl) (by trivial)) (@aI _ _ _ _ _ _ _ _ _ (@cA _ _ _ _ _ _ _ _ _ 4 _ _ _ _ _ PassesOwn.never (by rfl) (wU (by rfl) (by rfl) aHr (aD ge_int (aD (@dR _ _ _ _ _ _ _ _ _ _ _ _ ge_int (aB 1)) aF))) fZ.nd (by rfl) (Or.inl (by rfl)) (@aI _ _ _ _ _ _ _ _ _ (@aU _ _ _ _ _ _ _ _ _ _ _ _ 5 (@GE.sc _ _ _ _ _ _ _ (@aW _ _ _ _ _ _ _ _ _ _ _ _ (aB 0) (@dI _ _ _ _ _ _ _ _ _ _ _ _ (aB 4) ge_int) (by exact fun _ _=>rfl))) fZ.nd (by rfl) (Or.inl (by rfl)) (by rfl) (by rfl) (by trivial)) (@aI _ _ _ _ _ _ _ _ _ (@aU _ _ _ _ _ _ _ _ _ _ _ _ 6 (@bN _ _ _ _ _ _ _ _ _ _ _ _ ge_int (@cF _ _ _ _ _ _ _ _ _ _ _ _ (@cF _ _ _ _ _ _ _ _ _ _ _ _ (@gJ _ _ _ _ _ _ _ _ _ _ _ _ (aB 5) ge_int) ge_int) (aR aI0 (hr.mono (by decide)) (by rfl) (aD (aB 4) aF)))) fZ.nd (by rfl) (Or.inl (by rfl)) (by rfl) (by rfl) (by trivial)) (@aI _ _ _ _ _ _ _ _ _ (@aU _ _ _ _ _ _ _ _ _ _ _ _ 7 (@cF _ _ _ _ _ _ _ _ _ _ _ _ (@gJ _ _ _ _ _ _ _ _ _ _ _ _ (aB 5) ge_int) (aB 2)) fZ.nd (by rfl) (Or.inl (by rfl)) (by rfl) (by rfl) (by trivial)) (@aJ _ _ _ _ _ _ _ (@bS _ _ _ _ _ _ _ _ _ _ _ _ (@GW.gt _ _ _ _ _ (@BE _ _ _ _ _ _ _ _ _ (@wY _ _ _ _ _ _ _ _ _ _ _ _ (aB 7) ge_int) (@BF _ _ _ _ _ _ (@wZ _ _ _ _ _ _ _ _ _ _ _ _ (@cF _ _ _ _ _ _ _ _ _ _ _ _ (aB 5) ge_int) ge_int)))) (@aJ _ _ _ _ _ _ _ (@cA _ _ _ _ _ _ _ _ _ 8 _ _ _ _ _ PassesOwn.never (by rfl) (dS (by rfl) (by rfl) aHr (aD (@dR _ _ _ _ _ _ _ _ _ _ _ _ ge_int (aB 1)) aF)) fZ.nd (by rfl) (Or.inl (by rfl)) (@aI _ _ _ _ _ _ _ _ _ (@aU _ _ _ _ _ _ _ _ _ _ _ _ 9 (VT (by rfl) (by rfl) (by rfl) aJc (aD (aB 6) (aD (aR aI0 (hr.mono (by decide)) (by rfl) (aD (@qD _ _ _ _ _ _ _ _ _ _ _ _ (aB 8) (aB 4)) aF)) aF))) fZ.nd (by rfl) (Or.inl (by rfl)) (by rfl) (by rfl) (by trivial)) (@aJ _ _ _ _ _ _ _ (@mJ _ _ _ _ _ _ _ _ _ _ _ 3 _ _ _ _ _ _ (@bN _ _ _ _ _ _ _ _ _ _ _ _ (@aW _ _ _ _ _ _ _ _ _ _ _ _ (aB 3) (aB 8) (by exact fun _ _=>rfl)) (@dH _ _ _ _ _ _ _ _ _ _ _ _ (aB 7) (aB 9))) (aB 8) (by rfl) (by rfl) (by trivial) (by decide) (by decide) (by intro _;rfl) (by rfl) (by rfl) (by rfl)))) (by rfl) (by intro _;rfl) (by trivial))) bU))))) (by rfl) (by intro _;rfl) (by trivial)) (@aI _ _ _ _ _ _ _ _ _ (@cA _ _ _ _ _ _ _ _ _ 8 _ _ _ _ _ PassesOwn.never (by rfl) (dS (by rfl) (by rfl) aHr (aD (@dR _ _ _ _ _ _ _ _ _ _ _ _ ge_int (aB 1)) aF)) fZ.nd (by rfl) (Or.inl (by rfl)) (@aJ _ _ _ _ _ _ _ (@cA _ _ _ _ _ _ _ _ _ 10 _ _ _ _ _ PassesOwn.never (by rfl) (dS (by rfl) (by rfl) aHr (aD (aB 1) aF)) fZ.nd (by rfl) (Or.inl (by rfl)) (@aJ _ _ _ _ _ _ _ (@bS _ _ _ _ _ _ _ _ _ _ _ _ (@qF _ _ _ _ _ _ _ _ _ _ _ _ hu (@qD _ _ _ _ _ _ _ _ _ _ _ _ (@wS _ _ _ _ _ _ _ _ _ _ _ _ (aB 8) (aB 10)) ge_int) ge_int) (@aI _ _ _ _ _ _ _ _ _ (@aU _ _ _ _ _ _ _ _ _ _ _ _ 11 (@dI _ _ _ _ _ _ _ _ _ _ _ _ (@cF _ _ _ _ _ _ _ _ _ _ _ _ (@gJ _ _ _ _ _ _ _ _ _ _ _ _ (@aW _ _ _ _ _ _ _ _ _ _ _ _ (aB 0) (aB 10) (by exact fun _ _=>rfl)) ge_int) ge_int) ge_int) fZ.nd (by rfl) (Or.inl (by rfl)) (by rfl) (by rfl) (by trivial)) (@aJ _ _ _ _ _ _ _ (@mJ _ _ _ _ _ _ _ _ _ _ _ 3 _ _ _ _ _ _ (@bN _ _ _ _ _ _ _ _ _ _ _ _ (@aW _ _ _ _ _ _ _ _ _ _ _ _ (aB 3) (aB 8) (by exact fun _ _=>rfl)) (@gJ _ _ _ _ _ _ _ _ _ _ _ _ (@dH _ _ _ _ _ _ _ _ _ _ _ _ (aB 11) (aB 2)) ge_int)) (aB 8) (by rfl) (by rfl) (by trivial) (by decide) (by decide) (by intro _;rfl) (by rfl) (by rfl) (by rfl)))) bU)) (by rfl) (by intro _;rfl) (by trivial))) (by rfl) (by intro _;rfl) (by trivial)) (@aJ _ _ _ _ _ _ _ (@aT _ _ _ _ _ _ _ _ (@jL _ _ _ _ _ _ _ 3 (by rfl) (by trivial) (by rfl) (by decide) (by decide))))))
theorem aBe {fd:FuncData}(aI0:Cal P w K mg base "_law_many" 1 ["group"] fG false 3) (aHr:mg "range" = none) (aJc:mg "min" = none) (Fu:Fun K "_law_tied" "_law_tied" nN f fd):
  FnOk P w K mg base CX0 2 f fd ["slots","hands","most"] (spT K kI true 3):=
 gfn Fu fZ rfl (by decide) (fun ts t h=>bB h) (fun cdv A outer s H E hr=>@TD _ _ _ _ _ _ aI0 aHr aJc cdv A outer s H E hr) (fun ts t h=>bC h)
abbrev nI:Stmt:=top 40
theorem vN:FnScope ["slots","hands","most","table","group","many","noise"] ["slots","hands","most"] (defScope nI):=⟨rfl,rfl,rfl,by decide +kernel,rfl,by decide +kernel,by decide +kernel⟩
def yJ:Rho->Option Out:=
 aH (aO 5 (f1 (aG (aC (aA 4) aE) fG) bF))
  (aH (aO 6 (f2 (f2 (f2 (aA 0) (f2 (aA 4) (fC (.int 1)) cZ) oIx) (fC (.int 7)) bV) (aA 2) aY))
  (tD 3 (f2 (aA 6) (f2 (f2 (aA 2) (aA 5) bH) (aA 5) bH) cZ)))
def tZ:Rho->Option Out:=
 aH (dA 3 (fC (.lst (tI [0]))))
  (aH (bW 4 (bY (aC (fC (.int 1)) (aC (f2 (fC (.int 1)) (aA 1) cJ) aE)) eZ)
  yJ)
  (aP (fM 3)))
def jD:List T->Option T:=Fof 3 4 tZ
theorem NO (t0 t1 t2:T):jD [t0,t1,t2]=(tZ [some t0,some t1,some t2,none,none,none,none]).bind aZ:=rfl
theorem SX (aI0:Cal P w K mg base "_law_many" 1 ["group"] fG false 3) (aHr:mg "range" = none) (cdv:Value) (A:Around) (outer:List Env) (s:Shared) (H:Hp) (E:XK)
  (hr:Room 1 (A.deeper (envOfC "_law_noisy" (defScope nI) s.heap.objs.size f cdv))):
  GSs (aQ CX0 P w K mg base ["slots","hands","most","table","group","many","noise"] "_law_noisy" (defScope nI) f cdv A outer s H E).nox H [1,1,1,0,1,1,1] true 3 (defBody nI) tZ:=by
 have hu:=hr.units;unfold tZ yJ;exact @aI _ _ _ _ _ _ _ _ _ (@gZ _ _ _ _ _ _ _ _ _ _ _ 3 (@wO _ _ _ _ _ ([ 0 ]) (by rfl) (by decide +kernel)) vN.nd (by rfl) (Or.inl (by rfl)) (by rfl) (by rfl) (by trivial)) (@aI _ _ _ _ _ _ _ _ _ (@cA _ _ _ _ _ _ _ _ _ 4 _ _ _ _ _ PassesOwn.never (by rfl) (wU (by rfl) (by rfl) aHr (aD ge_int (aD (@dR _ _ _ _ _ _ _ _ _ _ _ _ ge_int (aB 1)) aF))) vN.nd (by rfl) (Or.inl (by rfl)) (@aI _ _ _ _ _ _ _ _ _ (@aU _ _ _ _ _ _ _ _ _ _ _ _ 5 (@GE.sc _ _ _ _ _ _ _ (aR aI0 (hr.mono (by decide)) (by rfl) (aD (aB 4) aF))) vN.nd (by rfl) (Or.inl (by rfl)) (by rfl) (by rfl) (by trivial)) (@aI _ _ _ _ _ _ _ _ _ (@aU _ _ _ _ _ _ _ _ _ _ _ _ 6 (@cF _ _ _ _ _ _ _ _ _ _ _ _ (@gJ _ _ _ _ _ _ _ _ _ _ _ _ (@aW _ _ _ _ _ _ _ _ _ _ _ _ (aB 0) (@dI _ _ _ _ _ _ _ _ _ _ _ _ (aB 4) ge_int) (by exact fun _ _=>rfl)) ge_int) (aB 2)) vN.nd (by rfl) (Or.inl (by rfl)) (by rfl) (by rfl) (by trivial)) (@aJ _ _ _ _ _ _ _ (@BA _ _ _ _ _ _ _ _ _ _ _ _ 3 _ _ (@dI _ _ _ _ _ _ _ _ _ _ _ _ (aB 6) (@dH _ _ _ _ _ _ _ _ _ _ _ _ (@dH _ _ _ _ _ _ _ _ _ _ _ _ (aB 2) (aB 5)) (aB 5))) (by rfl) (by rfl) (by trivial) (by decide) (by decide) (by rfl) (by rfl) (by rfl) (by rfl) (by rfl))))) (by rfl) (by intro _;rfl) (by trivial)) (@aJ _ _ _ _ _ _ _ (@aT _ _ _ _ _ _ _ _ (@jL _ _ _ _ _ _ _ 3 (by rfl) (by trivial) (by rfl) (by decide) (by decide)))))
theorem aB9 {fd:FuncData}(aI0:Cal P w K mg base "_law_many" 1 ["group"] fG false 3) (aHr:mg "range" = none) (Fu:Fun K "_law_noisy" "_law_noisy" nI f fd):
  FnOk P w K mg base CX0 2 f fd ["slots","hands","most"] (spT K jD true 3):=
 gfn Fu vN rfl (by decide) (fun ts t h=>bB h) (fun cdv A outer s H E hr=>@SX _ _ _ _ _ _ aI0 aHr cdv A outer s H E hr) (fun ts t h=>bC h)
abbrev nD:Stmt:=top 42
theorem pN:FnScope ["script","hands","slots","way","table"] ["script","hands"] (defScope nD):=⟨rfl,rfl,rfl,by decide +kernel,rfl,by decide +kernel,by decide +kernel⟩
def tO:Rho->Option T:=
 f2 (f2 (f2 (f2 (fC (.int 10)) (fC (.int 50)) cD) (fC (.int 2)) cD) (f2 (fC (.int 10)) (fC (.int 30)) cD) bH) (aA 0) bH
def tN:Rho->Option Out:=
 aH (aO 2 (aG (aC (aA 0) (aC (aA 1) aE)) kH))
  (aH (aO 3 (f2 (f2 (aG (aC (aA 0) (aC (fC (.int 0)) aE)) bX) (fC (.int 10)) bV) (fC (.int 4)) aY))
  (aH (dA 4 (aG (aC (aA 2) (aC (aA 1) (aC (f2 (fK (aC (fC (.int 4)) (aC (f2 (fC (.int 10)) (fC (.int 50)) cD) aE))) (f2 (aA 3) (fC (.int 2)) aY) oIx) aE))) kI))
  (aH (rIf (fB (f2 (aA 3) (fC (.int 0)) oEq)) (dA 4 (aG (aC (aA 2) (aC (aA 1) (aC (f2 (fC (.int 10)) (fC (.int 58)) cD) aE))) jD)) bO)
  (aH (rIf (fB (f2 (aA 3) (fC (.int 1)) oEq)) (dA 4 (aG (aC (aA 2) (aC (aA 1) (aC (fC (.int 3)) aE))) jD)) bO)
  (aH (rIf (fB (f2 (f2 (f2 (aG (aC (aA 0) (aC (fC (.int 0)) aE)) bX) (fC (.int 40)) bV) (fC (.int 8)) aY) (fC (.int 3)) oEq)) (dA 4 (cW (fFL (aA 4)) [none] bI tO)) bO)
  (aP (fM 4)))))))
def kB:List T->Option T:=Fof 2 3 tN
theorem NK (t0 t1:T):kB [t0,t1]=(tN [some t0,some t1,none,none,none]).bind aZ:=rfl
theorem SS (aIk:Cal P w K mg base "_law_slots" 1 ["script","hands"] kH true 3) (aHt:Cal P w K mg base "_law_cell" 1 ["script","k"] bX false 3) (aIt:Cal P w K mg base "_law_tied" 2 ["slots","hands","most"] kI true 3) (aIa:Cal P w K mg base "_law_noisy" 2 ["slots","hands","most"] jD true 3) (cdv:Value) (A:Around) (outer:List Env) (s:Shared) (H:Hp) (E:XK)
  (hr:Room 2 (A.deeper (envOfC "_law_falling" (defScope nD) s.heap.objs.size f cdv))):
  GSs (aQ CX0 P w K mg base ["script","hands","slots","way","table"] "_law_falling" (defScope nD) f cdv A outer s H E).nox H [1,1,1,1,0] true 3 (defBody nD) tN:=by
 have hu:=hr.units;unfold tN tO;exact @aI _ _ _ _ _ _ _ _ _ (@aU _ _ _ _ _ _ _ _ _ _ _ _ 2 (aR aIk (hr.mono (by decide)) (by rfl) (aD (aB 0) (aD (aB 1) aF))) pN.nd (by rfl) (Or.inl (by rfl)) (by rfl) (by rfl) (by trivial)) (@aI _ _ _ _ _ _ _ _ _ (@aU _ _ _ _ _ _ _ _ _ _ _ _ 3 (@cF _ _ _ _ _ _ _ _ _ _ _ _ (@gJ _ _ _ _ _ _ _ _ _ _ _ _ (aR aHt (hr.mono (by decide)) (by rfl) (aD (aB 0) (aD ge_int aF))) ge_int) ge_int) pN.nd (by rfl) (Or.inl (by rfl)) (by rfl) (by rfl) (by trivial)) (@aI _ _ _ _ _ _ _ _ _ (@gZ _ _ _ _ _ _ _ _ _ _ _ 4 (aR aIt (hr.mono (by decide)) (by rfl) (aD (aB 2) (aD (aB 1) (aD (@aW _ _ _ _ _ _ _ _ _ _ _ _ (@gK _ _ _ _ _ _ _ (aD ge_int (aD (@gM _ _ _ _ _ _ _ _ _ _ _ _ ge_int ge_int) aF))) (@cF _ _ _ _ _ _ _ _ _ _ _ _ (aB 3) ge_int) (by exact fun _ _=>rfl)) aF)))) pN.nd (by rfl) (Or.inl (by rfl)) (by rfl) (by rfl) (by trivial)) (@aI _ _ _ _ _ _ _ _ _ (@bS _ _ _ _ _ _ _ _ _ _ _ _ (@qF _ _ _ _ _ _ _ _ _ _ _ _ hu (aB 3) ge_int) (@aJ _ _ _ _ _ _ _ (@gZ _ _ _ _ _ _ _ _ _ _ _ 4 (aR aIa (hr.mono (by decide)) (by rfl) (aD (aB 2) (aD (aB 1) (aD (@gM _ _ _ _ _ _ _ _ _ _ _ _ ge_int ge_int) aF)))) pN.nd (by rfl) (Or.inl (by rfl)) (by rfl) (by rfl) (by trivial))) bU) (@aI _ _ _ _ _ _ _ _ _ (@bS _ _ _ _ _ _ _ _ _ _ _ _ (@qF _ _ _ _ _ _ _ _ _ _ _ _ hu (aB 3) ge_int) (@aJ _ _ _ _ _ _ _ (@gZ _ _ _ _ _ _ _ _ _ _ _ 4 (aR aIa (hr.mono (by decide)) (by rfl) (aD (aB 2) (aD (aB 1) (aD ge_int aF)))) pN.nd (by rfl) (Or.inl (by rfl)) (by rfl) (by rfl) (by trivial))) bU) (@aI _ _ _ _ _ _ _ _ _ (@bS _ _ _ _ _ _ _ _ _ _ _ _ (@qF _ _ _ _ _ _ _ _ _ _ _ _ hu (@cF _ _ _ _ _ _ _ _ _ _ _ _ (@gJ _ _ _ _ _ _ _ _ _ _ _ _ (aR aHt (hr.mono (by decide)) (by rfl) (aD (aB 0) (aD ge_int aF))) ge_int) ge_int) ge_int) (@aJ _ _ _ _ _ _ _ (@sD _ _ _ _ _ _ _ _ _ _ _ _ _ _ _ _ _ _ _ _ _ _ _ _ _ 4 (dO (by kernel_rfl) (N':=[ "cost" ]) (src:=[ none ])) (fN (by kernel_rfl) (fl':=[ 2 ])) (by rfl) (eA (aB 4)) (by rfl) (by rfl) (fun cl C s H ex=>⟨fP,@dH _ _ _ _ _ _ _ _ _ _ _ _ (@dH _ _ _ _ _ _ _ _ _ _ _ _ (@gM _ _ _ _ _ _ _ _ _ _ _ _ (@gM _ _ _ _ _ _ _ _ _ _ _ _ ge_int ge_int) ge_int) (@gM _ _ _ _ _ _ _ _ _ _ _ _ ge_int ge_int)) (aB 0)⟩) pN.nd (by rfl) (Or.inl (by rfl)) (by rfl) (by rfl) (by intro _;rfl) (by trivial))) bU) (@aJ _ _ _ _ _ _ _ (@aT _ _ _ _ _ _ _ _ (@jL _ _ _ _ _ _ _ 4 (by rfl) (by trivial) (by rfl) (by decide) (by decide)))))))))
theorem aB4 {fd:FuncData}(aIk:Cal P w K mg base "_law_slots" 1 ["script","hands"] kH true 3) (aHt:Cal P w K mg base "_law_cell" 1 ["script","k"] bX false 3) (aIt:Cal P w K mg base "_law_tied" 2 ["slots","hands","most"] kI true 3) (aIa:Cal P w K mg base "_law_noisy" 2 ["slots","hands","most"] jD true 3) (Fu:Fun K "_law_falling" "_law_falling" nD f fd):
  FnOk P w K mg base CX0 3 f fd ["script","hands"] (spT K kB true 3):=
 gfn Fu pN rfl (by decide) (fun ts t h=>bB h) (fun cdv A outer s H E hr=>@SS _ _ _ _ _ _ aIk aHt aIt aIa cdv A outer s H E hr) (fun ts t h=>bC h)
abbrev nK:Stmt:=top 43
theorem pO:FnScope ["script","hands","start","slots","k","at","mixed_in","most","wide"] ["script","hands","start"] (defScope nK):=⟨rfl,rfl,rfl,by decide +kernel,rfl,by decide +kernel,by decide +kernel⟩
def yN:Rho->Option T:=
 f2 (aA 0) (fC (.int 7)) bH
def yM:Rho->Option Out:=
 aH (aO 5 (f2 (aA 4) (aA 1) aY))
  (aH (aO 6 (f2 (f2 (f2 (aA 3) (aA 5) oIx) (fC (.int 31)) bH) (f2 (aA 0) (aA 4) oIx) bM))
  (hZ 3 (aA 5) (f2 (aA 6) (f2 (f2 (fC (.int 10)) (fC (.int 55)) cD) (fC (.int 7)) bM) aY)))
def yO:Rho->Option T:=
 f2 (f2 (f2 (aA 0) (fC (.int 5)) bV) (aA 1) aY) (aA 2) cZ
def uB:Rho->Option Out:=
 aH (dA 3 (cW (bY (aC (aA 1) aE) cI) [none] bI yN))
  (aH (bW 4 (bY (aC (aA 2) (aC (aG (aC (aA 0) aE) cH) aE)) eZ)
  yM)
  (aH (aO 7 (f1 (f2 (fK (aC (fC (.int 1)) (aC (fC (.int 3)) (aC (f2 (fC (.int 10)) (fC (.int 50)) cD) aE)))) (f2 (f2 (aG (aC (aA 0) (aC (fC (.int 0)) aE)) bX) (fC (.int 40)) bV) (fC (.int 3)) aY) oIx) bF))
  (aH (aO 8 (f2 (f2 (fC (.int 2)) (aA 7) bH) (fC (.int 1)) bM))
  (aP (cW (fFL (aA 3)) [none,some 8,some 7] bI yO)))))
def jE:List T->Option T:=Fof 3 6 uB
theorem NQ (t0 t1 t2:T):jE [t0,t1,t2]=(uB [some t0,some t1,some t2,none,none,none,none,none,none]).bind aZ:=rfl
theorem SZ (aHt:Cal P w K mg base "_law_cell" 1 ["script","k"] bX false 3) (aHr:mg "range" = none) (aHs:mg "len" = none) (cdv:Value) (A:Around) (outer:List Env) (s:Shared) (H:Hp) (E:XK)
  (hr:Room 1 (A.deeper (envOfC "_law_prices" (defScope nK) s.heap.objs.size f cdv))):
  GSs (aQ CX0 P w K mg base ["script","hands","start","slots","k","at","mixed_in","most","wide"] "_law_prices" (defScope nK) f cdv A outer s H E).nox H [1,1,1,0,1,1,1,1,1] true 3 (defBody nK) uB:=by
 have hu:=hr.units;unfold uB yO yM yN;exact @aI _ _ _ _ _ _ _ _ _ (@sD _ _ _ _ _ _ _ _ _ _ _ _ _ _ _ _ _ _ _ _ _ _ _ _ _ 3 (dO (by kernel_rfl) (N':=[ "k" ]) (src:=[ none ])) (fN (by kernel_rfl) (fl':=[ 2 ])) (by rfl) (dS (by rfl) (by rfl) aHr (aD (aB 1) aF)) (by rfl) (by rfl) (fun cl C s H ex=>⟨fP,@dH _ _ _ _ _ _ _ _ _ _ _ _ (aB 0) ge_int⟩) pO.nd (by rfl) (Or.inl (by rfl)) (by rfl) (by rfl) (by intro _;rfl) (by trivial)) (@aI _ _ _ _ _ _ _ _ _ (@cA _ _ _ _ _ _ _ _ _ 4 _ _ _ _ _ PassesOwn.never (by rfl) (wU (by rfl) (by rfl) aHr (aD (aB 2) (aD (dC (by rfl) (by rfl) aHs (aD (aB 0) aF)) aF))) pO.nd (by rfl) (Or.inl (by rfl)) (@aI _ _ _ _ _ _ _ _ _ (@aU _ _ _ _ _ _ _ _ _ _ _ _ 5 (@cF _ _ _ _ _ _ _ _ _ _ _ _ (aB 4) (aB 1)) pO.nd (by rfl) (Or.inl (by rfl)) (by rfl) (by rfl) (by trivial)) (@aI _ _ _ _ _ _ _ _ _ (@aU _ _ _ _ _ _ _ _ _ _ _ _ 6 (@bN _ _ _ _ _ _ _ _ _ _ _ _ (@dH _ _ _ _ _ _ _ _ _ _ _ _ (@aW _ _ _ _ _ _ _ _ _ _ _ _ (aB 3) (aB 5) (by exact fun _ _=>rfl)) ge_int) (@aW _ _ _ _ _ _ _ _ _ _ _ _ (aB 0) (aB 4) (by exact fun _ _=>rfl))) pO.nd (by rfl) (Or.inl (by rfl)) (by rfl) (by rfl) (by trivial)) (@aJ _ _ _ _ _ _ _ (@mJ _ _ _ _ _ _ _ _ _ _ _ 3 _ _ _ _ _ _ (@cF _ _ _ _ _ _ _ _ _ _ _ _ (aB 6) (@bN _ _ _ _ _ _ _ _ _ _ _ _ (@gM _ _ _ _ _ _ _ _ _ _ _ _ ge_int ge_int) ge_int)) (aB 5) (by rfl) (by rfl) (by trivial) (by decide) (by decide) (by intro _;rfl) (by rfl) (by rfl) (by rfl))))) (by rfl) (by intro _;rfl) (by trivial)) (@aI _ _ _ _ _ _ _ _ _ (@aU _ _ _ _ _ _ _ _ _ _ _ _ 7 (@GE.sc _ _ _ _ _ _ _ (@aW _ _ _ _ _ _ _ _ _ _ _ _ (@gK _ _ _ _ _ _ _ (aD ge_int (aD ge_int (aD (@gM _ _ _ _ _ _ _ _ _ _ _ _ ge_int ge_int) aF)))) (@cF _ _ _ _ _ _ _ _ _ _ _ _ (@gJ _ _ _ _ _ _ _ _ _ _ _ _ (aR aHt (hr.mono (by decide)) (by rfl) (aD (aB 0) (aD ge_int aF))) ge_int) ge_int) (by exact fun _ _=>rfl))) pO.nd (by rfl) (Or.inr (by rfl)) (by rfl) (by rfl) (by trivial)) (@aI _ _ _ _ _ _ _ _ _ (@aU _ _ _ _ _ _ _ _ _ _ _ _ 8 (@bN _ _ _ _ _ _ _ _ _ _ _ _ (@dH _ _ _ _ _ _ _ _ _ _ _ _ ge_int (aB 7)) ge_int) pO.nd (by rfl) (Or.inr (by rfl)) (by rfl) (by rfl) (by trivial)) (@aJ _ _ _ _ _ _ _ (@aT _ _ _ _ _ _ _ _ (@aX _ _ _ _ _ _ _ _ _ (@rW _ _ _ _ _ _ _ _ _ _ _ _ _ _ _ _ _ _ _ _ (dO (by kernel_rfl) (N':=[ "slot" ,"wide" ,"most" ]) (src:=[ none ,some 8 ,some 7 ])) (fN (by kernel_rfl) (fl':=[ 2 ,1 ,1 ])) (by decide) (by rfl) (eA (aB 3)) (by rfl) (by rfl) (fun cl C s H ex=>⟨fP,@dI _ _ _ _ _ _ _ _ _ _ _ _ (@cF _ _ _ _ _ _ _ _ _ _ _ _ (@gJ _ _ _ _ _ _ _ _ _ _ _ _ (aB 0) ge_int) (aB 1)) (aB 2)⟩) (by intro _;rfl)) (by rfl)))))))
theorem aBb {fd:FuncData}(aHt:Cal P w K mg base "_law_cell" 1 ["script","k"] bX false 3) (aHr:mg "range" = none) (aHs:mg "len" = none) (Fu:Fun K "_law_prices" "_law_prices" nK f fd):
  FnOk P w K mg base CX0 2 f fd ["script","hands","start"] (spT K jE true 3):=
 gfn Fu pO rfl (by decide) (fun ts t h=>bB h) (fun cdv A outer s H E hr=>@SZ _ _ _ _ _ _ aHt aHr aHs cdv A outer s H E hr) (fun ts t h=>bC h)
abbrev nY:Stmt:=top 13
theorem aF5:FnScope ["table"] ["table"] (defScope nY):=⟨rfl,rfl,rfl,by decide +kernel,rfl,by decide +kernel,by decide +kernel⟩
def qX:Rho->Option Out:=
 aP (f2 (aG (aC (aA 0) aE) cH) (fC (.int 1)) cZ)
def fI:List T->Option T:=Fof 1 0 qX
theorem DM (t0:T):fI [t0]=(qX [some t0]).bind aZ:=rfl
theorem TV (aHs:mg "len" = none) (cdv:Value) (A:Around) (outer:List Env) (s:Shared) (H:Hp) (E:XK)
  (hr:Room 0 (A.deeper (envOfC "everybody" (defScope nY) s.heap.objs.size f cdv))):
  GSs (aQ CX0 P w K mg base ["table"] "everybody" (defScope nY) f cdv A outer s H E).nox H [1] false 3 (defBody nY) qX:=by
 have hu:=hr.units;unfold qX;exact @aJ _ _ _ _ _ _ _ (@aT _ _ _ _ _ _ _ _ (@aX _ _ _ _ _ _ _ _ _ (@dI _ _ _ _ _ _ _ _ _ _ _ _ (dC (by rfl) (by rfl) aHs (aD (aB 0) aF)) ge_int) (by rfl)))
theorem aBo {fd:FuncData}(aHs:mg "len" = none) (Fu:Fun K "everybody" "everybody" nY f fd):
  FnOk P w K mg base CX0 1 f fd ["table"] (spT K fI false 3):=
 gfn Fu aF5 rfl (by decide) (fun ts t h=>bB h) (fun cdv A outer s H E hr=>@TV _ _ _ _ _ _ aHs cdv A outer s H E hr) (fun ts t h=>bC h)
abbrev pC:Stmt:=top 9
theorem aF8:FnScope ["group"] ["group"] (defScope pC):=⟨rfl,rfl,rfl,by decide +kernel,rfl,by decide +kernel,by decide +kernel⟩
def LJ:Rho->Option Bool:=
 fT (f2 (f2 (aA 1) (aA 0) jR) (fC (.int 1)) jP)
def LI:Rho->Option T:=
 f1 (aA 0) bF
def CV:Rho->Option Out:=
 aP (cW (bY (aC (f1 (aA 0) xK) aE) cI) [none,some 0] LJ LI)
def gE:List T->Option T:=Fof 1 0 CV
theorem TZ (aHr:mg "range" = none) (cdv:Value) (A:Around) (outer:List Env) (s:Shared) (H:Hp) (E:XK)
  (hr:Room 0 (A.deeper (envOfC "hands_in" (defScope pC) s.heap.objs.size f cdv))):
  GSs (aQ CX0 P w K mg base ["group"] "hands_in" (defScope pC) f cdv A outer s H E).nox H [1] true 3 (defBody pC) CV:=by
 have hu:=hr.units;unfold CV LI LJ;exact @aJ _ _ _ _ _ _ _ (@aT _ _ _ _ _ _ _ _ (@aX _ _ _ _ _ _ _ _ _ (@rW _ _ _ _ _ _ _ _ _ _ _ _ _ _ _ _ _ _ _ _ (dO (by kernel_rfl) (N':=[ "hand" ,"group" ]) (src:=[ none ,some 0 ])) (fN (by kernel_rfl) (fl':=[ 2 ,1 ])) (by decide) (by rfl) (dS (by rfl) (by rfl) aHr (aD (@FT _ _ _ _ _ _ _ _ _ (aB 0) (by rfl) (by rfl)) aF)) (by rfl) (by rfl) (fun cl C s H ex=>⟨@wV _ _ _ _ _ (@eU _ _ _ _ _ _ _ (@qD _ _ _ _ _ _ _ _ _ _ _ _ (@wS _ _ _ _ _ _ _ _ _ _ _ _ (aB 1) (aB 0)) ge_int) (by intro _;rfl)),@GE.sc _ _ _ _ _ _ _ (aB 0)⟩) (by intro _;rfl)) (by rfl)))
theorem aBs {fd:FuncData}(aHr:mg "range" = none) (Fu:Fun K "hands_in" "hands_in" pC f fd):
  FnOk P w K mg base CX0 1 f fd ["group"] (spT K gE true 3):=
 gfn Fu aF8 rfl (by decide) (fun ts t h=>bB h) (fun cdv A outer s H E hr=>@TZ _ _ _ _ _ _ aHr cdv A outer s H E hr) (fun ts t h=>bC h)
abbrev pL:Stmt:=top 17
theorem aFe:FnScope ["table","one","other"] ["table","one","other"] (defScope pL):=⟨rfl,rfl,rfl,by decide +kernel,rfl,by decide +kernel,by decide +kernel⟩
def vJ:Rho->Option Out:=
 aP (f2 (f2 (f2 (aA 0) (aA 1) oIx) (f2 (aA 0) (aA 2) oIx) bM) (f2 (f2 (aA 0) (f2 (aA 1) (aA 2) oOr) oIx) (f2 (aA 0) (f2 (aA 1) (aA 2) jP) oIx) bM) oLt)
def kX:List T->Option T:=Fof 3 0 vJ
theorem PY (t0 t1 t2:T):kX [t0,t1,t2]=(vJ [some t0,some t1,some t2]).bind aZ:=rfl
theorem UK (cdv:Value) (A:Around) (outer:List Env) (s:Shared) (H:Hp) (E:XK)
  (hr:Room 0 (A.deeper (envOfC "two_break" (defScope pL) s.heap.objs.size f cdv))):
  GSs (aQ CX0 P w K mg base ["table","one","other"] "two_break" (defScope pL) f cdv A outer s H E).nox H [1,1,1] false 3 (defBody pL) vJ:=by
 have hu:=hr.units;unfold vJ;exact @aJ _ _ _ _ _ _ _ (@aT _ _ _ _ _ _ _ _ (@aX _ _ _ _ _ _ _ _ _ (@VS _ _ _ _ _ _ _ _ _ _ _ _ (@bN _ _ _ _ _ _ _ _ _ _ _ _ (@aW _ _ _ _ _ _ _ _ _ _ _ _ (aB 0) (aB 1) (by exact fun _ _=>rfl)) (@aW _ _ _ _ _ _ _ _ _ _ _ _ (aB 0) (aB 2) (by exact fun _ _=>rfl))) (@bN _ _ _ _ _ _ _ _ _ _ _ _ (@aW _ _ _ _ _ _ _ _ _ _ _ _ (aB 0) (@rY _ _ _ _ _ _ _ _ _ _ _ _ (aB 1) (aB 2)) (by exact fun _ _=>rfl)) (@aW _ _ _ _ _ _ _ _ _ _ _ _ (aB 0) (@qD _ _ _ _ _ _ _ _ _ _ _ _ (aB 1) (aB 2)) (by exact fun _ _=>rfl)))) (by rfl)))
theorem aC3 {fd:FuncData}(Fu:Fun K "two_break" "two_break" pL f fd):
  FnOk P w K mg base CX0 1 f fd ["table","one","other"] (spT K kX false 3):=
 gfn Fu aFe rfl (by decide) (fun ts t h=>bB h) (fun cdv A outer s H E hr=>@UK _ _ _ _ _ _  cdv A outer s H E hr) (fun ts t h=>bC h)
abbrev nU:Stmt:=top 18
theorem vQ:FnScope ["table","group","outside","place","first","second"] ["table","group"] (defScope nU):=⟨rfl,rfl,rfl,by decide +kernel,rfl,by decide +kernel,by decide +kernel⟩
def qW:Rho->Option Out:=
 rIf (fT (aG (aC (aA 0) (aC (f2 (aA 1) (f2 (fC (.int 1)) (aA 4) cJ) oOr) (aC (f2 (aA 1) (f2 (fC (.int 1)) (aA 5) cJ) oOr) aE))) kX)) (aP (qC (aC (f1 (aA 1) bF) (aC (f1 (aA 4) bF) (aC (f1 (aA 5) bF) aE))))) bO
def uQ:Rho->Option Out:=
 bW 5 (fFL (wH (aA 2) (sP (f2 (aA 3) (fC (.int 1)) bM)) qQ qQ))
  qW
def uP:Rho->Option Out:=
 aH (aO 2 (aG (aC (f2 (aG (aC (aA 0) aE) fI) (aA 1) BW) aE) gE))
  (aH (yB [3,4] (mE (fFL (aA 2)))
  uQ)
  (aP (fC .non)))
def kN:List T->Option T:=Fof 2 4 uP
theorem OC (t0 t1:T):kN [t0,t1]=(uP [some t0,some t1,none,none,none,none]).bind aZ:=rfl
theorem TQ (aI4:Cal P w K mg base "everybody" 1 ["table"] fI false 3) (aI7:Cal P w K mg base "hands_in" 1 ["group"] gE true 3) (aIx:Cal P w K mg base "two_break" 1 ["table","one","other"] kX false 3) (aHw:mg "enumerate" = none) (cdv:Value) (A:Around) (outer:List Env) (s:Shared) (H:Hp) (E:XK)
  (hr:Room 1 (A.deeper (envOfC "break_beside" (defScope nU) s.heap.objs.size f cdv))):
  GSs (aQ CX0 P w K mg base ["table","group","outside","place","first","second"] "break_beside" (defScope nU) f cdv A outer s H E).nox H [1,1,1,1,1,1] false 3 (defBody nU) uP:=by
 have hu:=hr.units;unfold uP uQ qW;exact @aI _ _ _ _ _ _ _ _ _ (@aU _ _ _ _ _ _ _ _ _ _ _ _ 2 (aR aI7 (hr.mono (by decide)) (by rfl) (aD (@WA _ _ _ _ _ _ _ _ _ _ _ _ (aR aI4 (hr.mono (by decide)) (by rfl) (aD (aB 0) aF)) (aB 1)) aF)) vQ.nd (by rfl) (Or.inl (by rfl)) (by rfl) (by rfl) (by trivial)) (@aI _ _ _ _ _ _ _ _ _ (@GP _ _ _ _ _ _ _ _ _ _ _ [3 ,4] _ _ _ _ _ PassesOwn.never (by rfl) (@AZ _ _ _ _ _ _ _ _ _ _ _ _ _ (by rfl) (by rfl) aHw (aB 2) (by rfl)) (@eS _ _ _ _ _ _ vQ.nd (by rfl) (Or.inl (by rfl)) (@eS _ _ _ _ _ _ vQ.nd (by rfl) (Or.inl (by rfl)) (@qE _) (by trivial) (by rfl)) (by trivial) (by rfl)) (@aJ _ _ _ _ _ _ _ (@cA _ _ _ _ _ _ _ _ _ 5 _ _ _ _ _ PassesOwn.never (by rfl) (eA (@FV _ _ _ _ _ _ _ _ _ _ _ _ _ _ _ (aB 2) (@GF _ _ _ _ _ _ _ (@bN _ _ _ _ _ _ _ _ _ _ _ _ (aB 3) ge_int)) wW wW (by intro _ _;first | exact⟨_,rfl⟩ | (refine⟨_,?_⟩;with_unfolding_all rfl)))) vQ.nd (by rfl) (Or.inl (by rfl)) (@aJ _ _ _ _ _ _ _ (@bS _ _ _ _ _ _ _ _ _ _ _ _ (@eU _ _ _ _ _ _ _ (aR aIx (hr.mono (by decide)) (by rfl) (aD (aB 0) (aD (@rY _ _ _ _ _ _ _ _ _ _ _ _ (aB 1) (@dR _ _ _ _ _ _ _ _ _ _ _ _ ge_int (aB 4))) (aD (@rY _ _ _ _ _ _ _ _ _ _ _ _ (aB 1) (@dR _ _ _ _ _ _ _ _ _ _ _ _ ge_int (aB 5))) aF)))) (by intro _;rfl)) (@aJ _ _ _ _ _ _ _ (@aT _ _ _ _ _ _ _ _ (@GL _ _ _ _ _ _ _ _ _ (@sC _ _ _ _ _ _ _ _ (@aX _ _ _ _ _ _ _ _ _ (@GE.sc _ _ _ _ _ _ _ (aB 1)) (by rfl)) (@sC _ _ _ _ _ _ _ _ (@aX _ _ _ _ _ _ _ _ _ (@GE.sc _ _ _ _ _ _ _ (aB 4)) (by rfl)) (@sC _ _ _ _ _ _ _ _ (@aX _ _ _ _ _ _ _ _ _ (@GE.sc _ _ _ _ _ _ _ (aB 5)) (by rfl)) GM (by rfl) (by rfl)) (by rfl) (by rfl)) (by rfl) (by rfl)) (by rfl)))) bU)) (by rfl) (by intro _;rfl) (by trivial))) (by rfl) (by rfl) (by rfl) (by rfl) (by rfl) (by intro _;rfl)) (@aJ _ _ _ _ _ _ _ (@aT _ _ _ _ _ _ _ _ (@aX _ _ _ _ _ _ _ _ _ wR (by rfl)))))
theorem aBl {fd:FuncData}(aI4:Cal P w K mg base "everybody" 1 ["table"] fI false 3) (aI7:Cal P w K mg base "hands_in" 1 ["group"] gE true 3) (aIx:Cal P w K mg base "two_break" 1 ["table","one","other"] kX false 3) (aHw:mg "enumerate" = none) (Fu:Fun K "break_beside" "break_beside" nU f fd):
  FnOk P w K mg base CX0 2 f fd ["table","group"] (spT K kN false 3):=
 gfn Fu vQ rfl (by decide) (fun ts t h=>bB h) (fun cdv A outer s H E hr=>@TQ _ _ _ _ _ _ aI4 aI7 aIx aHw cdv A outer s H E hr) (fun ts t h=>bC h)
abbrev nV:Stmt:=top 19
theorem CY:FnScope ["table","group","found"] ["table"] (defScope nV):=⟨rfl,rfl,rfl,by decide +kernel,rfl,by decide +kernel,by decide +kernel⟩
def yT:Rho->Option Out:=
 aH (aO 2 (f1 (aG (aC (aA 0) (aC (aA 1) aE)) kN) bF))
  (rIf (fB (f2 (aA 2) (fC .non) xO)) (aP (f1 (aA 2) bF)) bO)
def uR:Rho->Option Out:=
 aH (bW 1 (bY (aC (aG (aC (aA 0) aE) cH) aE) cI)
  yT)
  (aP (fC .non))
def kO:List T->Option T:=Fof 1 2 uR
theorem OD (t0:T):kO [t0]=(uR [some t0,none,none]).bind aZ:=rfl
theorem TR (aIb:Cal P w K mg base "break_beside" 2 ["table","group"] kN false 3) (aHs:mg "len" = none) (aHr:mg "range" = none) (cdv:Value) (A:Around) (outer:List Env) (s:Shared) (H:Hp) (E:XK)
  (hr:Room 2 (A.deeper (envOfC "break_of" (defScope nV) s.heap.objs.size f cdv))):
  GSs (aQ CX0 P w K mg base ["table","group","found"] "break_of" (defScope nV) f cdv A outer s H E).nox H [1,1,1] false 3 (defBody nV) uR:=by
 have hu:=hr.units;unfold uR yT;exact @aI _ _ _ _ _ _ _ _ _ (@cA _ _ _ _ _ _ _ _ _ 1 _ _ _ _ _ PassesOwn.never (by rfl) (dS (by rfl) (by rfl) aHr (aD (dC (by rfl) (by rfl) aHs (aD (aB 0) aF)) aF)) CY.nd (by rfl) (Or.inl (by rfl)) (@aI _ _ _ _ _ _ _ _ _ (@aU _ _ _ _ _ _ _ _ _ _ _ _ 2 (@GE.sc _ _ _ _ _ _ _ (aR aIb (hr.mono (by decide)) (by rfl) (aD (aB 0) (aD (aB 1) aF)))) CY.nd (by rfl) (Or.inl (by rfl)) (by rfl) (by rfl) (by trivial)) (@aJ _ _ _ _ _ _ _ (@bS _ _ _ _ _ _ _ _ _ _ _ _ (@WZ _ _ _ _ _ _ _ _ _ _ _ _ (aB 2) wR) (@aJ _ _ _ _ _ _ _ (@aT _ _ _ _ _ _ _ _ (@aX _ _ _ _ _ _ _ _ _ (@GE.sc _ _ _ _ _ _ _ (aB 2)) (by rfl)))) bU))) (by rfl) (by intro _;rfl) (by trivial)) (@aJ _ _ _ _ _ _ _ (@aT _ _ _ _ _ _ _ _ (@aX _ _ _ _ _ _ _ _ _ wR (by rfl))))
theorem aBm {fd:FuncData}(aIb:Cal P w K mg base "break_beside" 2 ["table","group"] kN false 3) (aHs:mg "len" = none) (aHr:mg "range" = none) (Fu:Fun K "break_of" "break_of" nV f fd):
  FnOk P w K mg base CX0 3 f fd ["table"] (spT K kO false 3):=
 gfn Fu CY rfl (by decide) (fun ts t h=>bB h) (fun cdv A outer s H E hr=>@TR _ _ _ _ _ _ aIb aHs aHr cdv A outer s H E hr) (fun ts t h=>bC h)
abbrev nZ:Stmt:=top 20
theorem aF6:FnScope ["table"] ["table"] (defScope nZ):=⟨rfl,rfl,rfl,by decide +kernel,rfl,by decide +kernel,by decide +kernel⟩
def uT:Rho->Option Out:=
 aP (f2 (aG (aC (aA 0) aE) kO) (fC .non) oIs)
def eO:List T->Option T:=Fof 1 0 uT
theorem OK (t0:T):eO [t0]=(uT [some t0]).bind aZ:=rfl
theorem TW (aJ4:Cal P w K mg base "break_of" 3 ["table"] kO false 3) (cdv:Value) (A:Around) (outer:List Env) (s:Shared) (H:Hp) (E:XK)
  (hr:Room 3 (A.deeper (envOfC "falls" (defScope nZ) s.heap.objs.size f cdv))):
  GSs (aQ CX0 P w K mg base ["table"] "falls" (defScope nZ) f cdv A outer s H E).nox H [1] false 3 (defBody nZ) uT:=by
 have hu:=hr.units;unfold uT;exact @aJ _ _ _ _ _ _ _ (@aT _ _ _ _ _ _ _ _ (@aX _ _ _ _ _ _ _ _ _ (@VQ _ _ _ _ _ _ _ _ _ _ _ _ (aR aJ4 (hr.mono (by decide)) (by rfl) (aD (aB 0) aF)) wR) (by rfl)))
theorem aBp {fd:FuncData}(aJ4:Cal P w K mg base "break_of" 3 ["table"] kO false 3) (Fu:Fun K "falls" "falls" nZ f fd):
  FnOk P w K mg base CX0 4 f fd ["table"] (spT K eO false 3):=
 gfn Fu aF6 rfl (by decide) (fun ts t h=>bB h) (fun cdv A outer s H E hr=>@TW _ _ _ _ _ _ aJ4 cdv A outer s H E hr) (fun ts t h=>bC h)
abbrev fY:Stmt:=top 21
theorem LQ:FnScope ["table"] ["table"] (defScope fY):=⟨rfl,rfl,rfl,by decide +kernel,rfl,by decide +kernel,by decide +kernel⟩
def vD:Rho->Option Out:=
 rIf (gQ (fT (aG (aC (aA 0) aE) eO))) yC bO
def kT:List T->Option T:=Fof 1 0 vD
theorem PJ (t0:T):kT [t0]=(vD [some t0]).bind aZ:=rfl
theorem UF (aIh:Cal P w K mg base "falls" 4 ["table"] eO false 3) (cdv:Value) (A:Around) (outer:List Env) (s:Shared) (H:Hp) (E:XK)
  (hr:Room 4 (A.deeper (envOfC "must_fall" (defScope fY) s.heap.objs.size f cdv))):
  GSs (aQ CX0 P w K mg base ["table"] "must_fall" (defScope fY) f cdv A outer s H E).nox H [1] false 3 (defBody fY) vD:=by
 have hu:=hr.units;unfold vD;exact @aJ _ _ _ _ _ _ _ (@bS _ _ _ _ _ _ _ _ _ _ _ _ (@mO _ _ _ _ _ _ (@eU _ _ _ _ _ _ _ (aR aIh (hr.mono (by decide)) (by rfl) (aD (aB 0) aF)) (by intro _;rfl))) (@aJ _ _ _ _ _ _ _ GQ) bU)
theorem aBy {fd:FuncData}(aIh:Cal P w K mg base "falls" 4 ["table"] eO false 3) (Fu:Fun K "must_fall" "must_fall" fY f fd):
  FnOk P w K mg base CX0 5 f fd ["table"] (spT K kT false 3):=
 gfn Fu LQ rfl (by decide) (fun ts t h=>bB h) (fun cdv A outer s H E hr=>@UF _ _ _ _ _ _ aIh cdv A outer s H E hr) (fun ts t h=>bC h)
abbrev pJ:Stmt:=top 29
theorem aFc:FnScope ["prices"] ["prices"] (defScope pJ):=⟨rfl,rfl,rfl,by decide +kernel,rfl,by decide +kernel,by decide +kernel⟩
def vH:Rho->Option Out:=
 aP (fSK (aC (aG (aC (aA 0) aE) cH) aE) 0 eE)
def gF:List T->Option T:=Fof 1 0 vH
theorem PP (t0:T):gF [t0]=(vH [some t0]).bind aZ:=rfl
theorem UI (LK:LamK K mg cq Pt bm) (aHs:mg "len" = none) (aI8:mg "sorted" = none) (aHr:mg "range" = none) (A:Around) (outer:List Env) (s:Shared) (H:Hp) (E:XK) (hP:H Pt=some bQ)
  (hr:Room 0 (A.deeper (envOfC "price_order" (defScope pJ) s.heap.objs.size f (.ref cq)))):
  GSs (aQ CX0 P w K mg base ["prices"] "price_order" (defScope pJ) f (.ref cq) A outer s H E).nox H [1] true 3 (defBody pJ) vH:=by
 have hu:=hr.units;unfold vH;exact @aJ _ _ _ _ _ _ _ (@aT _ _ _ _ _ _ _ _ (@aX _ _ _ _ _ _ _ _ _ (VX (by rfl) (by rfl) (by rfl) hP (by rfl) hr LK (by rfl) (by rfl) (by rfl) (by decide) (by trivial) (RB (by decide) (by decide) (by decide)) (by decide) (by intros;rfl) (by rfl) aI8 (by rfl) aHr (aD (dC (by rfl) (by rfl) aHs (aD (aB 0) aF)) aF)) (by rfl)))
theorem aC1 {fd:FuncData}(LK:LamK K mg cq Pt bm) (aHs:mg "len" = none) (aI8:mg "sorted" = none) (aHr:mg "range" = none) (Fu:FunC K "price_order" "price_order" pJ f fd cq):
  FnOk P w K mg base CX0 1 f fd ["prices"] (spP Pt bQ (spT K gF true 3)):=
 WB Fu aFc rfl (by decide) (fun ts t h=>bB h) (fun A outer s H E hP hr=>UI LK aHs aI8 aHr A outer s H E hP hr) (fun ts t h=>bC h)
abbrev pB:Stmt:=top 12
theorem aF7:FnScope ["table"] ["table"] (defScope pB):=⟨rfl,rfl,rfl,by decide +kernel,rfl,by decide +kernel,by decide +kernel⟩
def uW:Rho->Option Out:=
 aP (f2 (f1 (aG (aC (aA 0) aE) cH) xK) (fC (.int 1)) cZ)
def gD:List T->Option T:=Fof 1 0 uW
theorem ON (t0:T):gD [t0]=(uW [some t0]).bind aZ:=rfl
theorem TY (aHs:mg "len" = none) (cdv:Value) (A:Around) (outer:List Env) (s:Shared) (H:Hp) (E:XK)
  (hr:Room 0 (A.deeper (envOfC "hand_count" (defScope pB) s.heap.objs.size f cdv))):
  GSs (aQ CX0 P w K mg base ["table"] "hand_count" (defScope pB) f cdv A outer s H E).nox H [1] false 3 (defBody pB) uW:=by
 have hu:=hr.units;unfold uW;exact @aJ _ _ _ _ _ _ _ (@aT _ _ _ _ _ _ _ _ (@aX _ _ _ _ _ _ _ _ _ (@dI _ _ _ _ _ _ _ _ _ _ _ _ (@FT _ _ _ _ _ _ _ _ _ (dC (by rfl) (by rfl) aHs (aD (aB 0) aF)) (by rfl) (by rfl)) ge_int) (by rfl)))
theorem aBr {fd:FuncData}(aHs:mg "len" = none) (Fu:Fun K "hand_count" "hand_count" pB f fd):
  FnOk P w K mg base CX0 1 f fd ["table"] (spT K gD false 3):=
 gfn Fu aF7 rfl (by decide) (fun ts t h=>bB h) (fun cdv A outer s H E hr=>@TY _ _ _ _ _ _ aHs cdv A outer s H E hr) (fun ts t h=>bC h)
abbrev nX:Stmt:=top 27
theorem rB:FnScope ["table","order","shares","ahead","hand","joined"] ["table","order"] (defScope nX):=⟨rfl,rfl,rfl,by decide +kernel,rfl,by decide +kernel,by decide +kernel⟩
def yU:Rho->Option Out:=
 aH (aO 5 (f2 (aA 3) (f2 (fC (.int 1)) (aA 4) cJ) oOr))
  (aH (hZ 2 (aA 4) (f2 (f2 (aA 0) (aA 5) oIx) (f2 (aA 0) (aA 3) oIx) cZ))
  (aO 3 (f1 (aA 5) bF)))
def uS:Rho->Option Out:=
 aH (dA 2 (f2 (fC (.lst (tI [0]))) (aG (aC (aA 0) aE) gD) xT))
  (aH (aO 3 (fC (.int 0)))
  (aH (bW 4 (fFL (aA 1))
  yU)
  (aP (fM 2))))
def gC:List T->Option T:=Fof 2 4 uS
theorem OF (t0 t1:T):gC [t0,t1]=(uS [some t0,some t1,none,none,none,none]).bind aZ:=rfl
theorem TU (aI3:Cal P w K mg base "hand_count" 1 ["table"] gD false 3) (cdv:Value) (A:Around) (outer:List Env) (s:Shared) (H:Hp) (E:XK)
  (hr:Room 1 (A.deeper (envOfC "by_order" (defScope nX) s.heap.objs.size f cdv))):
  GSs (aQ CX0 P w K mg base ["table","order","shares","ahead","hand","joined"] "by_order" (defScope nX) f cdv A outer s H E).nox H [1,1,0,1,1,1] true 3 (defBody nX) uS:=by
 have hu:=hr.units;unfold uS yU;exact @aI _ _ _ _ _ _ _ _ _ (@gZ _ _ _ _ _ _ _ _ _ _ _ 2 (@VW _ _ _ _ _ _ _ _ _ _ _ (@wO _ _ _ _ _ ([ 0 ]) (by rfl) (by decide +kernel)) (aR aI3 (hr.mono (by decide)) (by rfl) (aD (aB 0) aF))) rB.nd (by rfl) (Or.inl (by rfl)) (by rfl) (by rfl) (by trivial)) (@aI _ _ _ _ _ _ _ _ _ (@aU _ _ _ _ _ _ _ _ _ _ _ _ 3 ge_int rB.nd (by rfl) (Or.inl (by rfl)) (by rfl) (by rfl) (by trivial)) (@aI _ _ _ _ _ _ _ _ _ (@cA _ _ _ _ _ _ _ _ _ 4 _ _ _ _ _ PassesOwn.never (by rfl) (eA (aB 1)) rB.nd (by rfl) (Or.inl (by rfl)) (@aI _ _ _ _ _ _ _ _ _ (@aU _ _ _ _ _ _ _ _ _ _ _ _ 5 (@rY _ _ _ _ _ _ _ _ _ _ _ _ (aB 3) (@dR _ _ _ _ _ _ _ _ _ _ _ _ ge_int (aB 4))) rB.nd (by rfl) (Or.inl (by rfl)) (by rfl) (by rfl) (by trivial)) (@aI _ _ _ _ _ _ _ _ _ (@mJ _ _ _ _ _ _ _ _ _ _ _ 2 _ _ _ _ _ _ (@dI _ _ _ _ _ _ _ _ _ _ _ _ (@aW _ _ _ _ _ _ _ _ _ _ _ _ (aB 0) (aB 5) (by exact fun _ _=>rfl)) (@aW _ _ _ _ _ _ _ _ _ _ _ _ (aB 0) (aB 3) (by exact fun _ _=>rfl))) (aB 4) (by rfl) (by rfl) (by trivial) (by decide) (by decide) (by intro _;rfl) (by rfl) (by rfl) (by rfl)) (@aJ _ _ _ _ _ _ _ (@aU _ _ _ _ _ _ _ _ _ _ _ _ 3 (@GE.sc _ _ _ _ _ _ _ (aB 5)) rB.nd (by rfl) (Or.inl (by rfl)) (by rfl) (by rfl) (by trivial))))) (by rfl) (by intro _;rfl) (by trivial)) (@aJ _ _ _ _ _ _ _ (@aT _ _ _ _ _ _ _ _ (@jL _ _ _ _ _ _ _ 2 (by rfl) (by trivial) (by rfl) (by decide) (by decide))))))
theorem aBn {fd:FuncData}(aI3:Cal P w K mg base "hand_count" 1 ["table"] gD false 3) (Fu:Fun K "by_order" "by_order" nX f fd):
  FnOk P w K mg base CX0 2 f fd ["table","order"] (spT K gC true 3):=
 gfn Fu rB rfl (by decide) (fun ts t h=>bB h) (fun cdv A outer s H E hr=>@TU _ _ _ _ _ _ aI3 cdv A outer s H E hr) (fun ts t h=>bC h)
abbrev fX:Stmt:=top 32
theorem LO:FnScope ["table","prices"] ["table","prices"] (defScope fX):=⟨rfl,rfl,rfl,by decide +kernel,rfl,by decide +kernel,by decide +kernel⟩
def uO:Rho->Option Out:=
 aH (xZ (aG (aC (aA 0) aE) kT))
  (aP (aG (aC (aA 0) (aC (aG (aC (aA 1) aE) gF) aE)) gC))
def kM:List T->Option T:=Fof 2 0 uO
theorem OB (t0 t1:T):kM [t0,t1]=(uO [some t0,some t1]).bind aZ:=rfl
theorem TN (aIw:Cal P w K mg base "must_fall" 5 ["table"] kT false 3) (aHy:CalP P w K mg base Pt bQ "price_order" 1 ["prices"] gF true 3) (aI6:Cal P w K mg base "by_order" 2 ["table","order"] gC true 3) (cdv:Value) (A:Around) (outer:List Env) (s:Shared) (H:Hp) (E:XK) (hP:H Pt=some bQ)
  (hr:Room 5 (A.deeper (envOfC "best_base" (defScope fX) s.heap.objs.size f cdv))):
  GSs (aQ CX0 P w K mg base ["table","prices"] "best_base" (defScope fX) f cdv A outer s H E).nox H [1,1] true 3 (defBody fX) uO:=by
 have hu:=hr.units;unfold uO;exact @aI _ _ _ _ _ _ _ _ _ (@WO _ _ _ _ _ _ _ _ _ _ (aR aIw (hr.mono (by decide)) (by rfl) (aD (aB 0) aF)) (by rfl)) (@aJ _ _ _ _ _ _ _ (@aT _ _ _ _ _ _ _ _ (@aX _ _ _ _ _ _ _ _ _ (aR aI6 (hr.mono (by decide)) (by rfl) (aD (aB 0) (aD (wM aHy hP (hr.mono (by decide)) (by rfl) (aD (aB 1) aF)) aF))) (by rfl))))
theorem aBk {fd:FuncData}(aIw:Cal P w K mg base "must_fall" 5 ["table"] kT false 3) (aHy:CalP P w K mg base Pt bQ "price_order" 1 ["prices"] gF true 3) (aI6:Cal P w K mg base "by_order" 2 ["table","order"] gC true 3) (Fu:Fun K "best_base" "best_base" fX f fd):
  FnOk P w K mg base CX0 6 f fd ["table","prices"] (spP Pt bQ (spT K kM true 3)):=
 AY Fu LO rfl (by decide) (fun ts t h=>bB h) (fun cdv A outer s H E hP hr=>TN aIw aHy aI6 cdv A outer s H E hP hr) (fun ts t h=>bC h)
abbrev nQ:Stmt:=top 36
theorem aF4:FnScope ["found"] ["found"] (defScope nQ):=⟨rfl,rfl,rfl,by decide +kernel,rfl,by decide +kernel,by decide +kernel⟩
def CU:Rho->Option Out:=
 aP (f1 (vT (f1 (aA 0) (qO "int")) (zI (f1 (aA 0) (qO "bool")))) bF)
def gB:List T->Option T:=Fof 1 0 CU
theorem TJ (aHu:mg "isinstance" = none) (aJb:mg "int" = none) (aJm:mg "bool" = none) (cdv:Value) (A:Around) (outer:List Env) (s:Shared) (H:Hp) (E:XK)
  (hr:Room 0 (A.deeper (envOfC "_law_whole" (defScope nQ) s.heap.objs.size f cdv))):
  GSs (aQ CX0 P w K mg base ["found"] "_law_whole" (defScope nQ) f cdv A outer s H E).nox H [1] false 3 (defBody nQ) CU:=by
 have hu:=hr.units;unfold CU;exact @aJ _ _ _ _ _ _ _ (@aT _ _ _ _ _ _ _ _ (@aX _ _ _ _ _ _ _ _ _ (@GE.sc _ _ _ _ _ _ _ (@AV _ _ _ _ _ _ _ _ _ _ _ _ _ (@AW _ _ _ _ _ _ _ _ _ _ _ _ _ (by rfl) XZ (by rfl) aHu (by rfl) aJb PyProof.Rows.boot_int (aB 0) (by decide) (by decide) (by rfl) (by rfl) (by rfl)) (@AX _ _ _ _ _ _ _ _ _ (@VV _ _ _ _ _ _ _ _ (@AW _ _ _ _ _ _ _ _ _ _ _ _ _ (by rfl) XY (by rfl) aHu (by rfl) aJm PyProof.Rows.boot_bool (aB 0) (by decide) (by decide) (by rfl) (by rfl) (by rfl)))))) (by rfl)))
theorem aBh {fd:FuncData}(aHu:mg "isinstance" = none) (aJb:mg "int" = none) (aJm:mg "bool" = none) (Fu:Fun K "_law_whole" "_law_whole" nQ f fd):
  FnOk P w K mg base CX0 1 f fd ["found"] (spT K gB false 3):=
 gfn Fu aF4 rfl (by decide) (fun ts t h=>bB h) (fun cdv A outer s H E hr=>@TJ _ _ _ _ _ _ aHu aJb aJm cdv A outer s H E hr) (fun ts t h=>bC h)
abbrev nL:Stmt:=top 48
theorem aF3:FnScope ["found","hands"] ["found","hands"] (defScope nL):=⟨rfl,rfl,rfl,by decide +kernel,rfl,by decide +kernel,by decide +kernel⟩
def uD:Rho->Option T:=
 f1 (aG (aC (aA 0) aE) gB) bF
def uC:Rho->Option Out:=
 aH (rIf (pOr (gQ (fT (f1 (aA 0) (qO "list")))) (fB (f2 (aG (aC (aA 0) aE) cH) (aA 1) oNe))) (aP (fC (.bl false))) bO)
  (aP (aG (aC (cW (fFL (aA 0)) [none] bI uD) aE) sL))
def kG:List T->Option T:=Fof 2 0 uC
theorem NR (t0 t1:T):kG [t0,t1]=(uC [some t0,some t1]).bind aZ:=rfl
theorem TB (aI2:Cal P w K mg base "_law_whole" 1 ["found"] gB false 3) (aHu:mg "isinstance" = none) (aI5:mg "list" = none) (aHs:mg "len" = none) (aJa:mg "all" = none) (cdv:Value) (A:Around) (outer:List Env) (s:Shared) (H:Hp) (E:XK)
  (hr:Room 1 (A.deeper (envOfC "_law_row" (defScope nL) s.heap.objs.size f cdv))):
  GSs (aQ CX0 P w K mg base ["found","hands"] "_law_row" (defScope nL) f cdv A outer s H E).nox H [1,1] false 3 (defBody nL) uC:=by
 have hu:=hr.units;unfold uC uD;exact @aI _ _ _ _ _ _ _ _ _ (@bS _ _ _ _ _ _ _ _ _ _ _ _ (@GW.gt _ _ _ _ _ (@xB _ _ _ _ _ _ _ _ _ (@mO _ _ _ _ _ _ (@eU _ _ _ _ _ _ _ (@AW _ _ _ _ _ _ _ _ _ _ _ _ _ (by rfl) YA (by rfl) aHu (by rfl) aI5 PyProof.Rows.boot_list (aB 0) (by decide) (by decide) (by rfl) (by rfl) (by rfl)) (by intro _;rfl))) (@xC _ _ _ _ _ _ (@mL _ _ _ _ _ _ _ _ _ _ _ _ hu (dC (by rfl) (by rfl) aHs (aD (aB 0) aF)) (aB 1))))) (@aJ _ _ _ _ _ _ _ (@aT _ _ _ _ _ _ _ _ (@aX _ _ _ _ _ _ _ _ _ eF (by rfl)))) bU) (@aJ _ _ _ _ _ _ _ (@aT _ _ _ _ _ _ _ _ (@aX _ _ _ _ _ _ _ _ _ (FS (by rfl) (by rfl) (by rfl) aJa (aD (@rW _ _ _ _ _ _ _ _ _ _ _ _ _ _ _ _ _ _ _ _ (dO (by kernel_rfl) (N':=[ "number" ]) (src:=[ none ])) (fN (by kernel_rfl) (fl':=[ 2 ])) (by decide) (by rfl) (eA (aB 0)) (by rfl) (by rfl) (fun cl C s H ex=>⟨fP,@GE.sc _ _ _ _ _ _ _ (aR aI2 (hr.mono (by decide)) (by rfl) (aD (aB 0) aF))⟩) (by intro _;rfl)) aF)) (by rfl))))
theorem aBc {fd:FuncData}(aI2:Cal P w K mg base "_law_whole" 1 ["found"] gB false 3) (aHu:mg "isinstance" = none) (aI5:mg "list" = none) (aHs:mg "len" = none) (aJa:mg "all" = none) (Fu:Fun K "_law_row" "_law_row" nL f fd):
  FnOk P w K mg base CX0 2 f fd ["found","hands"] (spT K kG false 3):=
 gfn Fu aF3 rfl (by decide) (fun ts t h=>bB h) (fun cdv A outer s H E hr=>@TB _ _ _ _ _ _ aI2 aHu aI5 aHs aJa cdv A outer s H E hr) (fun ts t h=>bC h)
abbrev nF:Stmt:=top 47
theorem zA:FnScope ["row","group","total","hand"] ["row","group"] (defScope nF):=⟨rfl,rfl,rfl,by decide +kernel,rfl,by decide +kernel,by decide +kernel⟩
def tX:Rho->Option Out:=
 rIf (fB (f2 (f2 (f2 (aA 1) (aA 3) jR) (fC (.int 1)) jP) (fC (.int 1)) oEq)) (aO 2 (f2 (aA 2) (f2 (aA 0) (aA 3) oIx) bM)) bO
def tW:Rho->Option Out:=
 aH (aO 2 (fC (.int 0)))
  (aH (bW 3 (bY (aC (aG (aC (aA 0) aE) cH) aE) cI)
  tX)
  (aP (f1 (aA 2) bF)))
def gA:List T->Option T:=Fof 2 2 tW
theorem NM (t0 t1:T):gA [t0,t1]=(tW [some t0,some t1,none,none]).bind aZ:=rfl
theorem SU (aHs:mg "len" = none) (aHr:mg "range" = none) (cdv:Value) (A:Around) (outer:List Env) (s:Shared) (H:Hp) (E:XK)
  (hr:Room 0 (A.deeper (envOfC "_law_gives" (defScope nF) s.heap.objs.size f cdv))):
  GSs (aQ CX0 P w K mg base ["row","group","total","hand"] "_law_gives" (defScope nF) f cdv A outer s H E).nox H [1,1,1,1] false 3 (defBody nF) tW:=by
 have hu:=hr.units;unfold tW tX;exact @aI _ _ _ _ _ _ _ _ _ (@aU _ _ _ _ _ _ _ _ _ _ _ _ 2 ge_int zA.nd (by rfl) (Or.inl (by rfl)) (by rfl) (by rfl) (by trivial)) (@aI _ _ _ _ _ _ _ _ _ (@cA _ _ _ _ _ _ _ _ _ 3 _ _ _ _ _ PassesOwn.never (by rfl) (dS (by rfl) (by rfl) aHr (aD (dC (by rfl) (by rfl) aHs (aD (aB 0) aF)) aF)) zA.nd (by rfl) (Or.inl (by rfl)) (@aJ _ _ _ _ _ _ _ (@bS _ _ _ _ _ _ _ _ _ _ _ _ (@qF _ _ _ _ _ _ _ _ _ _ _ _ hu (@qD _ _ _ _ _ _ _ _ _ _ _ _ (@wS _ _ _ _ _ _ _ _ _ _ _ _ (aB 1) (aB 3)) ge_int) ge_int) (@aJ _ _ _ _ _ _ _ (@aU _ _ _ _ _ _ _ _ _ _ _ _ 2 (@bN _ _ _ _ _ _ _ _ _ _ _ _ (aB 2) (@aW _ _ _ _ _ _ _ _ _ _ _ _ (aB 0) (aB 3) (by exact fun _ _=>rfl))) zA.nd (by rfl) (Or.inl (by rfl)) (by rfl) (by rfl) (by trivial))) bU)) (by rfl) (by intro _;rfl) (by trivial)) (@aJ _ _ _ _ _ _ _ (@aT _ _ _ _ _ _ _ _ (@aX _ _ _ _ _ _ _ _ _ (@GE.sc _ _ _ _ _ _ _ (aB 2)) (by rfl)))))
theorem aB6 {fd:FuncData}(aHs:mg "len" = none) (aHr:mg "range" = none) (Fu:Fun K "_law_gives" "_law_gives" nF f fd):
  FnOk P w K mg base CX0 1 f fd ["row","group"] (spT K gA false 3):=
 gfn Fu zA rfl (by decide) (fun ts t h=>bB h) (fun cdv A outer s H E hr=>@SU _ _ _ _ _ _ aHs aHr cdv A outer s H E hr) (fun ts t h=>bC h)
abbrev nO:Stmt:=top 49
theorem LN:FnScope ["table","shares","group"] ["table","shares"] (defScope nO):=⟨rfl,rfl,rfl,by decide +kernel,rfl,by decide +kernel,by decide +kernel⟩
def yR:Rho->Option Out:=
 rIf (fB (f2 (aG (aC (aA 1) (aC (aA 2) aE)) gA) (f2 (aA 0) (aA 2) oIx) oGt)) (aP (fC (.bl false))) bO
def uJ:Rho->Option Out:=
 aH (bW 2 (bY (aC (aG (aC (aA 0) aE) cH) aE) cI)
  yR)
  (aP (fC (.bl true)))
def kJ:List T->Option T:=Fof 2 1 uJ
theorem NU (t0 t1:T):kJ [t0,t1]=(uJ [some t0,some t1,none]).bind aZ:=rfl
theorem TF (aHz:Cal P w K mg base "_law_gives" 1 ["row","group"] gA false 3) (aHs:mg "len" = none) (aHr:mg "range" = none) (cdv:Value) (A:Around) (outer:List Env) (s:Shared) (H:Hp) (E:XK)
  (hr:Room 1 (A.deeper (envOfC "_law_under" (defScope nO) s.heap.objs.size f cdv))):
  GSs (aQ CX0 P w K mg base ["table","shares","group"] "_law_under" (defScope nO) f cdv A outer s H E).nox H [1,1,1] false 3 (defBody nO) uJ:=by
 have hu:=hr.units;unfold uJ yR;exact @aI _ _ _ _ _ _ _ _ _ (@cA _ _ _ _ _ _ _ _ _ 2 _ _ _ _ _ PassesOwn.never (by rfl) (dS (by rfl) (by rfl) aHr (aD (dC (by rfl) (by rfl) aHs (aD (aB 0) aF)) aF)) LN.nd (by rfl) (Or.inl (by rfl)) (@aJ _ _ _ _ _ _ _ (@bS _ _ _ _ _ _ _ _ _ _ _ _ (@wY _ _ _ _ _ _ _ _ _ _ _ _ (aR aHz (hr.mono (by decide)) (by rfl) (aD (aB 1) (aD (aB 2) aF))) (@aW _ _ _ _ _ _ _ _ _ _ _ _ (aB 0) (aB 2) (by exact fun _ _=>rfl))) (@aJ _ _ _ _ _ _ _ (@aT _ _ _ _ _ _ _ _ (@aX _ _ _ _ _ _ _ _ _ eF (by rfl)))) bU)) (by rfl) (by intro _;rfl) (by trivial)) (@aJ _ _ _ _ _ _ _ (@aT _ _ _ _ _ _ _ _ (@aX _ _ _ _ _ _ _ _ _ eF (by rfl))))
theorem aBf {fd:FuncData}(aHz:Cal P w K mg base "_law_gives" 1 ["row","group"] gA false 3) (aHs:mg "len" = none) (aHr:mg "range" = none) (Fu:Fun K "_law_under" "_law_under" nO f fd):
  FnOk P w K mg base CX0 2 f fd ["table","shares"] (spT K kJ false 3):=
 gfn Fu LN rfl (by decide) (fun ts t h=>bB h) (fun cdv A outer s H E hr=>@TF _ _ _ _ _ _ aHz aHs aHr cdv A outer s H E hr) (fun ts t h=>bC h)
abbrev mZ:Stmt:=top 50
theorem aF0:FnScope ["table","shares"] ["table","shares"] (defScope mZ):=⟨rfl,rfl,rfl,by decide +kernel,rfl,by decide +kernel,by decide +kernel⟩
def tK:Rho->Option Out:=
 aP (f1 (vT (aG (aC (aA 0) (aC (aA 1) aE)) kJ) (f2 (aG (aC (aA 1) (aC (f2 (aG (aC (aA 0) aE) cH) (fC (.int 1)) cZ) aE)) gA) (f2 (aA 0) (f1 (fC (.int 1)) hV) oIx) oEq)) bF)
def jZ:List T->Option T:=Fof 2 0 tK
theorem NH (t0 t1:T):jZ [t0,t1]=(tK [some t0,some t1]).bind aZ:=rfl
theorem SO (aIl:Cal P w K mg base "_law_under" 2 ["table","shares"] kJ false 3) (aHz:Cal P w K mg base "_law_gives" 1 ["row","group"] gA false 3) (aHs:mg "len" = none) (cdv:Value) (A:Around) (outer:List Env) (s:Shared) (H:Hp) (E:XK)
  (hr:Room 2 (A.deeper (envOfC "_law_base" (defScope mZ) s.heap.objs.size f cdv))):
  GSs (aQ CX0 P w K mg base ["table","shares"] "_law_base" (defScope mZ) f cdv A outer s H E).nox H [1,1] false 3 (defBody mZ) tK:=by
 have hu:=hr.units;unfold tK;exact @aJ _ _ _ _ _ _ _ (@aT _ _ _ _ _ _ _ _ (@aX _ _ _ _ _ _ _ _ _ (@GE.sc _ _ _ _ _ _ _ (@AV _ _ _ _ _ _ _ _ _ _ _ _ _ (aR aIl (hr.mono (by decide)) (by rfl) (aD (aB 0) (aD (aB 1) aF))) (@AX _ _ _ _ _ _ _ _ _ (@rX _ _ _ _ _ _ _ _ _ _ _ _ hu (aR aHz (hr.mono (by decide)) (by rfl) (aD (aB 1) (aD (@dI _ _ _ _ _ _ _ _ _ _ _ _ (dC (by rfl) (by rfl) aHs (aD (aB 0) aF)) ge_int) aF))) (@aW _ _ _ _ _ _ _ _ _ _ _ _ (aB 0) (@wQ _ _ _ _ _ _ _ _ ge_int) (by exact fun _ _=>rfl)))))) (by rfl)))
theorem aB1 {fd:FuncData}(aIl:Cal P w K mg base "_law_under" 2 ["table","shares"] kJ false 3) (aHz:Cal P w K mg base "_law_gives" 1 ["row","group"] gA false 3) (aHs:mg "len" = none) (Fu:Fun K "_law_base" "_law_base" mZ f fd):
  FnOk P w K mg base CX0 3 f fd ["table","shares"] (spT K jZ false 3):=
 gfn Fu aF0 rfl (by decide) (fun ts t h=>bB h) (fun cdv A outer s H E hr=>@SO _ _ _ _ _ _ aIl aHz aHs cdv A outer s H E hr) (fun ts t h=>bC h)
abbrev nJ:Stmt:=top 44
theorem vO:FnScope ["prices","order","hand","at"] ["prices"] (defScope nJ):=⟨rfl,rfl,rfl,by decide +kernel,rfl,by decide +kernel,by decide +kernel⟩
def yK:Rho->Option Out:=
 aO 3 (f2 (aA 3) (fC (.int 1)) bM)
def qU:Rho->Option Bool:=
 sX (fB (f2 (aA 3) (aG (aC (aA 1) aE) cH) oLt)) (fB (f2 (f2 (aA 0) (f2 (aA 1) (aA 3) oIx) oIx) (f2 (aA 0) (aA 2) oIx) oGe))
def yL:Rho->Option Out:=
 aH (aO 3 (fC (.int 0)))
  (aH (yD qU yK)
  (CM 1 (aA 3) (f1 (aA 2) bF)))
def uA:Rho->Option Out:=
 aH (dA 1 (fK aE))
  (aH (bW 2 (bY (aC (aG (aC (aA 0) aE) cH) aE) cI)
  yL)
  (aP (fM 1)))
def fH:List T->Option T:=Fof 1 3 uA
theorem NP (t0:T):fH [t0]=(uA [some t0,none,none,none]).bind aZ:=rfl
theorem SY (aHs:mg "len" = none) (aHr:mg "range" = none) (cdv:Value) (A:Around) (outer:List Env) (s:Shared) (H:Hp) (E:XK)
  (hr:Room 0 (A.deeper (envOfC "_law_order" (defScope nJ) s.heap.objs.size f cdv))):
  GSs (aQ CX0 P w K mg base ["prices","order","hand","at"] "_law_order" (defScope nJ) f cdv A outer s H E).nox H [1,0,1,1] true 3 (defBody nJ) uA:=by
 have hu:=hr.units;unfold uA yL qU yK;exact @aI _ _ _ _ _ _ _ _ _ (@gZ _ _ _ _ _ _ _ _ _ _ _ 1 (@gK _ _ _ _ _ _ _ aF) vO.nd (by rfl) (Or.inl (by rfl)) (by rfl) (by rfl) (by trivial)) (@aI _ _ _ _ _ _ _ _ _ (@cA _ _ _ _ _ _ _ _ _ 2 _ _ _ _ _ PassesOwn.never (by rfl) (dS (by rfl) (by rfl) aHr (aD (dC (by rfl) (by rfl) aHs (aD (aB 0) aF)) aF)) vO.nd (by rfl) (Or.inl (by rfl)) (@aI _ _ _ _ _ _ _ _ _ (@aU _ _ _ _ _ _ _ _ _ _ _ _ 3 ge_int vO.nd (by rfl) (Or.inl (by rfl)) (by rfl) (by rfl) (by trivial)) (@aI _ _ _ _ _ _ _ _ _ (@GV _ _ _ _ _ _ _ _ _ _ PassesOwn.never (@GW.gt _ _ _ _ _ (@BE _ _ _ _ _ _ _ _ _ (@wZ _ _ _ _ _ _ _ _ _ _ _ _ (aB 3) (dC (by rfl) (by rfl) aHs (aD (aB 1) aF))) (@BF _ _ _ _ _ _ (@GY _ _ _ _ _ _ _ _ _ _ _ _ (@aW _ _ _ _ _ _ _ _ _ _ _ _ (aB 0) (@aW _ _ _ _ _ _ _ _ _ _ _ _ (aB 1) (aB 3) (by exact fun _ _=>rfl)) (by exact fun _ _=>rfl)) (@aW _ _ _ _ _ _ _ _ _ _ _ _ (aB 0) (aB 2) (by exact fun _ _=>rfl)))))) (@aJ _ _ _ _ _ _ _ (@aU _ _ _ _ _ _ _ _ _ _ _ _ 3 (@bN _ _ _ _ _ _ _ _ _ _ _ _ (aB 3) ge_int) vO.nd (by rfl) (Or.inl (by rfl)) (by rfl) (by rfl) (by trivial)))) (@aJ _ _ _ _ _ _ _ (@WP _ _ _ _ _ _ _ _ _ _ _ _ _ _ _ _ 1 _ _ (aB 3) (@GE.sc _ _ _ _ _ _ _ (aB 2)) (by rfl) (by rfl) (by trivial) (by decide) (by decide) (by rfl) (by rfl) (by rfl) (by rfl) (by rfl) (by rfl) (by rfl))))) (by rfl) (by intro _;rfl) (by trivial)) (@aJ _ _ _ _ _ _ _ (@aT _ _ _ _ _ _ _ _ (@jL _ _ _ _ _ _ _ 1 (by rfl) (by trivial) (by rfl) (by decide) (by decide)))))
theorem aBa {fd:FuncData}(aHs:mg "len" = none) (aHr:mg "range" = none) (Fu:Fun K "_law_order" "_law_order" nJ f fd):
  FnOk P w K mg base CX0 1 f fd ["prices"] (spT K fH true 3):=
 gfn Fu vO rfl (by decide) (fun ts t h=>bB h) (fun cdv A outer s H E hr=>@SY _ _ _ _ _ _ aHs aHr cdv A outer s H E hr) (fun ts t h=>bC h)
abbrev nA:Stmt:=top 46
theorem vM:FnScope ["table","order","shares","ahead","hand"] ["table","order"] (defScope nA):=⟨rfl,rfl,rfl,by decide +kernel,rfl,by decide +kernel,by decide +kernel⟩
def CQ:Rho->Option T:=
 fC (.int 0)
def yI:Rho->Option Out:=
 aH (hZ 2 (aA 4) (f2 (f2 (aA 0) (f2 (aA 3) (f2 (fC (.int 1)) (aA 4) cJ) bM) oIx) (f2 (aA 0) (aA 3) oIx) cZ))
  (aO 3 (f2 (aA 3) (f2 (fC (.int 1)) (aA 4) cJ) bM))
def tL:Rho->Option Out:=
 aH (dA 2 (cW (fFL (aA 1)) [none] bI CQ))
  (aH (aO 3 (fC (.int 0)))
  (aH (bW 4 (fFL (aA 1))
  yI)
  (aP (fM 2))))
def kA:List T->Option T:=Fof 2 3 tL
theorem NI (t0 t1:T):kA [t0,t1]=(tL [some t0,some t1,none,none,none]).bind aZ:=rfl
theorem SQ (cdv:Value) (A:Around) (outer:List Env) (s:Shared) (H:Hp) (E:XK)
  (hr:Room 0 (A.deeper (envOfC "_law_by" (defScope nA) s.heap.objs.size f cdv))):
  GSs (aQ CX0 P w K mg base ["table","order","shares","ahead","hand"] "_law_by" (defScope nA) f cdv A outer s H E).nox H [1,1,0,1,1] true 3 (defBody nA) tL:=by
 have hu:=hr.units;unfold tL yI CQ;exact @aI _ _ _ _ _ _ _ _ _ (@sD _ _ _ _ _ _ _ _ _ _ _ _ _ _ _ _ _ _ _ _ _ _ _ _ _ 2 (dO (by kernel_rfl) (N':=[ "hand" ]) (src:=[ none ])) (fN (by kernel_rfl) (fl':=[ 2 ])) (by rfl) (eA (aB 1)) (by rfl) (by rfl) (fun cl C s H ex=>⟨fP,@ge_int _ _ _ _ _ _⟩) vM.nd (by rfl) (Or.inl (by rfl)) (by rfl) (by rfl) (by intro _;rfl) (by trivial)) (@aI _ _ _ _ _ _ _ _ _ (@aU _ _ _ _ _ _ _ _ _ _ _ _ 3 ge_int vM.nd (by rfl) (Or.inl (by rfl)) (by rfl) (by rfl) (by trivial)) (@aI _ _ _ _ _ _ _ _ _ (@cA _ _ _ _ _ _ _ _ _ 4 _ _ _ _ _ PassesOwn.never (by rfl) (eA (aB 1)) vM.nd (by rfl) (Or.inl (by rfl)) (@aI _ _ _ _ _ _ _ _ _ (@mJ _ _ _ _ _ _ _ _ _ _ _ 2 _ _ _ _ _ _ (@dI _ _ _ _ _ _ _ _ _ _ _ _ (@aW _ _ _ _ _ _ _ _ _ _ _ _ (aB 0) (@bN _ _ _ _ _ _ _ _ _ _ _ _ (aB 3) (@dR _ _ _ _ _ _ _ _ _ _ _ _ ge_int (aB 4))) (by exact fun _ _=>rfl)) (@aW _ _ _ _ _ _ _ _ _ _ _ _ (aB 0) (aB 3) (by exact fun _ _=>rfl))) (aB 4) (by rfl) (by rfl) (by trivial) (by decide) (by decide) (by intro _;rfl) (by rfl) (by rfl) (by rfl)) (@aJ _ _ _ _ _ _ _ (@aU _ _ _ _ _ _ _ _ _ _ _ _ 3 (@bN _ _ _ _ _ _ _ _ _ _ _ _ (aB 3) (@dR _ _ _ _ _ _ _ _ _ _ _ _ ge_int (aB 4))) vM.nd (by rfl) (Or.inl (by rfl)) (by rfl) (by rfl) (by trivial)))) (by rfl) (by intro _;rfl) (by trivial)) (@aJ _ _ _ _ _ _ _ (@aT _ _ _ _ _ _ _ _ (@jL _ _ _ _ _ _ _ 2 (by rfl) (by trivial) (by rfl) (by decide) (by decide))))))
theorem aB2 {fd:FuncData}(Fu:Fun K "_law_by" "_law_by" nA f fd):
  FnOk P w K mg base CX0 1 f fd ["table","order"] (spT K kA true 3):=
 gfn Fu vM rfl (by decide) (fun ts t h=>bB h) (fun cdv A outer s H E hr=>@SQ _ _ _ _ _ _  cdv A outer s H E hr) (fun ts t h=>bC h)
abbrev pM:Stmt:=top 31
theorem aFf:FnScope ["shares","prices"] ["shares","prices"] (defScope pM):=⟨rfl,rfl,rfl,by decide +kernel,rfl,by decide +kernel,by decide +kernel⟩
def vL:Rho->Option T:=
 f2 (aA 0) (aA 1) bH
def vK:Rho->Option Out:=
 aP (aG (aC (mD [0,1] (rQ (fFL (aA 0)) (fFL (aA 1))) [none,none] bI vL) aE) sQ)
def jI:List T->Option T:=Fof 2 0 vK
theorem QD (t0 t1:T):jI [t0,t1]=(vK [some t0,some t1]).bind aZ:=rfl
theorem UL (aJe:mg "zip" = none) (aJd:mg "sum" = none) (cdv:Value) (A:Around) (outer:List Env) (s:Shared) (H:Hp) (E:XK)
  (hr:Room 0 (A.deeper (envOfC "weight_of" (defScope pM) s.heap.objs.size f cdv))):
  GSs (aQ CX0 P w K mg base ["shares","prices"] "weight_of" (defScope pM) f cdv A outer s H E).nox H [1,1] false 3 (defBody pM) vK:=by
 have hu:=hr.units;unfold vK vL;exact @aJ _ _ _ _ _ _ _ (@aT _ _ _ _ _ _ _ _ (@aX _ _ _ _ _ _ _ _ _ (FW (by rfl) (by rfl) (by rfl) aJd (aD (@wN _ _ _ _ _ _ _ _ _ _ _ _ _ _ _ _ _ _ _ _ _ _ _ (dO (by kernel_rfl) (N':=[ "share" ,"price" ]) (src:=[ none ,none ])) (wJ (by kernel_rfl) (fl':=[ 2 ,2 ]) (js:=[ 0 ,1 ])) (by decide) (by rfl) (@FZ _ _ _ _ _ _ _ _ _ _ _ _ _ _ _ _ _ (by rfl) (by rfl) aJe (aB 0) (aB 1) (by rfl) (by rfl)) (fun cl C s H ex=>@pgT _ _ _ (2) _ _ (by rfl) (@eS _ _ _ _ _ _ (fV (by kernel_rfl)) (by rfl) (Or.inl (by rfl)) (@eS _ _ _ _ _ _ (fV (by kernel_rfl)) (by rfl) (Or.inl (by rfl)) (@qE _) (by trivial) (by rfl)) (by trivial) (by rfl)) (by rfl) (by rfl)) (by rfl) (fun cl C s H ex=>⟨fP,@dH _ _ _ _ _ _ _ _ _ _ _ _ (aB 0) (aB 1)⟩) (by intro _;rfl)) aF)) (by rfl)))
theorem aC4 {fd:FuncData}(aJe:mg "zip" = none) (aJd:mg "sum" = none) (Fu:Fun K "weight_of" "weight_of" pM f fd):
  FnOk P w K mg base CX0 1 f fd ["shares","prices"] (spT K jI false 3):=
 gfn Fu aFf rfl (by decide) (fun ts t h=>bB h) (fun cdv A outer s H E hr=>@UL _ _ _ _ _ _ aJe aJd cdv A outer s H E hr) (fun ts t h=>bC h)
abbrev nS:Stmt:=top 45
theorem rA:FnScope ["table","prices","ahead","total","hand"] ["table","prices"] (defScope nS):=⟨rfl,rfl,rfl,by decide +kernel,rfl,by decide +kernel,by decide +kernel⟩
def uN:Rho->Option Out:=
 aH (aO 3 (f2 (aA 3) (f2 (f2 (aA 1) (aA 4) oIx) (f2 (f2 (aA 0) (f2 (aA 2) (f2 (fC (.int 1)) (aA 4) cJ) bM) oIx) (f2 (aA 0) (aA 2) oIx) cZ) bH) bM))
  (aO 2 (f2 (aA 2) (f2 (fC (.int 1)) (aA 4) cJ) bM))
def uM:Rho->Option Out:=
 aH (aO 2 (fC (.int 0)))
  (aH (aO 3 (fC (.int 0)))
  (aH (bW 4 (fFL (aG (aC (aA 1) aE) fH))
  uN)
  (aP (f1 (aA 3) bF))))
def kL:List T->Option T:=Fof 2 3 uM
theorem NX (t0 t1:T):kL [t0,t1]=(uM [some t0,some t1,none,none,none]).bind aZ:=rfl
theorem TM (aI1:Cal P w K mg base "_law_order" 1 ["prices"] fH true 3) (cdv:Value) (A:Around) (outer:List Env) (s:Shared) (H:Hp) (E:XK)
  (hr:Room 1 (A.deeper (envOfC "_law_worth" (defScope nS) s.heap.objs.size f cdv))):
  GSs (aQ CX0 P w K mg base ["table","prices","ahead","total","hand"] "_law_worth" (defScope nS) f cdv A outer s H E).nox H [1,1,1,1,1] false 3 (defBody nS) uM:=by
 have hu:=hr.units;unfold uM uN;exact @aI _ _ _ _ _ _ _ _ _ (@aU _ _ _ _ _ _ _ _ _ _ _ _ 2 ge_int rA.nd (by rfl) (Or.inl (by rfl)) (by rfl) (by rfl) (by trivial)) (@aI _ _ _ _ _ _ _ _ _ (@aU _ _ _ _ _ _ _ _ _ _ _ _ 3 ge_int rA.nd (by rfl) (Or.inl (by rfl)) (by rfl) (by rfl) (by trivial)) (@aI _ _ _ _ _ _ _ _ _ (@cA _ _ _ _ _ _ _ _ _ 4 _ _ _ _ _ PassesOwn.never (by rfl) (eA (aR aI1 (hr.mono (by decide)) (by rfl) (aD (aB 1) aF))) rA.nd (by rfl) (Or.inl (by rfl)) (@aI _ _ _ _ _ _ _ _ _ (@aU _ _ _ _ _ _ _ _ _ _ _ _ 3 (@bN _ _ _ _ _ _ _ _ _ _ _ _ (aB 3) (@dH _ _ _ _ _ _ _ _ _ _ _ _ (@aW _ _ _ _ _ _ _ _ _ _ _ _ (aB 1) (aB 4) (by exact fun _ _=>rfl)) (@dI _ _ _ _ _ _ _ _ _ _ _ _ (@aW _ _ _ _ _ _ _ _ _ _ _ _ (aB 0) (@bN _ _ _ _ _ _ _ _ _ _ _ _ (aB 2) (@dR _ _ _ _ _ _ _ _ _ _ _ _ ge_int (aB 4))) (by exact fun _ _=>rfl)) (@aW _ _ _ _ _ _ _ _ _ _ _ _ (aB 0) (aB 2) (by exact fun _ _=>rfl))))) rA.nd (by rfl) (Or.inl (by rfl)) (by rfl) (by rfl) (by trivial)) (@aJ _ _ _ _ _ _ _ (@aU _ _ _ _ _ _ _ _ _ _ _ _ 2 (@bN _ _ _ _ _ _ _ _ _ _ _ _ (aB 2) (@dR _ _ _ _ _ _ _ _ _ _ _ _ ge_int (aB 4))) rA.nd (by rfl) (Or.inl (by rfl)) (by rfl) (by rfl) (by trivial)))) (by rfl) (by intro _;rfl) (by trivial)) (@aJ _ _ _ _ _ _ _ (@aT _ _ _ _ _ _ _ _ (@aX _ _ _ _ _ _ _ _ _ (@GE.sc _ _ _ _ _ _ _ (aB 3)) (by rfl))))))
theorem aBj {fd:FuncData}(aI1:Cal P w K mg base "_law_order" 1 ["prices"] fH true 3) (Fu:Fun K "_law_worth" "_law_worth" nS f fd):
  FnOk P w K mg base CX0 2 f fd ["table","prices"] (spT K kL false 3):=
 gfn Fu rA rfl (by decide) (fun ts t h=>bB h) (fun cdv A outer s H E hr=>@TM _ _ _ _ _ _ aI1 cdv A outer s H E hr) (fun ts t h=>bC h)
abbrev nP:Stmt:=top 51
theorem zC:FnScope ["shares","prices","total","hand"] ["shares","prices"] (defScope nP):=⟨rfl,rfl,rfl,by decide +kernel,rfl,by decide +kernel,by decide +kernel⟩
def yS:Rho->Option Out:=
 aO 2 (f2 (aA 2) (f2 (f2 (aA 0) (aA 3) oIx) (f2 (aA 1) (aA 3) oIx) bH) bM)
def uK:Rho->Option Out:=
 aH (aO 2 (fC (.int 0)))
  (aH (bW 3 (bY (aC (aG (aC (aA 1) aE) cH) aE) cI)
  yS)
  (aP (f1 (aA 2) bF)))
def jF:List T->Option T:=Fof 2 2 uK
theorem NV (t0 t1:T):jF [t0,t1]=(uK [some t0,some t1,none,none]).bind aZ:=rfl
theorem TH (aHs:mg "len" = none) (aHr:mg "range" = none) (cdv:Value) (A:Around) (outer:List Env) (s:Shared) (H:Hp) (E:XK)
  (hr:Room 0 (A.deeper (envOfC "_law_weigh" (defScope nP) s.heap.objs.size f cdv))):
  GSs (aQ CX0 P w K mg base ["shares","prices","total","hand"] "_law_weigh" (defScope nP) f cdv A outer s H E).nox H [1,1,1,1] false 3 (defBody nP) uK:=by
 have hu:=hr.units;unfold uK yS;exact @aI _ _ _ _ _ _ _ _ _ (@aU _ _ _ _ _ _ _ _ _ _ _ _ 2 ge_int zC.nd (by rfl) (Or.inl (by rfl)) (by rfl) (by rfl) (by trivial)) (@aI _ _ _ _ _ _ _ _ _ (@cA _ _ _ _ _ _ _ _ _ 3 _ _ _ _ _ PassesOwn.never (by rfl) (dS (by rfl) (by rfl) aHr (aD (dC (by rfl) (by rfl) aHs (aD (aB 1) aF)) aF)) zC.nd (by rfl) (Or.inl (by rfl)) (@aJ _ _ _ _ _ _ _ (@aU _ _ _ _ _ _ _ _ _ _ _ _ 2 (@bN _ _ _ _ _ _ _ _ _ _ _ _ (aB 2) (@dH _ _ _ _ _ _ _ _ _ _ _ _ (@aW _ _ _ _ _ _ _ _ _ _ _ _ (aB 0) (aB 3) (by exact fun _ _=>rfl)) (@aW _ _ _ _ _ _ _ _ _ _ _ _ (aB 1) (aB 3) (by exact fun _ _=>rfl)))) zC.nd (by rfl) (Or.inl (by rfl)) (by rfl) (by rfl) (by trivial))) (by rfl) (by intro _;rfl) (by trivial)) (@aJ _ _ _ _ _ _ _ (@aT _ _ _ _ _ _ _ _ (@aX _ _ _ _ _ _ _ _ _ (@GE.sc _ _ _ _ _ _ _ (aB 2)) (by rfl)))))
theorem aBg {fd:FuncData}(aHs:mg "len" = none) (aHr:mg "range" = none) (Fu:Fun K "_law_weigh" "_law_weigh" nP f fd):
  FnOk P w K mg base CX0 1 f fd ["shares","prices"] (spT K jF false 3):=
 gfn Fu zC rfl (by decide) (fun ts t h=>bB h) (fun cdv A outer s H E hr=>@TH _ _ _ _ _ _ aHs aHr cdv A outer s H E hr) (fun ts t h=>bC h)
abbrev pK:Stmt:=top 14
theorem aFd:FnScope ["row","group"] ["row","group"] (defScope pK):=⟨rfl,rfl,rfl,by decide +kernel,rfl,by decide +kernel,by decide +kernel⟩
def yZ:Rho->Option T:=
 f1 (f2 (aA 1) (aA 0) oIx) bF
def vI:Rho->Option Out:=
 aP (aG (aC (cW (fFL (aG (aC (aA 1) aE) gE)) [none,some 0] bI yZ) aE) sQ)
def dZ:List T->Option T:=Fof 2 0 vI
theorem PR (t0 t1:T):dZ [t0,t1]=(vI [some t0,some t1]).bind aZ:=rfl
theorem UJ (aI7:Cal P w K mg base "hands_in" 1 ["group"] gE true 3) (aJd:mg "sum" = none) (cdv:Value) (A:Around) (outer:List Env) (s:Shared) (H:Hp) (E:XK)
  (hr:Room 1 (A.deeper (envOfC "row_gives" (defScope pK) s.heap.objs.size f cdv))):
  GSs (aQ CX0 P w K mg base ["row","group"] "row_gives" (defScope pK) f cdv A outer s H E).nox H [1,1] false 3 (defBody pK) vI:=by
 have hu:=hr.units;unfold vI yZ;exact @aJ _ _ _ _ _ _ _ (@aT _ _ _ _ _ _ _ _ (@aX _ _ _ _ _ _ _ _ _ (FW (by rfl) (by rfl) (by rfl) aJd (aD (@rW _ _ _ _ _ _ _ _ _ _ _ _ _ _ _ _ _ _ _ _ (dO (by kernel_rfl) (N':=[ "hand" ,"row" ]) (src:=[ none ,some 0 ])) (fN (by kernel_rfl) (fl':=[ 2 ,1 ])) (by decide) (by rfl) (eA (aR aI7 (hr.mono (by decide)) (by rfl) (aD (aB 1) aF))) (by rfl) (by rfl) (fun cl C s H ex=>⟨fP,@GE.sc _ _ _ _ _ _ _ (@aW _ _ _ _ _ _ _ _ _ _ _ _ (aB 1) (aB 0) (by exact fun _ _=>rfl))⟩) (by intro _;rfl)) aF)) (by rfl)))
theorem aC2 {fd:FuncData}(aI7:Cal P w K mg base "hands_in" 1 ["group"] gE true 3) (aJd:mg "sum" = none) (Fu:Fun K "row_gives" "row_gives" pK f fd):
  FnOk P w K mg base CX0 2 f fd ["row","group"] (spT K dZ false 3):=
 gfn Fu aFd rfl (by decide) (fun ts t h=>bB h) (fun cdv A outer s H E hr=>@UJ _ _ _ _ _ _ aI7 aJd cdv A outer s H E hr) (fun ts t h=>bC h)
abbrev pG:Stmt:=top 15
theorem aFb:FnScope ["table","row"] ["table","row"] (defScope pG):=⟨rfl,rfl,rfl,by decide +kernel,rfl,by decide +kernel,by decide +kernel⟩
def yW:Rho->Option T:=
 f2 (aA 1) (aG (aC (aA 2) (aC (aA 0) aE)) dZ) cZ
def vC:Rho->Option Out:=
 aH (rIf (fB (f2 (aG (aC (aA 1) aE) cH) (aG (aC (aA 0) aE) gD) oNe)) yC bO)
  (aP (mD [0,1] (mE (fFL (aA 0))) [none,none,some 1] bI yW))
def kR:List T->Option T:=Fof 2 0 vC
theorem OX (t0 t1:T):kR [t0,t1]=(vC [some t0,some t1]).bind aZ:=rfl
theorem UE (aI3:Cal P w K mg base "hand_count" 1 ["table"] gD false 3) (aHv:Cal P w K mg base "row_gives" 2 ["row","group"] dZ false 3) (aHs:mg "len" = none) (aHw:mg "enumerate" = none) (cdv:Value) (A:Around) (outer:List Env) (s:Shared) (H:Hp) (E:XK)
  (hr:Room 2 (A.deeper (envOfC "less_row" (defScope pG) s.heap.objs.size f cdv))):
  GSs (aQ CX0 P w K mg base ["table","row"] "less_row" (defScope pG) f cdv A outer s H E).nox H [1,1] true 3 (defBody pG) vC:=by
 have hu:=hr.units;unfold vC yW;exact @aI _ _ _ _ _ _ _ _ _ (@bS _ _ _ _ _ _ _ _ _ _ _ _ (@mL _ _ _ _ _ _ _ _ _ _ _ _ hu (dC (by rfl) (by rfl) aHs (aD (aB 1) aF)) (aR aI3 (hr.mono (by decide)) (by rfl) (aD (aB 0) aF))) (@aJ _ _ _ _ _ _ _ GQ) bU) (@aJ _ _ _ _ _ _ _ (@aT _ _ _ _ _ _ _ _ (@aX _ _ _ _ _ _ _ _ _ (@wN _ _ _ _ _ _ _ _ _ _ _ _ _ _ _ _ _ _ _ _ _ _ _ (dO (by kernel_rfl) (N':=[ "group" ,"cost" ,"row" ]) (src:=[ none ,none ,some 1 ])) (wJ (by kernel_rfl) (fl':=[ 2 ,2 ,1 ]) (js:=[ 0 ,1 ])) (by decide) (by rfl) (@AZ _ _ _ _ _ _ _ _ _ _ _ _ _ (by rfl) (by rfl) aHw (aB 0) (by rfl)) (fun cl C s H ex=>@pgT _ _ _ (2) _ _ (by rfl) (@eS _ _ _ _ _ _ (fV (by kernel_rfl)) (by rfl) (Or.inl (by rfl)) (@eS _ _ _ _ _ _ (fV (by kernel_rfl)) (by rfl) (Or.inl (by rfl)) (@qE _) (by trivial) (by rfl)) (by trivial) (by rfl)) (by rfl) (by rfl)) (by rfl) (fun cl C s H ex=>⟨fP,@dI _ _ _ _ _ _ _ _ _ _ _ _ (aB 1) (aR aHv (hr.mono (by decide)) (by rfl) (aD (aB 2) (aD (aB 0) aF)))⟩) (by intro _;rfl)) (by rfl))))
theorem aBx {fd:FuncData}(aI3:Cal P w K mg base "hand_count" 1 ["table"] gD false 3) (aHv:Cal P w K mg base "row_gives" 2 ["row","group"] dZ false 3) (aHs:mg "len" = none) (aHw:mg "enumerate" = none) (Fu:Fun K "less_row" "less_row" pG f fd):
  FnOk P w K mg base CX0 3 f fd ["table","row"] (spT K kR true 3):=
 gfn Fu aFb rfl (by decide) (fun ts t h=>bB h) (fun cdv A outer s H E hr=>@UE _ _ _ _ _ _ aI3 aHv aHs aHw cdv A outer s H E hr) (fun ts t h=>bC h)
abbrev pH:Stmt:=top 23
theorem CZ:FnScope ["table","shares","left","least"] ["table","shares"] (defScope pH):=⟨rfl,rfl,rfl,by decide +kernel,rfl,by decide +kernel,by decide +kernel⟩
def vE:Rho->Option Out:=
 aH (aO 2 (aG (aC (aA 0) (aC (aA 1) aE)) kR))
  (aH (aO 3 (aG (aC (aA 2) aE) xP))
  (aP (qC (aC (f2 (aA 2) (aA 3) xL) (aC (f1 (aA 3) hV) aE)))))
def kU:List T->Option T:=Fof 2 2 vE
theorem PL (t0 t1:T):kU [t0,t1]=(vE [some t0,some t1,none,none]).bind aZ:=rfl
theorem UG (aJ7:Cal P w K mg base "less_row" 3 ["table","row"] kR true 3) (aJc:mg "min" = none) (cdv:Value) (A:Around) (outer:List Env) (s:Shared) (H:Hp) (E:XK)
  (hr:Room 3 (A.deeper (envOfC "over" (defScope pH) s.heap.objs.size f cdv))):
  GSs (aQ CX0 P w K mg base ["table","shares","left","least"] "over" (defScope pH) f cdv A outer s H E).nox H [1,1,1,1] false 3 (defBody pH) vE:=by
 have hu:=hr.units;unfold vE;exact @aI _ _ _ _ _ _ _ _ _ (@aU _ _ _ _ _ _ _ _ _ _ _ _ 2 (aR aJ7 (hr.mono (by decide)) (by rfl) (aD (aB 0) (aD (aB 1) aF))) CZ.nd (by rfl) (Or.inl (by rfl)) (by rfl) (by rfl) (by trivial)) (@aI _ _ _ _ _ _ _ _ _ (@aU _ _ _ _ _ _ _ _ _ _ _ _ 3 (VU (by rfl) (by rfl) (by rfl) aJc (aD (aB 2) aF)) CZ.nd (by rfl) (Or.inl (by rfl)) (by rfl) (by rfl) (by trivial)) (@aJ _ _ _ _ _ _ _ (@aT _ _ _ _ _ _ _ _ (@GL _ _ _ _ _ _ _ _ _ (@sC _ _ _ _ _ _ _ _ (@aX _ _ _ _ _ _ _ _ _ (@VM _ _ _ _ _ _ _ _ _ _ _ _ _ (aB 2) (aB 3) (by rfl) (by rfl) (by rfl) (by rfl)) (by rfl)) (@sC _ _ _ _ _ _ _ _ (@aX _ _ _ _ _ _ _ _ _ (@wQ _ _ _ _ _ _ _ _ (aB 3)) (by rfl)) GM (by rfl) (by rfl)) (by rfl) (by rfl)) (by rfl)))))
theorem aBz {fd:FuncData}(aJ7:Cal P w K mg base "less_row" 3 ["table","row"] kR true 3) (aJc:mg "min" = none) (Fu:Fun K "over" "over" pH f fd):
  FnOk P w K mg base CX0 4 f fd ["table","shares"] (spT K kU false 3):=
 gfn Fu CZ rfl (by decide) (fun ts t h=>bB h) (fun cdv A outer s H E hr=>@UG _ _ _ _ _ _ aJ7 aJc cdv A outer s H E hr) (fun ts t h=>bC h)
abbrev pF:Stmt:=top 24
theorem aFa:FnScope ["table","shares"] ["table","shares"] (defScope pF):=⟨rfl,rfl,rfl,by decide +kernel,rfl,by decide +kernel,by decide +kernel⟩
def vA:Rho->Option Out:=
 aP (f2 (f2 (aG (aC (aA 0) (aC (aA 1) aE)) kU) (fC (.int 1)) oIx) (fC (.int 0)) oEq)
def kQ:List T->Option T:=Fof 2 0 vA
theorem OR (t0 t1:T):kQ [t0,t1]=(vA [some t0,some t1]).bind aZ:=rfl
theorem UC (aJj:Cal P w K mg base "over" 4 ["table","shares"] kU false 3) (cdv:Value) (A:Around) (outer:List Env) (s:Shared) (H:Hp) (E:XK)
  (hr:Room 4 (A.deeper (envOfC "is_under" (defScope pF) s.heap.objs.size f cdv))):
  GSs (aQ CX0 P w K mg base ["table","shares"] "is_under" (defScope pF) f cdv A outer s H E).nox H [1,1] false 3 (defBody pF) vA:=by
 have hu:=hr.units;unfold vA;exact @aJ _ _ _ _ _ _ _ (@aT _ _ _ _ _ _ _ _ (@aX _ _ _ _ _ _ _ _ _ (@rX _ _ _ _ _ _ _ _ _ _ _ _ hu (@aW _ _ _ _ _ _ _ _ _ _ _ _ (aR aJj (hr.mono (by decide)) (by rfl) (aD (aB 0) (aD (aB 1) aF))) ge_int (by exact fun _ _=>rfl)) ge_int) (by rfl)))
theorem aBv {fd:FuncData}(aJj:Cal P w K mg base "over" 4 ["table","shares"] kU false 3) (Fu:Fun K "is_under" "is_under" pF f fd):
  FnOk P w K mg base CX0 5 f fd ["table","shares"] (spT K kQ false 3):=
 gfn Fu aFa rfl (by decide) (fun ts t h=>bB h) (fun cdv A outer s H E hr=>@UC _ _ _ _ _ _ aJj cdv A outer s H E hr) (fun ts t h=>bC h)
abbrev pD:Stmt:=top 25
theorem LP:FnScope ["table","shares","whole"] ["table","shares"] (defScope pD):=⟨rfl,rfl,rfl,by decide +kernel,rfl,by decide +kernel,by decide +kernel⟩
def uX:Rho->Option Out:=
 aH (aO 2 (f1 (aG (aC (aA 0) aE) fI) bF))
  (aP (f1 (vT (aG (aC (aA 0) (aC (aA 1) aE)) kQ) (f2 (aG (aC (aA 1) (aC (aA 2) aE)) dZ) (f2 (aA 0) (aA 2) oIx) oEq)) bF))
def jH:List T->Option T:=Fof 2 1 uX
theorem OP (t0 t1:T):jH [t0,t1]=(uX [some t0,some t1,none]).bind aZ:=rfl
theorem UA (aI4:Cal P w K mg base "everybody" 1 ["table"] fI false 3) (aJ6:Cal P w K mg base "is_under" 5 ["table","shares"] kQ false 3) (aHv:Cal P w K mg base "row_gives" 2 ["row","group"] dZ false 3) (cdv:Value) (A:Around) (outer:List Env) (s:Shared) (H:Hp) (E:XK)
  (hr:Room 5 (A.deeper (envOfC "is_base" (defScope pD) s.heap.objs.size f cdv))):
  GSs (aQ CX0 P w K mg base ["table","shares","whole"] "is_base" (defScope pD) f cdv A outer s H E).nox H [1,1,1] false 3 (defBody pD) uX:=by
 have hu:=hr.units;unfold uX;exact @aI _ _ _ _ _ _ _ _ _ (@aU _ _ _ _ _ _ _ _ _ _ _ _ 2 (@GE.sc _ _ _ _ _ _ _ (aR aI4 (hr.mono (by decide)) (by rfl) (aD (aB 0) aF))) LP.nd (by rfl) (Or.inl (by rfl)) (by rfl) (by rfl) (by trivial)) (@aJ _ _ _ _ _ _ _ (@aT _ _ _ _ _ _ _ _ (@aX _ _ _ _ _ _ _ _ _ (@GE.sc _ _ _ _ _ _ _ (@AV _ _ _ _ _ _ _ _ _ _ _ _ _ (aR aJ6 (hr.mono (by decide)) (by rfl) (aD (aB 0) (aD (aB 1) aF))) (@AX _ _ _ _ _ _ _ _ _ (@rX _ _ _ _ _ _ _ _ _ _ _ _ hu (aR aHv (hr.mono (by decide)) (by rfl) (aD (aB 1) (aD (aB 2) aF))) (@aW _ _ _ _ _ _ _ _ _ _ _ _ (aB 0) (aB 2) (by exact fun _ _=>rfl)))))) (by rfl))))
theorem aBt {fd:FuncData}(aI4:Cal P w K mg base "everybody" 1 ["table"] fI false 3) (aJ6:Cal P w K mg base "is_under" 5 ["table","shares"] kQ false 3) (aHv:Cal P w K mg base "row_gives" 2 ["row","group"] dZ false 3) (Fu:Fun K "is_base" "is_base" pD f fd):
  FnOk P w K mg base CX0 6 f fd ["table","shares"] (spT K jH false 3):=
 gfn Fu LP rfl (by decide) (fun ts t h=>bB h) (fun cdv A outer s H E hr=>@UA _ _ _ _ _ _ aI4 aJ6 aHv cdv A outer s H E hr) (fun ts t h=>bC h)
abbrev pA:Stmt:=top 10
theorem zD:FnScope ["hands","group","hand"] ["hands"] (defScope pA):=⟨rfl,rfl,rfl,by decide +kernel,rfl,by decide +kernel,by decide +kernel⟩
def uV:Rho->Option Out:=
 aO 1 (f2 (aA 1) (f2 (fC (.int 1)) (aA 2) cJ) oOr)
def uU:Rho->Option Out:=
 aH (aO 1 (fC (.int 0)))
  (aH (bW 2 (fFL (aA 0))
  uV)
  (aP (f1 (aA 1) bF)))
def jG:List T->Option T:=Fof 1 2 uU
theorem OM (t0:T):jG [t0]=(uU [some t0,none,none]).bind aZ:=rfl
theorem TX (cdv:Value) (A:Around) (outer:List Env) (s:Shared) (H:Hp) (E:XK)
  (hr:Room 0 (A.deeper (envOfC "group_of" (defScope pA) s.heap.objs.size f cdv))):
  GSs (aQ CX0 P w K mg base ["hands","group","hand"] "group_of" (defScope pA) f cdv A outer s H E).nox H [1,1,1] false 3 (defBody pA) uU:=by
 have hu:=hr.units;unfold uU uV;exact @aI _ _ _ _ _ _ _ _ _ (@aU _ _ _ _ _ _ _ _ _ _ _ _ 1 ge_int zD.nd (by rfl) (Or.inl (by rfl)) (by rfl) (by rfl) (by trivial)) (@aI _ _ _ _ _ _ _ _ _ (@cA _ _ _ _ _ _ _ _ _ 2 _ _ _ _ _ PassesOwn.never (by rfl) (eA (aB 0)) zD.nd (by rfl) (Or.inl (by rfl)) (@aJ _ _ _ _ _ _ _ (@aU _ _ _ _ _ _ _ _ _ _ _ _ 1 (@rY _ _ _ _ _ _ _ _ _ _ _ _ (aB 1) (@dR _ _ _ _ _ _ _ _ _ _ _ _ ge_int (aB 2))) zD.nd (by rfl) (Or.inl (by rfl)) (by rfl) (by rfl) (by trivial))) (by rfl) (by intro _;rfl) (by trivial)) (@aJ _ _ _ _ _ _ _ (@aT _ _ _ _ _ _ _ _ (@aX _ _ _ _ _ _ _ _ _ (@GE.sc _ _ _ _ _ _ _ (aB 1)) (by rfl)))))
theorem aBq {fd:FuncData}(Fu:Fun K "group_of" "group_of" pA f fd):
  FnOk P w K mg base CX0 1 f fd ["hands"] (spT K jG false 3):=
 gfn Fu zD rfl (by decide) (fun ts t h=>bB h) (fun cdv A outer s H E hr=>@TX _ _ _ _ _ _  cdv A outer s H E hr) (fun ts t h=>bC h)
abbrev pI:Stmt:=top 30
theorem rC:FnScope ["prices","levels","chain","level","lower","group"] ["prices"] (defScope pI):=⟨rfl,rfl,rfl,by decide +kernel,rfl,by decide +kernel,by decide +kernel⟩
def yY:Rho->Option Bool:=
 fB (f2 (aA 1) (aA 2) oGe)
def yX:Rho->Option T:=
 f1 (aA 0) bF
def vG:Rho->Option Out:=
 aH (aO 5 (f1 (aG (aC (mD [0,1] (mE (fFL (aA 0))) [none,none,some 3] yY yX) aE) jG) bF))
  (tD 2 (qC (aC (f1 (aA 5) bF) (aC (f2 (aA 3) (aA 4) cZ) aE))))
def vF:Rho->Option Out:=
 aH (aO 1 (f1 (aA 0) sN))
  (aH (dA 2 (fK aE))
  (aH (yB [3,4] (rQ (fFL (aA 1)) (fFL (f2 (wH (aA 1) (sP (fC (.int 1))) qQ qQ) (fC (.lst (tI [0]))) qN)))
  vG)
  (aP (fM 2))))
def kW:List T->Option T:=Fof 1 5 vF
theorem PN (t0:T):kW [t0]=(vF [some t0,none,none,none,none,none]).bind aZ:=rfl
theorem UH (aJ5:Cal P w K mg base "group_of" 1 ["hands"] jG false 3) (aI5:mg "list" = none) (aJ9:mg "reversed" = none) (aI8:mg "sorted" = none) (aJs:mg "set" = none) (aJe:mg "zip" = none) (aHw:mg "enumerate" = none) (cdv:Value) (A:Around) (outer:List Env) (s:Shared) (H:Hp) (E:XK)
  (hr:Room 1 (A.deeper (envOfC "price_chain" (defScope pI) s.heap.objs.size f cdv))):
  GSs (aQ CX0 P w K mg base ["prices","levels","chain","level","lower","group"] "price_chain" (defScope pI) f cdv A outer s H E).nox H [1,1,0,1,1,1] true 3 (defBody pI) vF:=by
 have hu:=hr.units;unfold vF vG yX yY;exact @aI _ _ _ _ _ _ _ _ _ (@aU _ _ _ _ _ _ _ _ _ _ _ _ 1 (@VR _ _ _ _ _ _ _ _ _ _ _ _ _ _ _ _ _ _ _ (by rfl) (by rfl) (by rfl) (by rfl) (by rfl) (by rfl) aI5 (by rfl) aJ9 (by rfl) aI8 (by rfl) aJs (aB 0) (by rfl) (by rfl) (by rfl) (by rfl)) rC.nd (by rfl) (Or.inl (by rfl)) (by rfl) (by rfl) (by trivial)) (@aI _ _ _ _ _ _ _ _ _ (@gZ _ _ _ _ _ _ _ _ _ _ _ 2 (@gK _ _ _ _ _ _ _ aF) rC.nd (by rfl) (Or.inl (by rfl)) (by rfl) (by rfl) (by trivial)) (@aI _ _ _ _ _ _ _ _ _ (@GP _ _ _ _ _ _ _ _ _ _ _ [3 ,4] _ _ _ _ _ PassesOwn.never (by rfl) (@FZ _ _ _ _ _ _ _ _ _ _ _ _ _ _ _ _ _ (by rfl) (by rfl) aJe (aB 1) (@VJ _ _ _ _ _ _ _ _ _ _ _ _ (@FV _ _ _ _ _ _ _ _ _ _ _ _ _ _ _ (aB 1) (@GF _ _ _ _ _ _ _ ge_int) wW wW (by intro _ _;first | exact⟨_,rfl⟩ | (refine⟨_,?_⟩;with_unfolding_all rfl))) (@wO _ _ _ _ _ ([ 0 ]) (by rfl) (by decide +kernel))) (by rfl) (by rfl)) (@eS _ _ _ _ _ _ rC.nd (by rfl) (Or.inr (by rfl)) (@eS _ _ _ _ _ _ rC.nd (by rfl) (Or.inl (by rfl)) (@qE _) (by trivial) (by rfl)) (by trivial) (by rfl)) (@aI _ _ _ _ _ _ _ _ _ (@aU _ _ _ _ _ _ _ _ _ _ _ _ 5 (@GE.sc _ _ _ _ _ _ _ (aR aJ5 (hr.mono (by decide)) (by rfl) (aD (@wN _ _ _ _ _ _ _ _ _ _ _ _ _ _ _ _ _ _ _ _ _ _ _ (dO (by kernel_rfl) (N':=[ "hand" ,"price" ,"level" ]) (src:=[ none ,none ,some 3 ])) (wJ (by kernel_rfl) (fl':=[ 2 ,2 ,1 ]) (js:=[ 0 ,1 ])) (by decide) (by rfl) (@AZ _ _ _ _ _ _ _ _ _ _ _ _ _ (by rfl) (by rfl) aHw (aB 0) (by rfl)) (fun cl C s H ex=>@pgT _ _ _ (2) _ _ (by rfl) (@eS _ _ _ _ _ _ (fV (by kernel_rfl)) (by rfl) (Or.inl (by rfl)) (@eS _ _ _ _ _ _ (fV (by kernel_rfl)) (by rfl) (Or.inl (by rfl)) (@qE _) (by trivial) (by rfl)) (by trivial) (by rfl)) (by rfl) (by rfl)) (by rfl) (fun cl C s H ex=>⟨@wV _ _ _ _ _ (@GY _ _ _ _ _ _ _ _ _ _ _ _ (aB 1) (aB 2)),@GE.sc _ _ _ _ _ _ _ (aB 0)⟩) (by intro _;rfl)) aF))) rC.nd (by rfl) (Or.inl (by rfl)) (by rfl) (by rfl) (by trivial)) (@aJ _ _ _ _ _ _ _ (@BA _ _ _ _ _ _ _ _ _ _ _ _ 2 _ _ (@VZ _ _ _ _ _ _ _ _ (aD (@GE.sc _ _ _ _ _ _ _ (aB 5)) (aD (@dI _ _ _ _ _ _ _ _ _ _ _ _ (aB 3) (aB 4)) aF))) (by rfl) (by rfl) (by trivial) (by decide) (by decide) (by rfl) (by rfl) (by rfl) (by rfl) (by rfl)))) (by rfl) (by rfl) (by rfl) (by rfl) (by rfl) (by intro _;rfl)) (@aJ _ _ _ _ _ _ _ (@aT _ _ _ _ _ _ _ _ (@jL _ _ _ _ _ _ _ 2 (by rfl) (by trivial) (by rfl) (by decide) (by decide))))))
theorem aC0 {fd:FuncData}(aJ5:Cal P w K mg base "group_of" 1 ["hands"] jG false 3) (aI5:mg "list" = none) (aJ9:mg "reversed" = none) (aI8:mg "sorted" = none) (aJs:mg "set" = none) (aJe:mg "zip" = none) (aHw:mg "enumerate" = none) (Fu:Fun K "price_chain" "price_chain" pI f fd):
  FnOk P w K mg base CX0 2 f fd ["prices"] (spT K kW true 3):=
 gfn Fu rC rfl (by decide) (fun ts t h=>bB h) (fun cdv A outer s H E hr=>@UH _ _ _ _ _ _ aJ5 aI5 aJ9 aI8 aJs aJe aHw cdv A outer s H E hr) (fun ts t h=>bC h)
abbrev pE:Stmt:=top 33
theorem aF9:FnScope ["table","prices","shares"] ["table","prices","shares"] (defScope pE):=⟨rfl,rfl,rfl,by decide +kernel,rfl,by decide +kernel,by decide +kernel⟩
def uZ:Rho->Option T:=
 f2 (aG (aC (aA 2) (aC (aA 0) aE)) dZ) (f2 (aA 3) (aA 0) oIx) oEq
def uY:Rho->Option Out:=
 aH (rIf (gQ (fT (aG (aC (aA 0) (aC (aA 2) aE)) jH))) (aP (fC (.bl false))) bO)
  (aP (aG (aC (mD [0,1] (fFL (aG (aC (aA 1) aE) kW)) [none,none,some 2,some 0] bI uZ) aE) sL))
def kP:List T->Option T:=Fof 3 0 uY
theorem OQ (t0 t1 t2:T):kP [t0,t1,t2]=(uY [some t0,some t1,some t2]).bind aZ:=rfl
theorem UB (aJg:Cal P w K mg base "is_base" 6 ["table","shares"] jH false 3) (aId:Cal P w K mg base "price_chain" 2 ["prices"] kW true 3) (aHv:Cal P w K mg base "row_gives" 2 ["row","group"] dZ false 3) (aJa:mg "all" = none) (cdv:Value) (A:Around) (outer:List Env) (s:Shared) (H:Hp) (E:XK)
  (hr:Room 6 (A.deeper (envOfC "is_best" (defScope pE) s.heap.objs.size f cdv))):
  GSs (aQ CX0 P w K mg base ["table","prices","shares"] "is_best" (defScope pE) f cdv A outer s H E).nox H [1,1,1] false 3 (defBody pE) uY:=by
 have hu:=hr.units;unfold uY uZ;exact @aI _ _ _ _ _ _ _ _ _ (@bS _ _ _ _ _ _ _ _ _ _ _ _ (@mO _ _ _ _ _ _ (@eU _ _ _ _ _ _ _ (aR aJg (hr.mono (by decide)) (by rfl) (aD (aB 0) (aD (aB 2) aF))) (by intro _;rfl))) (@aJ _ _ _ _ _ _ _ (@aT _ _ _ _ _ _ _ _ (@aX _ _ _ _ _ _ _ _ _ eF (by rfl)))) bU) (@aJ _ _ _ _ _ _ _ (@aT _ _ _ _ _ _ _ _ (@aX _ _ _ _ _ _ _ _ _ (FS (by rfl) (by rfl) (by rfl) aJa (aD (@wN _ _ _ _ _ _ _ _ _ _ _ _ _ _ _ _ _ _ _ _ _ _ _ (dO (by kernel_rfl) (N':=[ "group" ,"step" ,"shares" ,"table" ]) (src:=[ none ,none ,some 2 ,some 0 ])) (wJ (by kernel_rfl) (fl':=[ 2 ,2 ,1 ,1 ]) (js:=[ 0 ,1 ])) (by decide) (by rfl) (eA (aR aId (hr.mono (by decide)) (by rfl) (aD (aB 1) aF))) (fun cl C s H ex=>@pgT _ _ _ (2) _ _ (by rfl) (@eS _ _ _ _ _ _ (fV (by kernel_rfl)) (by rfl) (Or.inl (by rfl)) (@eS _ _ _ _ _ _ (fV (by kernel_rfl)) (by rfl) (Or.inl (by rfl)) (@qE _) (by trivial) (by rfl)) (by trivial) (by rfl)) (by rfl) (by rfl)) (by rfl) (fun cl C s H ex=>⟨fP,@rX _ _ _ _ _ _ _ _ _ _ _ _ hu (aR aHv (hr.mono (by decide)) (by rfl) (aD (aB 2) (aD (aB 0) aF))) (@aW _ _ _ _ _ _ _ _ _ _ _ _ (aB 3) (aB 0) (by exact fun _ _=>rfl))⟩) (by intro _;rfl)) aF)) (by rfl))))
theorem aBu {fd:FuncData}(aJg:Cal P w K mg base "is_base" 6 ["table","shares"] jH false 3) (aId:Cal P w K mg base "price_chain" 2 ["prices"] kW true 3) (aHv:Cal P w K mg base "row_gives" 2 ["row","group"] dZ false 3) (aJa:mg "all" = none) (Fu:Fun K "is_best" "is_best" pE f fd):
  FnOk P w K mg base CX0 7 f fd ["table","prices","shares"] (spT K kP false 3):=
 gfn Fu aF9 rfl (by decide) (fun ts t h=>bB h) (fun cdv A outer s H E hr=>@UB _ _ _ _ _ _ aJg aId aHv aJa cdv A outer s H E hr) (fun ts t h=>bC h)
def tJ:Rho->Option (Out ⊕ Str):=
 xIf (gQ (fT (aG (aC (aA 0) aE) eO))) (zL "NotFalling" (aC (fC (.str "the table does not fall")) aE)) (xOf bO)
def jC:List T->Option (T ⊕ Str):=pT 1 0 tJ
theorem NG (t0:T):jC [t0]=(tJ [some t0]).bind sV:=rfl
theorem SN (aIh:Cal P w K mg base "falls" 4 ["table"] eO false 3) (aIg:RaiseK K mg base "NotFalling") (cdv:Value) (A:Around) (outer:List Env) (s:Shared) (H:Hp) (E:XK)
  (hr:Room 4 (A.deeper (envOfC "must_fall" (defScope fY) s.heap.objs.size f cdv))):
  fJ (aQ (CX1 P w) P w K mg base ["table"] "must_fall" (defScope fY) f cdv A outer s H E) H [1] false 3 (defBody fY) tJ:=by
 have hu:=hr.units;unfold tJ;exact @GX _ _ _ _ _ _ _ (@WW _ _ _ _ _ _ _ _ _ _ _ _ (@mO _ _ _ _ _ _ (@eU _ _ _ _ _ _ _ (aR aIh (hr.mono (by decide)) (by rfl) (aD (aB 0) aF)) (by intro _;rfl))) (@GX _ _ _ _ _ _ _ (@WY _ _ _ _ _ _ _ _ _ _ _ _ _ aIg (by rfl) (by rfl) (by rfl) (aD mI aF) (by decide) (by rfl) (by rfl))) WT)
theorem aB0 {fd:FuncData}(aIh:Cal P w K mg base "falls" 4 ["table"] eO false 3) (aIg:RaiseK K mg base "NotFalling") (Fu:Fun K "must_fall" "must_fall" fY f fd):
  FnOk P w K mg base (CX1 P w) 5 f fd ["table"] (spX K jC false 3):=
 WC Fu LQ rfl (by decide) (fun ts t h=>DU h) (fun cdv A outer s H E hr=>@SN _ _ _ _ _ _ aIh aIg cdv A outer s H E hr) (fun ts t h=>DV h)
def tH:Rho->Option (Out ⊕ Str):=
 DI (DH (aC (aA 0) aE) jC)
  (xOf (aP (aG (aC (aA 0) (aC (aG (aC (aA 1) aE) gF) aE)) gC)))
def jY:List T->Option (T ⊕ Str):=pT 2 0 tH
theorem NE (t0 t1:T):jY [t0,t1]=(tH [some t0,some t1]).bind sV:=rfl
theorem SM (aHy:CalP P w K mg base Pt bQ "price_order" 1 ["prices"] gF true 3) (aI6:Cal P w K mg base "by_order" 2 ["table","order"] gC true 3) (aJ2:CalX P w K mg base "must_fall" 5 ["table"] jC false 3 []) (cdv:Value) (A:Around) (outer:List Env) (s:Shared) (H:Hp) (E:XK) (hP:H Pt=some bQ)
  (hr:Room 5 (A.deeper (envOfC "best_base" (defScope fX) s.heap.objs.size f cdv))):
  fJ (aQ (CX1 P w) P w K mg base ["table","prices"] "best_base" (defScope fX) f cdv A outer s H E) H [1,1] true 3 (defBody fX) tH:=by
 have hu:=hr.units;unfold tH;exact @WS _ _ _ _ _ _ _ _ _ (@WV _ _ _ _ _ _ _ _ _ _ _ _ _ _ _ _ _ aJ2 (hr.mono (by decide)) (by rfl) (by rfl) _ (aD (aB 0) aF) (by rfl) (by decide) (by rfl) (by rfl)) (@WU _ _ _ _ _ _ _ (@aJ _ _ _ _ _ _ _ (@aT _ _ _ _ _ _ _ _ (@aX _ _ _ _ _ _ _ _ _ (aR aI6 (hr.mono (by decide)) (by rfl) (aD (aB 0) (aD (wM aHy hP (hr.mono (by decide)) (by rfl) (aD (aB 1) aF)) aF))) (by rfl)))))
theorem aAz {fd:FuncData}(aHy:CalP P w K mg base Pt bQ "price_order" 1 ["prices"] gF true 3) (aI6:Cal P w K mg base "by_order" 2 ["table","order"] gC true 3) (aJ2:CalX P w K mg base "must_fall" 5 ["table"] jC false 3 []) (Fu:Fun K "best_base" "best_base" fX f fd):
  FnOk P w K mg base (CX1 P w) 6 f fd ["table","prices"] (spP Pt bQ (spX K jY true 3)):=
 WD Fu LO rfl (by decide) (fun ts t h=>DU h) (fun cdv A outer s H E hP hr=>SM aHy aI6 aJ2 cdv A outer s H E hP hr) (fun ts t h=>DV h)
abbrev nR:Stmt:=top 53
theorem qZ:FnScope ["table","prices","caught","e"] ["table","prices"] (defScope nR):=⟨rfl,rfl,rfl,by decide +kernel,rfl,by decide +kernel,by decide +kernel⟩
def uL:Rho->Option Out:=
 aH (aO 2 (fC (.str "none")))
  (aH (CN 3 (zU [] (aC (aA 0) (aC (aA 1) aE))) jY ["NotFalling"] (aH (aO 2 (fC (.str "other")))
  (aH (rIf (sX (fT (f1 (aA 3) (hU [("NotFalling",true)]))) (fT (f1 (aA 3) (hU [("NotFalling",true)])))) (aO 2 (fC (.str "falling"))) bO)
  (rIf (fT (f1 (aA 3) (hU [("NotFalling",false)]))) (aO 2 (fC (.str "other"))) bO))))
  (aP (f1 (aA 2) bF)))
def kK:List T->Option T:=Fof 2 2 uL
theorem NW (t0 t1:T):kK [t0,t1]=(uL [some t0,some t1,none,none]).bind aZ:=rfl
theorem TL (aJ1:CalXP P w K mg base Pt bQ "best_base" 6 ["table","prices"] jY true 3 []) (aIe:dG K mg "NotFalling" [("NotFalling",true)]) (aIf:rH K "ValueError" [("NotFalling",true)]) (aJi:dG K mg "Unlike" [("NotFalling",false)]) (aJ0:dG K mg "NotUnder" [("NotFalling",false)]) (aIo:dG K mg "NotRising" [("NotFalling",false)]) (aJ8:dG K mg "NotBase" [("NotFalling",false)]) (aIz:dG K mg "BadTable" [("NotFalling",false)]) (aIp:TryK K mg "CostError" ["NotFalling"]) (aHu:mg "isinstance" = none) (aIq:mg "ValueError" = none) (cdv:Value) (A:Around) (outer:List Env) (s:Shared) (H:Hp) (E:XK) (hP:H Pt=some bQ)
  (hr:Room 6 (A.deeper (envOfC "_law_word" (defScope nR) s.heap.objs.size f cdv))):
  GSs (aQ CX0 P w K mg base ["table","prices","caught","e"] "_law_word" (defScope nR) f cdv A outer s H E).nox H [1,1,1,1] false 3 (defBody nR) uL:=by
 have hu:=hr.units;unfold uL;exact @aI _ _ _ _ _ _ _ _ _ (@aU _ _ _ _ _ _ _ _ _ _ _ _ 2 mI qZ.nd (by rfl) (Or.inl (by rfl)) (by rfl) (by rfl) (by trivial)) (@aI _ _ _ _ _ _ _ _ _ (WR aJ1 hP hd0 XH aIp (hr.mono (by decide)) (by rfl) (by rfl) (by rfl) (aD (aB 0) (aD (aB 1) aF)) (by rfl) (by rfl) qZ.nd (by rfl) (by rfl) (by rfl) (fun a=>@aI _ _ _ _ _ _ _ _ _ (@aU _ _ _ _ _ _ _ _ _ _ _ _ 2 mI qZ.nd (by rfl) (Or.inl (by rfl)) (by rfl) (by rfl) (by trivial)) (@aI _ _ _ _ _ _ _ _ _ (@bS _ _ _ _ _ _ _ _ _ _ _ _ (@GW.gt _ _ _ _ _ (@BE _ _ _ _ _ _ _ _ _ (@eU _ _ _ _ _ _ _ (@VP _ _ _ _ _ _ _ _ _ _ _ _ _ (by rfl) (by rfl) aHu (by rfl) aIe (aB 3) (by decide) (by rfl) (by rfl) (by rfl)) (by intro _;rfl)) (@BF _ _ _ _ _ _ (@eU _ _ _ _ _ _ _ (@VO _ _ _ _ _ _ _ _ _ _ _ _ _ _ (by rfl) (by rfl) aHu (by rfl) aIq (by kernel_rfl) aIf (aB 3) (by decide) (by decide) (by rfl) (by rfl) (by rfl)) (by intro _;rfl))))) (@aJ _ _ _ _ _ _ _ (@aU _ _ _ _ _ _ _ _ _ _ _ _ 2 mI qZ.nd (by rfl) (Or.inl (by rfl)) (by rfl) (by rfl) (by trivial))) bU) (@aJ _ _ _ _ _ _ _ (@bS _ _ _ _ _ _ _ _ _ _ _ _ (@eU _ _ _ _ _ _ _ (VN (by rfl) (by rfl) aHu (rP (by rfl) aIz (rP (by rfl) aJ8 (rP (by rfl) aIo (rP (by rfl) aJ0 (rP (by rfl) aJi RU))))) (by rfl) (by decide) (aB 3)) (by intro _;rfl)) (@aJ _ _ _ _ _ _ _ (@aU _ _ _ _ _ _ _ _ _ _ _ _ 2 mI qZ.nd (by rfl) (Or.inl (by rfl)) (by rfl) (by rfl) (by trivial))) bU))))) (@aJ _ _ _ _ _ _ _ (@aT _ _ _ _ _ _ _ _ (@aX _ _ _ _ _ _ _ _ _ (@GE.sc _ _ _ _ _ _ _ (aB 2)) (by rfl)))))
theorem aBi {fd:FuncData}(aJ1:CalXP P w K mg base Pt bQ "best_base" 6 ["table","prices"] jY true 3 []) (aIe:dG K mg "NotFalling" [("NotFalling",true)]) (aIf:rH K "ValueError" [("NotFalling",true)]) (aJi:dG K mg "Unlike" [("NotFalling",false)]) (aJ0:dG K mg "NotUnder" [("NotFalling",false)]) (aIo:dG K mg "NotRising" [("NotFalling",false)]) (aJ8:dG K mg "NotBase" [("NotFalling",false)]) (aIz:dG K mg "BadTable" [("NotFalling",false)]) (aIp:TryK K mg "CostError" ["NotFalling"]) (aHu:mg "isinstance" = none) (aIq:mg "ValueError" = none) (Fu:Fun K "_law_word" "_law_word" nR f fd):
  FnOk P w K mg base CX0 7 f fd ["table","prices"] (spP Pt bQ (spT K kK false 3)):=
 AY Fu qZ rfl (by decide) (fun ts t h=>bB h) (fun cdv A outer s H E hP hr=>TL aJ1 aIe aIf aJi aJ0 aIo aJ8 aIz aIp aHu aIq cdv A outer s H E hP hr) (fun ts t h=>bC h)
abbrev nE:Stmt:=top 52
theorem qY:FnScope ["table","hands","group","free","one","other","both"] ["table","hands"] (defScope nE):=⟨rfl,rfl,rfl,by decide +kernel,rfl,by decide +kernel,by decide +kernel⟩
def tU:Rho->Option Bool:=
 fB (f2 (f2 (f2 (aA 1) (aA 0) jR) (fC (.int 1)) jP) (fC (.int 0)) oEq)
def tR:Rho->Option T:=
 f2 (fC (.int 1)) (aA 0) cJ
def tV:Rho->Option Bool:=
 fB (f2 (aA 0) (aA 1) oGt)
def tT:Rho->Option T:=
 f1 (aA 0) bF
def qT:Rho->Option Out:=
 aH (aO 6 (f2 (f2 (aA 0) (f2 (f2 (aA 2) (aA 4) bM) (aA 5) bM) oIx) (f2 (aA 0) (aA 2) oIx) bM))
  (rIf (fB (f2 (f2 (f2 (aA 0) (f2 (aA 2) (aA 4) bM) oIx) (f2 (aA 0) (f2 (aA 2) (aA 5) bM) oIx) bM) (aA 6) oLt)) (aP (fC (.bl false))) bO)
def jV:Rho->Option Out:=
 bW 5 (fFL (cW (fFL (aA 3)) [none,some 4] tV tT))
  qT
def mY:Rho->Option Out:=
 aH (aO 3 (cW (bY (aC (aA 1) aE) cI) [none,some 2] tU tR))
  (bW 4 (fFL (aA 3))
  jV)
def tQ:Rho->Option Out:=
 aH (bW 2 (bY (aC (aG (aC (aA 0) aE) cH) aE) cI)
  mY)
  (aP (fC (.bl true)))
def kD:List T->Option T:=Fof 2 5 tQ
theorem NL (t0 t1:T):kD [t0,t1]=(tQ [some t0,some t1,none,none,none,none,none]).bind aZ:=rfl
theorem ST (aHs:mg "len" = none) (aHr:mg "range" = none) (cdv:Value) (A:Around) (outer:List Env) (s:Shared) (H:Hp) (E:XK)
  (hr:Room 0 (A.deeper (envOfC "_law_falls" (defScope nE) s.heap.objs.size f cdv))):
  GSs (aQ CX0 P w K mg base ["table","hands","group","free","one","other","both"] "_law_falls" (defScope nE) f cdv A outer s H E).nox H [1,1,1,1,1,1,1] false 3 (defBody nE) tQ:=by
 have hu:=hr.units;unfold tQ mY jV qT tT tV tR tU;exact @aI _ _ _ _ _ _ _ _ _ (@cA _ _ _ _ _ _ _ _ _ 2 _ _ _ _ _ PassesOwn.never (by rfl) (dS (by rfl) (by rfl) aHr (aD (dC (by rfl) (by rfl) aHs (aD (aB 0) aF)) aF)) qY.nd (by rfl) (Or.inr (by rfl)) (@aI _ _ _ _ _ _ _ _ _ (@WQ _ _ _ _ _ _ _ _ _ _ _ _ _ _ _ _ _ _ _ _ _ _ _ _ _ 3 (dO (by kernel_rfl) (N':=[ "hand" ,"group" ]) (src:=[ none ,some 2 ])) (fN (by kernel_rfl) (fl':=[ 2 ,1 ])) (by rfl) (dS (by rfl) (by rfl) aHr (aD (aB 1) aF)) (by rfl) (by rfl) (fun cl C s H ex=>⟨@wV _ _ _ _ _ (@qF _ _ _ _ _ _ _ _ _ _ _ _ hu (@qD _ _ _ _ _ _ _ _ _ _ _ _ (@wS _ _ _ _ _ _ _ _ _ _ _ _ (aB 1) (aB 0)) ge_int) ge_int),@dR _ _ _ _ _ _ _ _ _ _ _ _ ge_int (aB 0)⟩) qY.nd (by rfl) (Or.inl (by rfl)) (by rfl) (by rfl) (by intro _;rfl) (by trivial)) (@aJ _ _ _ _ _ _ _ (@cA _ _ _ _ _ _ _ _ _ 4 _ _ _ _ _ PassesOwn.never (by rfl) (eA (aB 3)) qY.nd (by rfl) (Or.inr (by rfl)) (@aJ _ _ _ _ _ _ _ (@cA _ _ _ _ _ _ _ _ _ 5 _ _ _ _ _ PassesOwn.never (by rfl) (eA (@rW _ _ _ _ _ _ _ _ _ _ _ _ _ _ _ _ _ _ _ _ (dO (by kernel_rfl) (N':=[ "more" ,"one" ]) (src:=[ none ,some 4 ])) (fN (by kernel_rfl) (fl':=[ 2 ,1 ])) (by decide) (by rfl) (eA (aB 3)) (by rfl) (by rfl) (fun cl C s H ex=>⟨@wV _ _ _ _ _ (@wY _ _ _ _ _ _ _ _ _ _ _ _ (aB 0) (aB 1)),@GE.sc _ _ _ _ _ _ _ (aB 0)⟩) (by intro _;rfl))) qY.nd (by rfl) (Or.inl (by rfl)) (@aI _ _ _ _ _ _ _ _ _ (@aU _ _ _ _ _ _ _ _ _ _ _ _ 6 (@bN _ _ _ _ _ _ _ _ _ _ _ _ (@aW _ _ _ _ _ _ _ _ _ _ _ _ (aB 0) (@bN _ _ _ _ _ _ _ _ _ _ _ _ (@bN _ _ _ _ _ _ _ _ _ _ _ _ (aB 2) (aB 4)) (aB 5)) (by exact fun _ _=>rfl)) (@aW _ _ _ _ _ _ _ _ _ _ _ _ (aB 0) (aB 2) (by exact fun _ _=>rfl))) qY.nd (by rfl) (Or.inl (by rfl)) (by rfl) (by rfl) (by trivial)) (@aJ _ _ _ _ _ _ _ (@bS _ _ _ _ _ _ _ _ _ _ _ _ (@wZ _ _ _ _ _ _ _ _ _ _ _ _ (@bN _ _ _ _ _ _ _ _ _ _ _ _ (@aW _ _ _ _ _ _ _ _ _ _ _ _ (aB 0) (@bN _ _ _ _ _ _ _ _ _ _ _ _ (aB 2) (aB 4)) (by exact fun _ _=>rfl)) (@aW _ _ _ _ _ _ _ _ _ _ _ _ (aB 0) (@bN _ _ _ _ _ _ _ _ _ _ _ _ (aB 2) (aB 5)) (by exact fun _ _=>rfl))) (aB 6)) (@aJ _ _ _ _ _ _ _ (@aT _ _ _ _ _ _ _ _ (@aX _ _ _ _ _ _ _ _ _ eF (by rfl)))) bU))) (by rfl) (by intro _;rfl) (by trivial))) (by rfl) (by intro _;rfl) (by trivial)))) (by rfl) (by intro _;rfl) (by trivial)) (@aJ _ _ _ _ _ _ _ (@aT _ _ _ _ _ _ _ _ (@aX _ _ _ _ _ _ _ _ _ eF (by rfl))))
theorem aB5 {fd:FuncData}(aHs:mg "len" = none) (aHr:mg "range" = none) (Fu:Fun K "_law_falls" "_law_falls" nE f fd):
  FnOk P w K mg base CX0 1 f fd ["table","hands"] (spT K kD false 3):=
 gfn Fu qY rfl (by decide) (fun ts t h=>bB h) (fun cdv A outer s H E hr=>@ST _ _ _ _ _ _ aHs aHr cdv A outer s H E hr) (fun ts t h=>bC h)
abbrev gT:Stmt:=top 54
theorem gU:FnScope ["script","hands","table","prices","lent","turn","found","weight","spoilt","at"] ["script"] (defScope gT):=⟨rfl,rfl,rfl,by decide +kernel,rfl,by decide +kernel,by decide +kernel⟩
def yV:Rho->Option Out:=
 aH (dA 6 (aG (aC (f2 (aA 4) (fC (.int 0)) oIx) (aC (f2 (aA 4) (fC (.int 1)) oIx) aE)) kM))
  (aH (rIf (pOr (gQ (fT (aG (aC (aA 6) (aC (aA 1) aE)) kG))) (gQ (fT (aG (aC (aA 2) (aC (aA 6) aE)) jZ)))) (aP (fC (.bl false))) bO)
  (aH (rIf (fB (f2 (aA 6) (aG (aC (aA 2) (aC (aG (aC (aA 3) aE) fH) aE)) kA) oNe)) (aP (fC (.bl false))) bO)
  (aH (rIf (fB (f2 (aA 4) (fK (aC (aA 2) (aC (aA 3) aE))) oNe)) (aP (fC (.bl false))) bO)
  (aH (aO 7 (f1 (aG (aC (aA 6) (aC (f2 (aA 4) (fC (.int 1)) oIx) aE)) jI) bF))
  (aH (rIf (pOr (gQ (fT (aG (aC (aA 7) aE) gB))) (fB (f2 (aA 7) (aG (aC (aA 2) (aC (aA 3) aE)) kL) oNe))) (aP (fC (.bl false))) bO)
  (aH (rIf (fB (f2 (aA 7) (aG (aC (aA 6) (aC (aA 3) aE)) jF) oNe)) (aP (fC (.bl false))) bO)
  (aH (rIf (pOr (fB (f2 (aG (aC (f2 (aA 4) (fC (.int 0)) oIx) (aC (f2 (aA 4) (fC (.int 1)) oIx) (aC (aA 6) aE))) kP) (fC (.bl true)) sM)) (fB (f2 (aA 4) (fK (aC (aA 2) (aC (aA 3) aE))) oNe))) (aP (fC (.bl false))) bO)
  (tD 6 (fC (.int 1))))))))))
def vB:Rho->Option Out:=
 aH (aO 1 (f1 (aG (aC (aA 0) aE) kF) bF))
  (aH (aO 2 (aG (aC (aA 0) (aC (aA 1) aE)) kB))
  (aH (aO 3 (aG (aC (aA 0) (aC (aA 1) (aC (fC (.int 1)) aE))) jE))
  (aH (aO 4 (fK (aC (f1 (aG (aC (aA 2) aE) mV) mH) (aC (f1 (aG (aC (aA 3) aE) mV) mH) aE))))
  (aH (bW 5 (bY (aC (fC (.int 2)) aE) cI)
  yV)
  (aH (dA 8 (f1 (aG (aC (aA 2) aE) mV) mH))
  (aH (aO 9 (f2 (fC (.int 1)) (f2 (aG (aC (aA 0) (aC (fC (.int 2)) aE)) bX) (f2 (aG (aC (aA 2) aE) cH) (fC (.int 1)) cZ) aY) bM))
  (aH (hZ 8 (aA 9) (f2 (f2 (aA 8) (aA 9) oIx) (f2 (fK (aC (f1 (fC (.int 1)) hV) (aC (fC (.int 1)) (aC (f1 (f2 (fC (.int 10)) (fC (.int 60)) cD) hV) (aC (f2 (fC (.int 10)) (fC (.int 60)) cD) aE))))) (f2 (aG (aC (aA 0) (aC (fC (.int 1)) aE)) bX) (fC (.int 4)) aY) oIx) bM))
  (aP (f2 (aG (aC (aG (aC (aA 8) aE) mV) (aC (aA 3) aE)) kK) (f2 (fK (aC (fC (.str "falling")) (aC (fC (.str "none")) aE))) (aG (aC (aG (aC (aA 8) (aC (aA 1) aE)) kD) aE) xM) oIx) oEq)))))))))
def pS:List T->Option T:=Fof 1 9 vB
theorem OS (t0:T):pS [t0]=(vB [some t0,none,none,none,none,none,none,none,none,none]).bind aZ:=rfl
theorem UD (aIj:Cal P w K mg base "_law_hands" 2 ["script"] kF false 3) (aI9:Cal P w K mg base "_law_falling" 3 ["script","hands"] kB true 3) (aIc:Cal P w K mg base "_law_prices" 2 ["script","hands","start"] jE true 3) (aIv:CalP P w K mg base Pt bQ "best_base" 6 ["table","prices"] kM true 3) (aJ3:Cal P w K mg base "_law_row" 2 ["found","hands"] kG false 3) (aIs:Cal P w K mg base "_law_base" 3 ["table","shares"] jZ false 3) (aI1:Cal P w K mg base "_law_order" 1 ["prices"] fH true 3) (aJf:Cal P w K mg base "_law_by" 1 ["table","order"] kA true 3) (aIy:Cal P w K mg base "weight_of" 1 ["shares","prices"] jI false 3) (aI2:Cal P w K mg base "_law_whole" 1 ["found"] gB false 3) (aIn:Cal P w K mg base "_law_worth" 2 ["table","prices"] kL false 3) (aIm:Cal P w K mg base "_law_weigh" 1 ["shares","prices"] jF false 3) (aJh:Cal P w K mg base "is_best" 7 ["table","prices","shares"] kP false 3) (aHt:Cal P w K mg base "_law_cell" 1 ["script","k"] bX false 3) (aIu:CalP P w K mg base Pt bQ "_law_word" 7 ["table","prices"] kK false 3) (aIi:Cal P w K mg base "_law_falls" 1 ["table","hands"] kD false 3) (aI5:mg "list" = none) (aHr:mg "range" = none) (aHs:mg "len" = none) (aJb:mg "int" = none) (cdv:Value) (A:Around) (outer:List Env) (s:Shared) (H:Hp) (E:XK) (hP:H Pt=some bQ)
  (hr:Room 7 (A.deeper (envOfC "law" (defScope gT) s.heap.objs.size f cdv))):
  GSs (aQ CX0 P w K mg base ["script","hands","table","prices","lent","turn","found","weight","spoilt","at"] "law" (defScope gT) f cdv A outer s H E).nox H [1,1,1,1,1,1,0,1,0,1] false 3 (defBody gT) vB:=by
 have hu:=hr.units;unfold vB yV;exact @aI _ _ _ _ _ _ _ _ _ (@aU _ _ _ _ _ _ _ _ _ _ _ _ 1 (@GE.sc _ _ _ _ _ _ _ (aR aIj (hr.mono (by decide)) (by rfl) (aD (aB 0) aF))) gU.nd (by rfl) (Or.inl (by rfl)) (by rfl) (by rfl) (by trivial)) (@aI _ _ _ _ _ _ _ _ _ (@aU _ _ _ _ _ _ _ _ _ _ _ _ 2 (aR aI9 (hr.mono (by decide)) (by rfl) (aD (aB 0) (aD (aB 1) aF))) gU.nd (by rfl) (Or.inl (by rfl)) (by rfl) (by rfl) (by trivial)) (@aI _ _ _ _ _ _ _ _ _ (@aU _ _ _ _ _ _ _ _ _ _ _ _ 3 (aR aIc (hr.mono (by decide)) (by rfl) (aD (aB 0) (aD (aB 1) (aD ge_int aF)))) gU.nd (by rfl) (Or.inl (by rfl)) (by rfl) (by rfl) (by trivial)) (@aI _ _ _ _ _ _ _ _ _ (@aU _ _ _ _ _ _ _ _ _ _ _ _ 4 (@gK _ _ _ _ _ _ _ (aD (@GE.flt _ _ _ _ _ _ (wP (by rfl) (by rfl) aI5 (aD (aB 2) aF))) (aD (@GE.flt _ _ _ _ _ _ (wP (by rfl) (by rfl) aI5 (aD (aB 3) aF))) aF))) gU.nd (by rfl) (Or.inl (by rfl)) (by rfl) (by rfl) (by trivial)) (@aI _ _ _ _ _ _ _ _ _ (@cA _ _ _ _ _ _ _ _ _ 5 _ _ _ _ _ PassesOwn.never (by rfl) (dS (by rfl) (by rfl) aHr (aD ge_int aF)) gU.nd (by rfl) (Or.inl (by rfl)) (@aI _ _ _ _ _ _ _ _ _ (@gZ _ _ _ _ _ _ _ _ _ _ _ 6 (wM aIv hP (hr.mono (by decide)) (by rfl) (aD (@aW _ _ _ _ _ _ _ _ _ _ _ _ (aB 4) ge_int (by exact fun _ _=>rfl)) (aD (@aW _ _ _ _ _ _ _ _ _ _ _ _ (aB 4) ge_int (by exact fun _ _=>rfl)) aF))) gU.nd (by rfl) (Or.inl (by rfl)) (by rfl) (by rfl) (by trivial)) (@aI _ _ _ _ _ _ _ _ _ (@bS _ _ _ _ _ _ _ _ _ _ _ _ (@GW.gt _ _ _ _ _ (@xB _ _ _ _ _ _ _ _ _ (@mO _ _ _ _ _ _ (@eU _ _ _ _ _ _ _ (aR aJ3 (hr.mono (by decide)) (by rfl) (aD (aB 6) (aD (aB 1) aF))) (by intro _;rfl))) (@xC _ _ _ _ _ _ (@mO _ _ _ _ _ _ (@eU _ _ _ _ _ _ _ (aR aIs (hr.mono (by decide)) (by rfl) (aD (aB 2) (aD (aB 6) aF))) (by intro _;rfl)))))) (@aJ _ _ _ _ _ _ _ (@aT _ _ _ _ _ _ _ _ (@aX _ _ _ _ _ _ _ _ _ eF (by rfl)))) bU) (@aI _ _ _ _ _ _ _ _ _ (@bS _ _ _ _ _ _ _ _ _ _ _ _ (@mL _ _ _ _ _ _ _ _ _ _ _ _ hu (aB 6) (aR aJf (hr.mono (by decide)) (by rfl) (aD (aB 2) (aD (aR aI1 (hr.mono (by decide)) (by rfl) (aD (aB 3) aF)) aF)))) (@aJ _ _ _ _ _ _ _ (@aT _ _ _ _ _ _ _ _ (@aX _ _ _ _ _ _ _ _ _ eF (by rfl)))) bU) (@aI _ _ _ _ _ _ _ _ _ (@bS _ _ _ _ _ _ _ _ _ _ _ _ (@mL _ _ _ _ _ _ _ _ _ _ _ _ hu (aB 4) (@gK _ _ _ _ _ _ _ (aD (aB 2) (aD (aB 3) aF)))) (@aJ _ _ _ _ _ _ _ (@aT _ _ _ _ _ _ _ _ (@aX _ _ _ _ _ _ _ _ _ eF (by rfl)))) bU) (@aI _ _ _ _ _ _ _ _ _ (@aU _ _ _ _ _ _ _ _ _ _ _ _ 7 (@GE.sc _ _ _ _ _ _ _ (aR aIy (hr.mono (by decide)) (by rfl) (aD (aB 6) (aD (@aW _ _ _ _ _ _ _ _ _ _ _ _ (aB 4) ge_int (by exact fun _ _=>rfl)) aF)))) gU.nd (by rfl) (Or.inl (by rfl)) (by rfl) (by rfl) (by trivial)) (@aI _ _ _ _ _ _ _ _ _ (@bS _ _ _ _ _ _ _ _ _ _ _ _ (@GW.gt _ _ _ _ _ (@xB _ _ _ _ _ _ _ _ _ (@mO _ _ _ _ _ _ (@eU _ _ _ _ _ _ _ (aR aI2 (hr.mono (by decide)) (by rfl) (aD (aB 7) aF)) (by intro _;rfl))) (@xC _ _ _ _ _ _ (@mL _ _ _ _ _ _ _ _ _ _ _ _ hu (aB 7) (aR aIn (hr.mono (by decide)) (by rfl) (aD (aB 2) (aD (aB 3) aF))))))) (@aJ _ _ _ _ _ _ _ (@aT _ _ _ _ _ _ _ _ (@aX _ _ _ _ _ _ _ _ _ eF (by rfl)))) bU) (@aI _ _ _ _ _ _ _ _ _ (@bS _ _ _ _ _ _ _ _ _ _ _ _ (@mL _ _ _ _ _ _ _ _ _ _ _ _ hu (aB 7) (aR aIm (hr.mono (by decide)) (by rfl) (aD (aB 6) (aD (aB 3) aF)))) (@aJ _ _ _ _ _ _ _ (@aT _ _ _ _ _ _ _ _ (@aX _ _ _ _ _ _ _ _ _ eF (by rfl)))) bU) (@aI _ _ _ _ _ _ _ _ _ (@bS _ _ _ _ _ _ _ _ _ _ _ _ (@GW.gt _ _ _ _ _ (@xB _ _ _ _ _ _ _ _ _ (@XA _ _ _ _ _ _ _ _ _ _ _ _ (aR aJh (hr.mono (by decide)) (by rfl) (aD (@aW _ _ _ _ _ _ _ _ _ _ _ _ (aB 4) ge_int (by exact fun _ _=>rfl)) (aD (@aW _ _ _ _ _ _ _ _ _ _ _ _ (aB 4) ge_int (by exact fun _ _=>rfl)) (aD (aB 6) aF)))) eF) (@xC _ _ _ _ _ _ (@mL _ _ _ _ _ _ _ _ _ _ _ _ hu (aB 4) (@gK _ _ _ _ _ _ _ (aD (aB 2) (aD (aB 3) aF))))))) (@aJ _ _ _ _ _ _ _ (@aT _ _ _ _ _ _ _ _ (@aX _ _ _ _ _ _ _ _ _ eF (by rfl)))) bU) (@aJ _ _ _ _ _ _ _ (@BA _ _ _ _ _ _ _ _ _ _ _ _ 6 _ _ ge_int (by rfl) (by rfl) (by trivial) (by decide) (by decide) (by rfl) (by rfl) (by rfl) (by rfl) (by rfl))))))))))) (by rfl) (by intro _;rfl) (by trivial)) (@aI _ _ _ _ _ _ _ _ _ (@gZ _ _ _ _ _ _ _ _ _ _ _ 8 (@GE.flt _ _ _ _ _ _ (wP (by rfl) (by rfl) aI5 (aD (aB 2) aF))) gU.nd (by rfl) (Or.inl (by rfl)) (by rfl) (by rfl) (by trivial)) (@aI _ _ _ _ _ _ _ _ _ (@aU _ _ _ _ _ _ _ _ _ _ _ _ 9 (@bN _ _ _ _ _ _ _ _ _ _ _ _ ge_int (@cF _ _ _ _ _ _ _ _ _ _ _ _ (aR aHt (hr.mono (by decide)) (by rfl) (aD (aB 0) (aD ge_int aF))) (@dI _ _ _ _ _ _ _ _ _ _ _ _ (dC (by rfl) (by rfl) aHs (aD (aB 2) aF)) ge_int))) gU.nd (by rfl) (Or.inl (by rfl)) (by rfl) (by rfl) (by trivial)) (@aI _ _ _ _ _ _ _ _ _ (@mJ _ _ _ _ _ _ _ _ _ _ _ 8 _ _ _ _ _ _ (@bN _ _ _ _ _ _ _ _ _ _ _ _ (@aW _ _ _ _ _ _ _ _ _ _ _ _ (aB 8) (aB 9) (by exact fun _ _=>rfl)) (@aW _ _ _ _ _ _ _ _ _ _ _ _ (@gK _ _ _ _ _ _ _ (aD (@wQ _ _ _ _ _ _ _ _ ge_int) (aD ge_int (aD (@wQ _ _ _ _ _ _ _ _ (@gM _ _ _ _ _ _ _ _ _ _ _ _ ge_int ge_int)) (aD (@gM _ _ _ _ _ _ _ _ _ _ _ _ ge_int ge_int) aF))))) (@cF _ _ _ _ _ _ _ _ _ _ _ _ (aR aHt (hr.mono (by decide)) (by rfl) (aD (aB 0) (aD ge_int aF))) ge_int) (by exact fun _ _=>rfl))) (aB 9) (by rfl) (by rfl) (by trivial) (by decide) (by decide) (by intro _;rfl) (by rfl) (by rfl) (by rfl)) (@aJ _ _ _ _ _ _ _ (@aT _ _ _ _ _ _ _ _ (@aX _ _ _ _ _ _ _ _ _ (@rX _ _ _ _ _ _ _ _ _ _ _ _ hu (wM aIu hP (hr.mono (by decide)) (by rfl) (aD (wP (by rfl) (by rfl) aI5 (aD (aB 8) aF)) (aD (aB 3) aF))) (@aW _ _ _ _ _ _ _ _ _ _ _ _ (@gK _ _ _ _ _ _ _ (aD mI (aD mI aF))) (@VY _ _ _ _ _ _ _ _ _ _ (by rfl) (by rfl) aJb (aD (aR aIi (hr.mono (by decide)) (by rfl) (aD (aB 8) (aD (aB 1) aF))) aF) (by rfl) (by rfl)) (by exact fun _ _=>rfl))) (by rfl)))))))))))
theorem aBw {fd:FuncData}(aIj:Cal P w K mg base "_law_hands" 2 ["script"] kF false 3) (aI9:Cal P w K mg base "_law_falling" 3 ["script","hands"] kB true 3) (aIc:Cal P w K mg base "_law_prices" 2 ["script","hands","start"] jE true 3) (aIv:CalP P w K mg base Pt bQ "best_base" 6 ["table","prices"] kM true 3) (aJ3:Cal P w K mg base "_law_row" 2 ["found","hands"] kG false 3) (aIs:Cal P w K mg base "_law_base" 3 ["table","shares"] jZ false 3) (aI1:Cal P w K mg base "_law_order" 1 ["prices"] fH true 3) (aJf:Cal P w K mg base "_law_by" 1 ["table","order"] kA true 3) (aIy:Cal P w K mg base "weight_of" 1 ["shares","prices"] jI false 3) (aI2:Cal P w K mg base "_law_whole" 1 ["found"] gB false 3) (aIn:Cal P w K mg base "_law_worth" 2 ["table","prices"] kL false 3) (aIm:Cal P w K mg base "_law_weigh" 1 ["shares","prices"] jF false 3) (aJh:Cal P w K mg base "is_best" 7 ["table","prices","shares"] kP false 3) (aHt:Cal P w K mg base "_law_cell" 1 ["script","k"] bX false 3) (aIu:CalP P w K mg base Pt bQ "_law_word" 7 ["table","prices"] kK false 3) (aIi:Cal P w K mg base "_law_falls" 1 ["table","hands"] kD false 3) (aI5:mg "list" = none) (aHr:mg "range" = none) (aHs:mg "len" = none) (aJb:mg "int" = none) (Fu:Fun K "law" "law" gT f fd):
  FnOk P w K mg base CX0 8 f fd ["script"] (spP Pt bQ (spT K pS false 3)):=
 AY Fu gU rfl (by decide) (fun ts t h=>bB h) (fun cdv A outer s H E hP hr=>UD aIj aI9 aIc aIv aJ3 aIs aI1 aJf aIy aI2 aIn aIm aJh aHt aIu aIi aI5 aHr aHs aJb cdv A outer s H E hP hr) (fun ts t h=>bC h)
end My
namespace My
open PySem PySem.Spec PyProof.Rows L2 G
def sB (row:List Int) (g:Nat):Int:=(((List.range row.length).filter fun k=>g / 2^k%2 == 1).map fun k=>row.getD k 0).sum
def dP (ns:List Int) (k:Nat):Int:=ns.getD k 0
theorem zN (ns:List Int) (k:Nat):bX [.lst (tI ns),.int (k:Int)]=some (.int (dP ns k)):=by
 rw[NJ];unfold tM dP
 by_cases h:k<ns.length
 ·simp[h,bJ h]
 ·simp[h,aK7,aLf (Nat.le_of_not_lt h)]
theorem zO (ns:List Int):bX [.lst (tI ns),.int 0]=some (.int (dP ns 0)):=zN ns 0
theorem GC (row:List Int) (g:Nat):sB row g=gv row g:=GZ row g _
theorem dD {n:Nat}(h:n<=6):2^n<=64:=aMh (aMq (by decide) h) (by decide:2^6<=64)
theorem rK {a b n:Nat}(h:a<2^n):a&&&b<2^n:=aMj Nat.and_le_left h
def Bd (b:Nat) (t:List Int):Prop:=∀ x∈t,x.natAbs<=b
theorem Bd.le {b c:Nat}{t:List Int}(h:Bd b t) (hc:b<=c):Bd c t:=fun x hx=>aMh (h x hx) hc
theorem wT {l:List Int}{i:Nat}(h:i<l.length):l.getD i 0∈l:=by
 rw[aK7,aK8 h];exact List.getElem_mem h
theorem Bd.get {b:Nat}{t:List Int}(h:Bd b t) (i:Nat):(t.getD i 0).natAbs<=b:=by
 by_cases hi:i<t.length
 ·exact h _ (wT hi)
 ·rw[aK7,aLf (Nat.le_of_not_lt hi)];exact aMx _
theorem Bd.of {b:Nat}{t:List Int}(h:∀ i,i<t.length->(t.getD i 0).natAbs<=b):Bd b t:=fun x hx=>by
 obtain⟨i,hi,rfl⟩:=aM4.mp hx;have:=h i hi
 rwa [aK7,aK8 hi] at this
theorem WG {row:List Int}{b:Nat}(hb:Bd b row) (h6:row.length<=6) (g:Nat):(sB row g).natAbs<=6*b:=by
 unfold sB;have key:∀ l:List Nat,((l.map fun k=>row.getD k 0).sum).natAbs<=l.length*b:=by
  intro l
  induction l with
  | nil=>simp
  | cons a r ih=>
   rw[aLv,List.sum_cons,aLm,Nat.add_mul,Nat.one_mul];have:=hb.get a;generalize (r.map fun k=>row.getD k 0).sum=s at ih;lia
 have h:=key ((List.range row.length).filter fun k=>g / 2^k%2 == 1);have hl:=List.length_filter_le (fun k=>g / 2^k%2 == 1) (List.range row.length);rw[aLq] at hl;exact aMh h (Nat.mul_le_mul_right _ (aMh hl h6))
structure Fal (n b:Nat) (t:List Int):Prop where
 len:t.length=2^n
 zero:t.getD 0 0=0
 bd:Bd b t
 sub:Sub n t
theorem Fal.le {n b c:Nat}{t:List Int}(h:Fal n b t) (k:b<=c):Fal n c t:=⟨h.len,h.zero,h.bd.le k,h.sub⟩
theorem sJ (t:List Int) (q:Int) (i:Nat):(t.map (· * q)).getD i 0=t.getD i 0*q:=by
 rw[aK7,aK7,aLh];cases t[i]?<;>simp
theorem aFs {n:Nat}{q:Int}(hq:0<=q) {t:List Int}(h:Sub n t):Sub n (t.map (· * q)):=fun a b ha hb=>by
 rw[sJ,sJ,sJ,sJ,<- Int.add_mul,<- Int.add_mul];exact Int.mul_le_mul_of_nonneg_right (h a b ha hb) hq
theorem rO (g:Nat):aM g<=6:=by unfold aM;lia
theorem ZY:(List.range 64).all (fun k=>CW (fG [.int (k:Int)]) (some (.int (aM k:Int))))=true:=by decide +kernel
theorem zQ {g:Nat}(h:g<64):fG [.int (g:Int)]=some (.int (aM g:Int)):=LL (aKc.mp ZY g (aKd.mpr h))
theorem aFo (k:Nat):sq k<=36:=by
 have:=rO k;unfold sq;exact Nat.mul_le_mul this this
theorem dX {t:List Int}{j:Nat}(hj:j<t.length) (v:Int) (i:Nat):(t.set j v).getD i 0=if i=j then v else t.getD i 0:=by
 by_cases h:i=j
 ·subst h
  rw[aK7,aLi hj,if_pos rfl];rfl
 ·rw[aK7,aKg (Ne.symm h),<- List.getD_eq_getElem?_getD,if_neg h]
theorem aG3 (t:List Int) (x:Int):tI t++[T.int x]=tI (t++[x]):=by rw[MH];rfl
theorem aGs:(List.range 10).all (fun k=>match atI (tI [1,2,3,4,3,2,4,5,3,6]) (k:Int) with | some (.int i)=>decide (1<=i)&&decide (i<=6) | _=>false)=true:=by decide +kernel
theorem OO (ns:List Int):∃ n:Nat,1<=n/\n<=6/\kF [.lst (tI ns)]=some (.int (n:Int)):=by
 have c0:0<=dP ns 0%10:=aL0 _ (by decide);have c1:dP ns 0%10<10:=aKz _ (by decide);have m:aY (.int (dP ns 0)) (.int 10)=some (.int ((dP ns 0%10).toNat:Int)):=by rw[cR (by decide),Int.toNat_of_nonneg c0]
 have hk:(dP ns 0%10).toNat<10:=by lia
 generalize (dP ns 0%10).toNat=k at m hk;have a:=aKc.mp aGs k (aKd.mpr hk);cases h:atI (tI [1,2,3,4,3,2,4,5,3,6]) (k:Int) with
 | none=>rw[h] at a;cases a
 | some t=>
  rw[h] at a;cases t<;>first | (cases a;done) | skip
  rename_i i;simp only[aKn,decide_eq_true_eq] at a;refine⟨i.toNat,by lia,by lia,?_⟩;rw[NN];unfold tY;simp only[rRet_at,f1_at,f2_at,fC_at,fVar_at,fCall_at,aCons_at,aNil_at,zz0,jn,zz2,zO,m,oIx_lst,h,gScal_int,zz3,outT_rt]
  congr 2
  lia
theorem PV (ns:List Int) (hn:ns.length<=63) {n:Nat}(h1:1<=n) (h6:n<=6):∃ sl,kH [.lst (tI ns),.int (n:Int)]=some (.lst (tI sl))/\sl.length=2^n-1:=by
 have h64:=dD h6;have hs2:2<=2^n:=aMh (by decide:2<=2^1) (aMq (by decide) h1);have sh:=gP (b:=n) (by lia);have es:((2^n:Nat):Int)-1=((2^n-1:Nat):Int):=by lia
 have hr:=eY (2^n-1) (by lia);have r2:eZ [.int 1,.int (ns.length:Int)]=some (G.rangeT 1 (ns.length-1)):=by
  rw[xS (by decide) (by lia)]
  congr 2
  lia
 obtain⟨P0,hP0⟩:∃ P0:Int,P0=10^59:=⟨_,rfl⟩;have p59:cD (.int 10) (.int 59)=some (.int P0):=by rw[hP0];exact jQ 10 59 (by decide +kernel)
 have mP:∀ i:Int,aY (.int i) (.int P0)=some (.int (i%P0)):=fun i=>cR (by rw[hP0];decide);have mS:∀ i:Int,aY (.int i) (.int ((2^n-1:Nat):Int))=some (.int (i%((2^n-1:Nat):Int))):=fun i=>cR (by lia);have m9:∀ i:Int,aY (.int i) (.int 1009)=some (.int (i%1009)):=fun i=>cR (by decide);have k3:∀ i:Int,bH (.int i) (.int 1000003)=some (.int (i*1000003)):=fun i=>mX (by decide);have k4:∀ i:Int,bH (.int i) (.int 48271)=some (.int (i*48271)):=fun i=>mX (by decide);have k7:∀ i:Int,bH (.int 7) (.int i)=some (.int (7*i)):=fun i=>xQ (by decide);have e1:bK bI yQ [none] (G.rangeT 0 (2^n-1))=some (tI ((List.range (2^n-1)).map fun (k:Nat)=>((k:Int)*(k:Int)*48271+7*(k:Int))%1009)):=AE _ fun k hk=>by
  have kk:bH (.int (k:Int)) (.int (k:Int))=some (.int ((k:Int)*(k:Int))):=xQ (by lia);unfold yQ;simp only[f2_at,fVar_at,fC_at,List.set,zz0,jn,zz2,kk,k4,k7,oAdd_int,m9]
 have hl0:((List.range (2^n-1)).map fun (k:Nat)=>((k:Int)*(k:Int)*48271+7*(k:Int))%1009).length=2^n-1:=by simp
 generalize ((List.range (2^n-1)).map fun (k:Nat)=>((k:Int)*(k:Int)*48271+7*(k:Int))%1009)=s0 at e1 hl0;obtain⟨ρ',hloop,sl,x4,x5,rfl,q⟩:=rS (j:=4) (body:=yP) (fun i ρ=>∃ sl x4 x5,ρ=[some (.lst (tI ns)),some (.int (n:Int)),some (.int ((2^n-1:Nat):Int)),some (.lst (tI sl)),x4,x5]/\sl.length=2^n-1) (G.rangeT 1 (ns.length-1)) (fun i hi ρ hρ=>by
   obtain⟨sl,x4,x5,rfl,q⟩:=hρ;have hi':i<ns.length-1:=by rw[jT] at hi;exact hi
   rw[yE];have a1:atI (tI ns) (1+(i:Int))=some (.int (ns.getD (1+(i:Int)).toNat 0)):=kY (by lia) (by lia);generalize ns.getD (1+(i:Int)).toNat 0=c at a1;have p0:0<=(1+(i:Int)-1)%((2^n-1:Nat):Int):=aL0 _ (by lia);have p1:(1+(i:Int)-1)%((2^n-1:Nat):Int)<((2^n-1:Nat):Int):=aKz _ (by lia);have mo:=mS (1+(i:Int)-1);generalize (1+(i:Int)-1)%((2^n-1:Nat):Int)=at' at p0 p1 mo;have a2:atI (tI sl) at'=some (.int (sl.getD at'.toNat 0)):=kY (by lia) (by lia);have ix:ixN sl.length at'=some at'.toNat:=mU (by lia) (by lia);generalize sl.getD at'.toNat 0=g at a2;refine⟨[some (.lst (tI ns)),some (.int (n:Int)),some (.int ((2^n-1:Nat):Int)),some (.lst (tI (sl.set at'.toNat ((g*1000003+c)%P0)))),some (.int (1+(i:Int))),some (.int at')],.inl ?_,_,_,_,rfl,by simpa using q⟩;unfold yP;simp only[rSeq_at,rSet_at,rPut_at,f2_at,fVar_at,fC_at,List.set,zz0,zz1,jn,zz2,zz3,oSub_int,mo,oIx_lst,a2,k3,a1,oAdd_int,p59,mP,tI_length,ix,pP])
  [some (.lst (tI ns)),some (.int (n:Int)),some (.int ((2^n-1:Nat):Int)),some (.lst (tI s0)),none,none] ⟨_,_,_,rfl,hl0⟩
 refine⟨sl,?_,q⟩;have hc:s0.length<=cap:=by rw[hl0];unfold cap;lia
 rw[NS];unfold uE;simp only[rSeq_at,rSet_at,rSetM_at,rFor_at,rRet_at,fMut_at,f2_at,fVar_at,fC_at,fCall_at,fComp_at,fRange_at,aCons_at,aNil_at,List.set,zz0,zz1,jn,zz2,zz3,sh,oSub_int,es,hr,bP,aLx,aLv,aMz,e1,tI_length,hc,if_true,okM_lst,oLen_lst,r2,hloop,flat_tI',outT_rt]
theorem DS {n:Nat}(h1:1<=n) (h6:n<=6) {sl:List Int}(hsl:sl.length=2^n-1) {P:Int}(hP1:0<P) (hP2:P<=10^58):∃ t,jD [.lst (tI sl),.int (n:Int),.int P]=some (.lst (tI t))/\Fal n (10^62) t:=by
 have h64:=dD h6;have hs2:2<=2^n:=aMh (by decide:2<=2^1) (aMq (by decide) h1);have sh:=gP (b:=n) (by lia);have r2:eZ [.int 1,.int ((2^n:Nat):Int)]=some (G.rangeT 1 (2^n-1)):=by
  rw[xS (by decide) (by lia)]
  congr 2
  lia
 have d7:∀ i:Int,bV (.int i) (.int 7)=some (.int (i / 7)):=fun i=>hO (by decide) (by decide);have mP:∀ i:Int,aY (.int i) (.int P)=some (.int (i%P)):=fun i=>cR hP1;obtain⟨ρ',hloop,t,x4,x5,x6,rfl,w1,w2,w3⟩:=rS (j:=4) (body:=yJ) (fun i ρ=>∃ t x4 x5 x6,ρ=[some (.lst (tI sl)),some (.int (n:Int)),some (.int P),some (.lst (tI t)),x4,x5,x6]/\t.length=1+i/\t.getD 0 0=0/\∀ k,k<1+i->∃ e:Int,0<=e/\e<P/\t.getD k 0=e-P*((sq k:Nat):Int)) (G.rangeT 1 (2^n-1)) (fun i hi ρ hρ=>by
   obtain⟨t,x4,x5,x6,rfl,w1,w2,w3⟩:=hρ;have hi':i<2^n-1:=by rw[jT] at hi;exact hi
   rw[yE];have a1:atI (tI sl) (1+(i:Int)-1)=some (.int (sl.getD (1+(i:Int)-1).toNat 0)):=kY (by lia) (by lia);rw[show 1+(i:Int)=((1+i:Nat):Int) by lia] at a1 ⊢;rw[show 1+(i+1)=(1+i)+1 by lia];have hq:1+i<2^n:=by lia
   have hq0:1<=1+i:=by lia
   generalize 1+i=q at *;have fm:=zQ (g:=q) (by lia);have hc6:=rO q;have k1:bH (.int P) (.int (aM q:Int))=some (.int (P*(aM q:Int))):=mX (by lia);have k2:bH (.int (P*(aM q:Int))) (.int (aM q:Int))=some (.int (P*(aM q:Int)*(aM q:Int))):=mX (by lia);have hzz:P*(aM q:Int)*(aM q:Int)=P*((sq q:Nat):Int):=by
    unfold sq;rw[Int.natCast_mul,Int.mul_assoc]
   generalize sl.getD ((q:Int)-1).toNat 0=g at a1;have c0:0<=g / 7%P:=aL0 _ (by lia);have c1:g / 7%P<P:=aKz _ hP1;have mg:=mP (g / 7);generalize g / 7%P=e at c0 c1 mg;have hcap:t.length<cap:=by unfold cap;lia
   refine⟨[some (.lst (tI sl)),some (.int (n:Int)),some (.int P),some (.lst (tI (t++[e-P*(aM q:Int)*(aM q:Int)]))),some (.int (q:Int)),some (.int (aM q:Int)),some (.int e)],.inl ?_,_,_,_,_,rfl,by simp[w1],?_,fun k hk=>?_⟩
   ·unfold yJ
    simp only[rSeq_at,rSet_at,rApp_at,f1_at,f2_at,fVar_at,fC_at,fCall_at,aCons_at,aNil_at,List.set,zz0,zz1,jn,zz2,zz3,fm,gScal_int,oSub_int,oIx_lst,a1,d7,mg,k1,k2,tI_length,hcap,if_true,aG3]
   ·rw[aK7,List.getElem?_append_left (by lia),<- List.getD_eq_getElem?_getD];exact w2
   ·by_cases hkq:k=q
    ·subst hkq
     rw[aK7,List.getElem?_append_right (by lia),w1];exact⟨e,c0,c1,by simp[hzz]⟩
    ·rw[aK7,List.getElem?_append_left (by lia),<- List.getD_eq_getElem?_getD]
     exact w3 k (by lia))
  [some (.lst (tI sl)),some (.int (n:Int)),some (.int P),some (.lst (tI [0])),none,none,none] ⟨[0],_,_,_,rfl,rfl,rfl,fun k hk=>by
   have:k=0:=by lia
   subst this;exact⟨0,aL1 _,hP1,by simp[sq,aM]⟩⟩
 rw[jT] at w1 w3;refine⟨t,?_,by lia,w2,Bd.of fun i hi=>?_,aAj h6 hP1 fun k hk=>w3 k (by lia)⟩
 ·rw[NO]
  unfold tZ;simp only[rSeq_at,rSetM_at,rFor_at,rRet_at,fMut_at,f2_at,fVar_at,fC_at,fRange_at,aCons_at,aNil_at,List.set,zz0,zz1,jn,zz2,zz3,okM_lst,if_true,sh,r2,hloop,flat_tI',outT_rt]
 ·obtain⟨e,z0,z1,z2⟩:=w3 i (by lia)
  rw[z2];have h36:=aFo i;have hb:(P*((sq i:Nat):Int)).natAbs<=10^58*36:=by
   rw[Int.natAbs_mul];exact Nat.mul_le_mul (by lia) (by lia)
  generalize P*((sq i:Nat):Int)=z at hb;lia
theorem aGv {n:Nat}(h6:n<=6) {tab:List Int}(hl:tab.length=2^n) (r0 r1 r2 r5 r8 r9 r10 r11:Option T) {part:Nat}{most weight:Int}(hm0:1<=most):
  ∃ tab' x8 x9,bL 8 uG (G.rangeT 0 (2^n)) [r0,r1,r2,some (.lst (tI tab)),some (.int (part:Int)),r5,some (.int most),some (.int weight),r8,r9,r10,r11]=some (.nx [r0,r1,r2,some (.lst (tI tab')),some (.int (part:Int)),r5,some (.int most),some (.int weight),x8,x9,r10,r11])/\tab'.length=2^n/\∀ i,i<2^n->tab'.getD i 0=tab.getD i 0+weight*mn (aM (i&&&part)) most:=by
 have h64:=dD h6;obtain⟨ρ',hloop,tab',x8,x9,rfl,q1,q2⟩:=mF (j:=8) (n:=2^n) (body:=uG) (fun j ρ=>∃ tab' x8 x9,ρ=[r0,r1,r2,some (.lst (tI tab')),some (.int (part:Int)),r5,some (.int most),some (.int weight),x8,x9,r10,r11]/\tab'.length=2^n/\∀ i:Nat,tab'.getD i 0=if i<j then tab.getD i 0+weight*mn (aM (i&&&part)) most else tab.getD i 0) (fun j hj ρ hρ=>by
   obtain⟨tab',x8,x9,rfl,q1,q2⟩:=hρ;have hand:j&&&part<64:=aKe (rK hj) h64;have fh:=zQ hand;have hc6:=rO (j&&&part);have ep:atI (tI tab') (j:Int)=some (.int (tab'.getD j 0)):=bJ (by lia);have hx:=q2 j;rw[if_neg (aMi j)] at hx;rw[hx] at ep;have ix:ixN tab'.length (j:Int)=some j:=by rw[mU (by lia) (by lia)];simp
   have hmu:BV [.int most,.int (aM (j&&&part):Int)]=some (.int (mn (aM (j&&&part)) most)):=by
    show some (T.int (if ((aM (j&&&part):Nat):Int)<most then ((aM (j&&&part):Nat):Int) else most))=_;unfold mn
    congr 2
    split<;>split<;>lia
   have hb:0<=mn (aM (j&&&part)) most/\mn (aM (j&&&part)) most<=6:=by
    unfold mn
    split<;>lia
   have mu:bH (.int weight) (.int (mn (aM (j&&&part)) most))=some (.int (weight*mn (aM (j&&&part)) most)):=mX (by lia);refine⟨[r0,r1,r2,some (.lst (tI (tab'.set j (tab.getD j 0+weight*mn (aM (j&&&part)) most)))),some (.int (part:Int)),r5,some (.int most),some (.int weight),some (.int (j:Int)),some (.int (mn (aM (j&&&part)) most)),r10,r11],?_,_,_,_,rfl,by simpa using q1,fun i=>?_⟩
   ·generalize mn (aM (j&&&part)) most=much at hmu mu
    generalize tab.getD j 0=g at ep;unfold uG;simp only[rSeq_at,rSet_at,rPut_at,f2_at,fVar_at,fCall_at,aCons_at,aNil_at,List.set,zz0,zz1,jn,zz2,zz3,oAnd_int,AA,fh,tI_length,hmu,oIx_lst,ep,mu,oAdd_int,ix,pP]
   ·rw[dX (by lia),q2 i]
    by_cases hij:i=j
    ·subst hij
     rw[if_pos rfl,if_pos (aMl _)]
    ·rw[if_neg hij]
     by_cases h:i<j
     ·rw[if_pos h,if_pos (by lia)]
     ·rw[if_neg h,if_neg (by lia)])
  [r0,r1,r2,some (.lst (tI tab)),some (.int (part:Int)),r5,some (.int most),some (.int weight),r8,r9,r10,r11] ⟨tab,r8,r9,rfl,hl,fun i=>by rw[if_neg (Nat.not_lt_zero _)]⟩
 refine⟨tab',x8,x9,hloop,q1,fun i hi=>?_⟩;rw[q2 i,if_pos hi]
theorem aGu {n:Nat}(h6:n<=6) {b:Nat}{tab tab':List Int}{part:Nat}{most weight:Int}(hm0:1<=most) (hw0:0<=weight) (hw:weight<10^50) (h:Fal n b tab) (hl':tab'.length=2^n)
  (he:∀ i,i<2^n->tab'.getD i 0=tab.getD i 0+weight*mn (aM (i&&&part)) most):Fal n (b+6*10^50) tab':=by
 have h64:=dD h6;have hp:0<2^n:=aMs (by decide);refine⟨hl',?_,Bd.of fun i hi=>?_,fun x y hx hy=>?_⟩
 ·rw[he 0 hp,h.zero,Nat.zero_and]
  have:mn (aM 0) most=0:=by unfold mn;rw[if_neg (by simp[aM];lia)];rfl
  rw[this];simp
 ·rw[he i (by lia)]
  have h1:=h.bd.get i;have hc6:=rO (i&&&part);have hb:0<=mn (aM (i&&&part)) most/\mn (aM (i&&&part)) most<=6:=by
   unfold mn
   split<;>lia
  generalize mn (aM (i&&&part)) most=much at hb;have hwm:(weight*much).natAbs<=6*10^50:=by
   rw[Int.natAbs_mul,Nat.mul_comm];exact Nat.mul_le_mul (by lia) (by lia)
  generalize weight*much=z at hwm;lia
 ·rw[he _ (aMp hx hy),he _ (rK hx),he _ hx,he _ hy]
  have s:=h.sub x y hx hy;have m:=aA8 (a:=x) (b:=y) (p:=part) (m:=most) (by lia) (by lia);have m':=Int.mul_le_mul_of_nonneg_left m hw0;rw[Int.mul_add,Int.mul_add] at m';lia
theorem RK:(List.range 64).all (fun g=>g == 0||decide (1<=aM g))=true:=by decide +kernel
theorem aGw {n:Nat}(h6:n<=6) {sl row:List Int}(hsl:n<=sl.length) (hrow:row.length=n) {P:Int}(hP:P.natAbs<=10^50) (hr:∀ k,k<n->row.getD k 0=(sl.getD k 0 / 3%7-3)*P / 2) {tab:List Int}(hl:tab.length=2^n) (r4 r5 r6 r7 r8 r9 r10 r11:Option T):
  ∃ tab' x8 x10 x11,bL 8 uI (G.rangeT 0 (2^n)) [some (.lst (tI sl)),some (.int (n:Int)),some (.int P),some (.lst (tI tab)),r4,r5,r6,r7,r8,r9,r10,r11]=some (.nx [some (.lst (tI sl)),some (.int (n:Int)),some (.int P),some (.lst (tI tab')),r4,r5,r6,r7,x8,r9,x10,x11])/\tab'.length=2^n/\∀ i,i<2^n->tab'.getD i 0=tab.getD i 0+gv row i:=by
 have h64:=dD h6;have hrn:=eY n (by lia);have d3:∀ i:Int,bV (.int i) (.int 3)=some (.int (i / 3)):=fun i=>hO (by decide) (by decide);have d2:∀ i:Int,bV (.int i) (.int 2)=some (.int (i / 2)):=fun i=>hO (by decide) (by decide);have m7:∀ i:Int,aY (.int i) (.int 7)=some (.int (i%7)):=fun i=>cR (by decide);obtain⟨ρ',hloop,tab',x8,x10,x11,rfl,q1,q2⟩:=mF (j:=8) (n:=2^n) (body:=uI) (fun j ρ=>∃ tab' x8 x10 x11,ρ=[some (.lst (tI sl)),some (.int (n:Int)),some (.int P),some (.lst (tI tab')),r4,r5,r6,r7,x8,r9,x10,x11]/\tab'.length=2^n/\∀ i:Nat,tab'.getD i 0=if i<j then tab.getD i 0+gv row i else tab.getD i 0) (fun j hj ρ hρ=>by
   obtain⟨tab',x8,x10,x11,rfl,q1,q2⟩:=hρ;obtain⟨ρ2,hin,tab2,y10,y11,rfl,p1,p2⟩:=mF (j:=10) (n:=n) (body:=uH) (fun k ρ=>∃ tab2 y10 y11,ρ=[some (.lst (tI sl)),some (.int (n:Int)),some (.int P),some (.lst (tI tab2)),r4,r5,r6,r7,some (.int (j:Int)),r9,y10,y11]/\tab2.length=2^n/\∀ i:Nat,tab2.getD i 0=if i=j then tab'.getD i 0+gvS row (List.range k) j else tab'.getD i 0) (fun k hk ρ hρ=>by
     obtain⟨tab2,y10,y11,rfl,p1,p2⟩:=hρ;rw[aMd,BB];have hb:=AB j k;have a1:atI (tI sl) (k:Int)=some (.int (sl.getD k 0)):=bJ (by lia);have ep:atI (tI tab2) (j:Int)=some (.int (tab2.getD j 0)):=bJ (by lia);have ix:ixN tab2.length (j:Int)=some j:=by rw[mU (by lia) (by lia)];simp
     cases hc:j.testBit k with
     | true=>
      rw[hc] at hb;have hrk:=hr k hk;have z0:=aL0 (sl.getD k 0 / 3) (show (7:Int)≠0 by decide);have z1:=aKz (sl.getD k 0 / 3) (show (0:Int)<7 by decide);have mo:=m7 (sl.getD k 0 / 3);generalize sl.getD k 0 / 3%7=w at z0 z1 hrk mo;have mu:bH (.int (w-3)) (.int P)=some (.int ((w-3)*P)):=xQ (by lia);refine⟨[some (.lst (tI sl)),some (.int (n:Int)),some (.int P),some (.lst (tI (tab2.set j (tab2.getD j 0+(w-3)*P / 2)))),r4,r5,r6,r7,some (.int (j:Int)),r9,some (.int (k:Int)),some (.int (w-3))],?_,_,_,_,rfl,by simpa using p1,fun i=>?_⟩
      ·generalize tab2.getD j 0=g at ep
       unfold uH;simp only[rIf_at,rSeq_at,rSet_at,rPut_at,fB_at,f2_at,fVar_at,fC_at,List.set,zz0,zz1,jn,zz2,zz3,sO,oAnd_int,rM,oEq_int,hb,isB_bl,if_true,oIx_lst,a1,d3,mo,oSub_int,ep,mu,d2,oAdd_int,tI_length,ix,pP]
      ·rw[dX (by lia),p2 j,if_pos rfl,p2 i]
       by_cases hij:i=j
       ·subst hij;rw[if_pos rfl,if_pos rfl,if_pos rfl,hrk];lia
       ·rw[if_neg hij,if_neg hij,if_neg hij]
     | false=>
      rw[hc] at hb;refine⟨[some (.lst (tI sl)),some (.int (n:Int)),some (.int P),some (.lst (tI tab2)),r4,r5,r6,r7,some (.int (j:Int)),r9,some (.int (k:Int)),y11],?_,_,_,_,rfl,p1,fun i=>?_⟩
      ·unfold uH
       simp only[rIf_at,rNext_at,fB_at,f2_at,fVar_at,fC_at,List.set,zz0,zz1,jn,zz2,zz3,sO,oAnd_int,rM,oEq_int,hb,isB_bl,aKq,if_false]
      ·rw[p2 i];simp only[aKq,if_false,Int.add_zero])
    [some (.lst (tI sl)),some (.int (n:Int)),some (.int P),some (.lst (tI tab')),r4,r5,r6,r7,some (.int (j:Int)),r9,x10,x11] ⟨tab',x10,x11,rfl,q1,fun i=>by split<;>simp[gvS]⟩
   refine⟨_,?_,tab2,some (.int (j:Int)),y10,y11,rfl,p1,fun i=>?_⟩
   ·unfold uI
    simp only[rFor_at,fRange_at,fVar_at,aCons_at,aNil_at,List.set,zz0,zz1,jn,zz2,zz3,hrn,hin]
   ·rw[p2 i,q2 i,<- hrow]
    by_cases hij:i=j
    ·subst hij
     rw[if_pos rfl,if_neg (aMi _),if_pos (aMl _)];rfl
    ·rw[if_neg hij]
     by_cases h:i<j
     ·rw[if_pos h,if_pos (by lia)]
     ·rw[if_neg h,if_neg (by lia)])
  [some (.lst (tI sl)),some (.int (n:Int)),some (.int P),some (.lst (tI tab)),r4,r5,r6,r7,r8,r9,r10,r11] ⟨tab,r8,r10,r11,rfl,hl,fun i=>by rw[if_neg (Nat.not_lt_zero _)]⟩
 refine⟨tab',x8,x10,x11,hloop,q1,fun i hi=>?_⟩;rw[q2 i,if_pos hi]
theorem PX {n:Nat}(h1:1<=n) (h6:n<=6) {sl:List Int}(hsl:sl.length=2^n-1) {P:Int}(hP1:0<P) (hP2:P<=10^50):∃ t,kI [.lst (tI sl),.int (n:Int),.int P]=some (.lst (tI t))/\Fal n (10^62) t:=by
 have h64:=dD h6;have hs2:2<=2^n:=aMh (by decide:2<=2^1) (aMq (by decide) h1);have hns:n<=2^n-1:=by
  have:n<2^n:=Nat.lt_two_pow_self;lia
 have sh:=gP (b:=n) (by lia);have hr:=eY (2^n) (by lia);have r2:eZ [.int 1,.int ((2^n:Nat):Int)]=some (G.rangeT 1 (2^n-1)):=by
  rw[xS (by decide) (by lia)]
  congr 2
  lia
 have d5:∀ i:Int,bV (.int i) (.int 5)=some (.int (i / 5)):=fun i=>hO (by decide) (by decide);have d55:∀ i:Int,bV (.int i) (.int 55)=some (.int (i / 55)):=fun i=>hO (by decide) (by decide);have m11:∀ i:Int,aY (.int i) (.int 11)=some (.int (i%11)):=fun i=>cR (by decide);have m5:∀ i:Int,aY (.int i) (.int 5)=some (.int (i%5)):=fun i=>cR (by decide);have mP:∀ i:Int,aY (.int i) (.int P)=some (.int (i%P)):=fun i=>cR hP1;have e1:bK bI CT [none] (G.rangeT 0 (2^n))=some (tI ((List.range (2^n)).map fun _=>0)):=AE _ fun i _=>rfl;have hl0:((List.range (2^n)).map fun _=>(0:Int)).length=2^n:=by simp
 have hg0:∀ i,((List.range (2^n)).map fun _=>(0:Int)).getD i 0=0:=fun i=>by
  rw[aK7,aLh];cases (List.range (2^n))[i]?<;>rfl
 have hf0:Fal n 0 ((List.range (2^n)).map fun _=>(0:Int)):=⟨hl0,hg0 0,fun x hx=>by obtain⟨_,_,rfl⟩:=aM5.mp hx;decide,fun a b _ _=>by rw[hg0,hg0,hg0,hg0];decide⟩;generalize ((List.range (2^n)).map fun _=>(0:Int))=t0 at e1 hl0 hf0;obtain⟨ρ',hloop,tab,x4,x5,x6,x7,x8,x9,rfl,qf⟩:=rS (j:=4) (body:=qV) (fun i ρ=>∃ tab x4 x5 x6 x7 x8 x9,ρ=[some (.lst (tI sl)),some (.int (n:Int)),some (.int P),some (.lst (tI tab)),x4,x5,x6,x7,x8,x9,none,none]/\Fal n (i*(6*10^50)) tab) (G.rangeT 1 (2^n-1)) (fun i hi ρ hρ=>by
   obtain⟨tab,x4,x5,x6,x7,x8,x9,rfl,qf⟩:=hρ;have hi':i<2^n-1:=by rw[jT] at hi;exact hi
   rw[yE];have a1:atI (tI sl) (1+(i:Int)-1)=some (.int (sl.getD (1+(i:Int)-1).toNat 0)):=kY (by lia) (by lia);rw[show 1+(i:Int)=((1+i:Nat):Int) by lia] at a1 ⊢;have hq:1+i<2^n:=by lia
   have hq0:1<=1+i:=by lia
   generalize 1+i=q at a1 hq hq0;have fm:=zQ (g:=q) (by lia);have hc6:=rO q;have hc1:1<=aM q:=by
    have:=aKc.mp RK q (aKd.mpr (by lia));simp at this;lia
   generalize sl.getD ((q:Int)-1).toNat 0=slot at a1;have mc:aY (.int (slot / 5%11)) (.int (aM q:Int))=some (.int (slot / 5%11%(aM q:Int))):=cR (by lia);have c0:0<=slot / 5%11%(aM q:Int):=aL0 _ (by lia);have w0:0<=slot / 55%P:=aL0 _ (by lia);have w1:slot / 55%P<P:=aKz _ hP1;have mw:=mP (slot / 55);generalize slot / 5%11%(aM q:Int)=cp at mc c0;generalize slot / 55%P=weight at mw w0 w1;have hle:i*(6*10^50)<=(i+1)*(6*10^50):=Nat.mul_le_mul_right _ (by lia)
   by_cases hw:weight > 0
   ·by_cases hs:slot%5<3
    ·obtain⟨tab',y8,y9,hin,p1,p2⟩:=aGv h6 qf.len (some (.lst (tI sl))) (some (.int (n:Int))) (some (.int P)) (some (.int slot)) x8 x9 none none (part:=q) (most:=1+cp) (weight:=weight) (by lia)
     refine⟨_,.inl ?_,tab',some (.int (q:Int)),some (.int slot),some (.int (1+cp)),some (.int weight),y8,y9,rfl,by
      have:=aGu h6 (most:=1+cp) (by lia) w0 (by lia) qf p1 p2;rw[Nat.add_mul,Nat.one_mul];exact this⟩
     unfold qV;simp only[rSeq_at,rSet_at,rIf_at,rFor_at,pAnd_at,fB_at,f1_at,f2_at,fVar_at,fC_at,fCall_at,fRange_at,aCons_at,aNil_at,List.set,zz0,zz1,jn,zz2,zz3,oSub_int,oIx_lst,a1,gScal_int,d5,m11,fm,mc,oAdd_int,d55,mw,oGt_int,hw,decide_true,isB_bl,if_true,m5,oLt_int,hs,sh,hr,hin]
    ·refine⟨_,.inl ?_,tab,some (.int (q:Int)),some (.int slot),some (.int (1+cp)),some (.int weight),x8,x9,rfl,qf.le hle⟩
     unfold qV;simp only[rSeq_at,rSet_at,rIf_at,rNext_at,pAnd_at,fB_at,f1_at,f2_at,fVar_at,fC_at,fCall_at,aCons_at,aNil_at,List.set,zz0,zz1,jn,zz2,zz3,oSub_int,oIx_lst,a1,gScal_int,d5,m11,fm,mc,oAdd_int,d55,mw,oGt_int,hw,decide_true,isB_bl,if_true,m5,oLt_int,hs,decide_false,aKq,if_false]
   ·refine⟨_,.inl ?_,tab,some (.int (q:Int)),some (.int slot),some (.int (1+cp)),some (.int weight),x8,x9,rfl,qf.le hle⟩
    unfold qV;simp only[rSeq_at,rSet_at,rIf_at,rNext_at,pAnd_at,fB_at,f1_at,f2_at,fVar_at,fC_at,fCall_at,aCons_at,aNil_at,List.set,zz0,zz1,jn,zz2,zz3,oSub_int,oIx_lst,a1,gScal_int,d5,m11,fm,mc,oAdd_int,d55,mw,oGt_int,hw,decide_false,isB_bl,aKq,if_false])
  [some (.lst (tI sl)),some (.int (n:Int)),some (.int P),some (.lst (tI t0)),none,none,none,none,none,none,none,none] ⟨t0,none,none,none,none,none,none,rfl,hf0.le (by lia)⟩
 rw[jT] at qf;have hrow:((List.range n).map fun k=>(sl.getD k 0 / 3%7-3)*P / 2).length=n:=by simp
 have hrg:∀ k,k<n->((List.range n).map fun k=>(sl.getD k 0 / 3%7-3)*P / 2).getD k 0=(sl.getD k 0 / 3%7-3)*P / 2:=fun k hk=>by
  rw[aK7,aLh,List.getElem?_range hk];rfl
 have hrb:Bd (10^52) ((List.range n).map fun k=>(sl.getD k 0 / 3%7-3)*P / 2):=fun x hx=>by
  obtain⟨k,_,rfl⟩:=aM5.mp hx;have z0:=aL0 (sl.getD k 0 / 3) (show (7:Int)≠0 by decide);have z1:=aKz (sl.getD k 0 / 3) (show (0:Int)<7 by decide);generalize sl.getD k 0 / 3%7=w at z0 z1;have hb:((w-3)*P).natAbs<=3*10^50:=by
   rw[Int.natAbs_mul];exact Nat.mul_le_mul (by lia) (by lia)
  generalize (w-3)*P=z at hb;lia
 generalize ((List.range n).map fun k=>(sl.getD k 0 / 3%7-3)*P / 2)=row at hrow hrg hrb;obtain⟨tab',y8,y10,y11,hloop2,p1,p2⟩:=aGw h6 (sl:=sl) (row:=row) (by lia) hrow (P:=P) (by lia) hrg qf.len x4 x5 x6 x7 x8 x9 none none;have hc:t0.length<=cap:=by rw[hl0];unfold cap;lia
 refine⟨tab',?_,p1,?_,Bd.of fun i hi=>?_,fun a b ha hb=>?_⟩
 ·rw[NT]
  unfold uF;simp only[rSeq_at,rSetM_at,rFor_at,rRet_at,fMut_at,f2_at,fVar_at,fC_at,fComp_at,fRange_at,aCons_at,aNil_at,List.set,zz0,zz1,jn,zz2,zz3,sh,hr,bP,aLx,aLv,aMz,e1,tI_length,hc,if_true,okM_lst,r2,hloop,hloop2,flat_tI',outT_rt]
 ·rw[p2 0 (by lia),qf.zero,mQ];rfl
 ·rw[p2 i (by lia)]
  have q1:=qf.bd.get i;have q2:=WG hrb (by lia) i;rw[GC] at q2;have q4:∀ B:Nat,(2^n-1)*B<=64*B:=fun B=>Nat.mul_le_mul_right _ (by lia);have q3:=aMh q1 (q4 _)
  clear q1 q4 qf
  lia
 ·rw[p2 _ (aMp ha hb),p2 _ (rK ha),p2 _ ha,p2 _ hb]
  have s:=qf.sub a b ha hb;have m:=BC row a b;lia
theorem OJ (ns:List Int) (hn:ns.length<=63) {n:Nat}(h1:1<=n) (h6:n<=6):∃ t,kB [.lst (tI ns),.int (n:Int)]=some (.lst (tI t))/\Fal n (10^200) t:=by
 have h64:=dD h6;obtain⟨sl,esl,hsl⟩:=PV ns hn h1 h6;have fc:=zO ns;generalize dP ns 0=c at fc;have d10:∀ i:Int,bV (.int i) (.int 10)=some (.int (i / 10)):=fun i=>hO (by decide) (by decide);have d40:∀ i:Int,bV (.int i) (.int 40)=some (.int (i / 40)):=fun i=>hO (by decide) (by decide);have m4:∀ i:Int,aY (.int i) (.int 4)=some (.int (i%4)):=fun i=>cR (by decide);have m2:∀ i:Int,aY (.int i) (.int 2)=some (.int (i%2)):=fun i=>cR (by decide);have m8:∀ i:Int,aY (.int i) (.int 8)=some (.int (i%8)):=fun i=>cR (by decide);have cc2:(2:Nat)<=cap:=by decide
 obtain⟨A,hA⟩:∃ A:Int,A=10^50:=⟨_,rfl⟩;obtain⟨W,hW⟩:∃ W:Int,W=10^58:=⟨_,rfl⟩;have p50:cD (.int 10) (.int 50)=some (.int A):=by rw[hA];exact jQ 10 50 (by decide +kernel)
 have p58:cD (.int 10) (.int 58)=some (.int W):=by rw[hW];exact jQ 10 58 (by decide +kernel)
 obtain⟨P,eP,hP1,hP2⟩:∃ P:Int,atI [T.int 4,T.int A] (c / 10%4%2)=some (.int P)/\0<P/\P<=10^50:=by
  rcases (show c / 10%4%2=0\/c / 10%4%2=1 by lia) with h | h
  ·exact⟨4,by rw[h];rfl,by decide,by decide⟩
  ·exact⟨A,by rw[h];rfl,by rw[hA];decide,by rw[hA];exact aL1 _⟩
 obtain⟨ta,ea,fa⟩:=PX h1 h6 hsl hP1 hP2;obtain⟨tb,eb,fb⟩:=DS h1 h6 hsl (P:=W) (by rw[hW];decide) (by rw[hW];exact aL1 _);obtain⟨td,ed,fd⟩:=DS h1 h6 hsl (P:=3) (by decide) (by decide);have fin:∀ t1:List Int,Fal n (10^62) t1->∃ t,(aH (rIf (fB (f2 (f2 (f2 (aG (aC (aA 0) (aC (fC (.int 0)) aE)) bX) (fC (.int 40)) bV) (fC (.int 8)) aY) (fC (.int 3)) oEq)) (dA 4 (cW (fFL (aA 4)) [none] bI tO)) bO) (aP (fM 4))) [some (.lst (tI ns)),some (.int (n:Int)),some (.lst (tI sl)),some (.int (c / 10%4)),some (.lst (tI t1))]=some (.rt (.lst (tI t)))/\Fal n (10^200) t:=by
  intro t1 hf1;have hl1:=hf1.len;have hb1:=hf1.bd;have hcap:t1.length<=cap:=by rw[hl1];unfold cap;lia
  by_cases hc:c / 40%8=3
  ·obtain⟨Q1,hQ1⟩:∃ Q:Int,Q=A^2:=⟨_,rfl⟩
   obtain⟨Q2,hQ2⟩:∃ Q:Int,Q=10^30:=⟨_,rfl⟩;have q2:cD (.int A) (.int 2)=some (.int Q1):=by rw[hQ1,hA];exact jQ (10^50) 2 (by decide +kernel)
   have q3:cD (.int 10) (.int 30)=some (.int Q2):=by rw[hQ2];exact jQ 10 30 (by decide +kernel)
   have q4:bH (.int Q1) (.int Q2)=some (.int (Q1*Q2)):=qP (xJ 500 500 (by rw[hQ1,hA];decide +kernel) (by rw[hQ2];decide +kernel) (by decide) (by decide));have hq:(Q1*Q2).natAbs=10^130:=by rw[hQ1,hQ2,hA];decide +kernel
   have hq0:0<=Q1*Q2:=by rw[hQ1,hQ2,hA];decide +kernel
   generalize Q1*Q2=Q at q4 hq hq0;have e1:bK bI tO [none] (tI t1)=some (tI (t1.map (· * Q))):=by
    refine wE _ fun x hx=>?_;have q5:bH (.int Q) (.int x)=some (.int (x*Q)):=by
     rw[qP (xJ 500 500 (by rw[hq];decide +kernel) (aMj (hb1 x hx) (by decide +kernel)) (by decide) (by decide)),Int.mul_comm]
    unfold tO;simp only[f2_at,fC_at,fVar_at,List.set,zz0,jn,zz2,p50,q2,q3,q4,q5]
   refine⟨t1.map (· * Q),?_,by simpa using hl1,?_,fun x hx=>?_,?_⟩
   ·simp only[rSeq_at,rSetM_at,rIf_at,rRet_at,fMut_at,fB_at,f2_at,fVar_at,fC_at,fCall_at,aCons_at,aNil_at,fComp_at,fFL_at,List.set,zz0,zz1,jn,zz2,zz3,fc,d40,m8,hc,oEq_int,beq_self_eq_true,isB_bl,if_true,dJ,bP,aLv,aLx,aMz,e1,tI_length,aLo,hcap,okM_lst,flat_tI']
   ·rw[sJ,hf1.zero];simp
   ·obtain⟨y,hy,rfl⟩:=aM5.mp hx
    rw[Int.natAbs_mul,hq];exact aMh (Nat.mul_le_mul_right _ (hb1 y hy)) (by decide)
   ·exact aFs hq0 hf1.sub
  ·have hc':(c / 40%8 == 3)=false:=by simpa using hc
   refine⟨t1,?_,hf1.le (by decide)⟩;simp only[rSeq_at,rIf_at,rNext_at,rRet_at,fMut_at,fB_at,f2_at,fVar_at,fC_at,fCall_at,aCons_at,aNil_at,zz0,zz1,jn,zz2,zz3,fc,d40,m8,hc',oEq_int,isB_bl,aKq,if_false,flat_tI',if_true]
 rw[NK];unfold tN;rw[rSeq_at,rSet_at];simp only[fCall_at,aCons_at,aNil_at,fVar_at,zz0,zz1,jn,zz2,zz3,esl,List.set];rw[rSeq_at,rSet_at];simp only[f2_at,fC_at,fCall_at,aCons_at,aNil_at,fVar_at,zz0,zz1,jn,zz2,zz3,fc,d10,m4,List.set];rw[rSeq_at,rSetM_at];simp only[f2_at,fC_at,fCall_at,fLst_at,aCons_at,aNil_at,fVar_at,zz0,zz1,jn,zz2,zz3,p50,aLm,aLp,aMw,Nat.reduceAdd,cc2,if_true,m2,oIx_lst,eP,ea,okM_lst,List.set]
 by_cases w0:c / 10%4=0
 ·obtain⟨t,e,f⟩:=fin tb fb
  rw[w0] at e ⊢;refine⟨t,?_,f⟩;rw[rSeq_at,rIf_at];simp only[rSetM_at,fB_at,f2_at,fC_at,fCall_at,aCons_at,aNil_at,fVar_at,zz0,zz1,jn,zz2,zz3,oEq_int,beq_self_eq_true,isB_bl,if_true,p58,eb,okM_lst,List.set];rw[rSeq_at,rIf_at];simp only[rNext_at,fB_at,f2_at,fC_at,fVar_at,zz0,zz1,jn,zz2,zz3,oEq_int,show ((0:Int) == 1)=false from rfl,isB_bl,aKq,if_false];rw[e];rfl
 ·have z0:(c / 10%4 == 0)=false:=by simpa using w0
  rw[rSeq_at,rIf_at];simp only[rNext_at,fB_at,f2_at,fC_at,fVar_at,zz0,zz1,jn,zz2,zz3,oEq_int,z0,isB_bl,aKq,if_false]
  by_cases w1:c / 10%4=1
  ·have z1:(c / 10%4 == 1)=true:=by simpa using w1
   obtain⟨t,e,f⟩:=fin td fd;refine⟨t,?_,f⟩;rw[rSeq_at,rIf_at];simp only[rSetM_at,fB_at,f2_at,fC_at,fCall_at,aCons_at,aNil_at,fVar_at,zz0,zz1,jn,zz2,zz3,oEq_int,z1,isB_bl,if_true,ed,okM_lst,List.set];rw[e];rfl
  ·have z1:(c / 10%4 == 1)=false:=by simpa using w1
   obtain⟨t,e,f⟩:=fin ta fa;refine⟨t,?_,f⟩;rw[rSeq_at,rIf_at];simp only[rNext_at,fB_at,f2_at,fC_at,fVar_at,zz0,zz1,jn,zz2,zz3,oEq_int,z1,isB_bl,aKq,if_false];rw[e];rfl
theorem aGt {a b c:Int}{k:Int}(h0:0<=k) (h:k<3):∃ x:Int,atI [T.int a,T.int b,T.int c] k=some (.int x)/\(x=a\/x=b\/x=c):=by
 rcases (show k=0\/k=1\/k=2 by lia) with rfl | rfl | rfl
 ·exact⟨a,rfl,.inl rfl⟩
 ·exact⟨b,rfl,.inr (.inl rfl)⟩
 ·exact⟨c,rfl,.inr (.inr rfl)⟩
theorem PQ (ns:List Int) (hn:ns.length<=63) {n:Nat}(h1:1<=n) (h6:n<=6) {st:Nat}(hst:st<=1000):∃ pr,jE [.lst (tI ns),.int (n:Int),.int (st:Int)]=some (.lst (tI pr))/\pr.length=n/\Bd (10^50) pr:=by
 have hr:=eY n (by lia);have r2:eZ [.int (st:Int),.int (ns.length:Int)]=some (G.rangeT (st:Int) (ns.length-st)):=by
  rw[xS (by lia) (by lia)]
  congr 2
  lia
 obtain⟨A,hA⟩:∃ A:Int,A=10^50:=⟨_,rfl⟩;obtain⟨W,hW⟩:∃ W:Int,W=10^55:=⟨_,rfl⟩;have p50:cD (.int 10) (.int 50)=some (.int A):=by rw[hA];exact jQ 10 50 (by decide +kernel)
 have p55:cD (.int 10) (.int 55)=some (.int W):=by rw[hW];exact jQ 10 55 (by decide +kernel)
 have mW:∀ i:Int,aY (.int i) (.int (W+7))=some (.int (i%(W+7))):=fun i=>cR (by rw[hW];decide);have mN:∀ i:Int,aY (.int i) (.int (n:Int))=some (.int (i%(n:Int))):=fun i=>cR (by lia);have k7:∀ i:Int,bH (.int i) (.int 7)=some (.int (i*7)):=fun i=>mX (by decide);have k31:∀ i:Int,bH (.int i) (.int 31)=some (.int (i*31)):=fun i=>mX (by decide);have e1:bK bI yN [none] (G.rangeT 0 n)=some (tI ((List.range n).map fun (k:Nat)=>(k:Int)*7)):=AE _ fun k hk=>by
  unfold yN;simp only[f2_at,fVar_at,fC_at,List.set,zz0,jn,zz2,k7]
 have hl0:((List.range n).map fun (k:Nat)=>(k:Int)*7).length=n:=by simp
 generalize ((List.range n).map fun (k:Nat)=>(k:Int)*7)=s0 at e1 hl0;obtain⟨ρ',hloop,sl,x4,x5,x6,rfl,q⟩:=rS (j:=4) (body:=yM) (fun i ρ=>∃ sl x4 x5 x6,ρ=[some (.lst (tI ns)),some (.int (n:Int)),some (.int (st:Int)),some (.lst (tI sl)),x4,x5,x6,none,none]/\sl.length=n) (G.rangeT (st:Int) (ns.length-st)) (fun i hi ρ hρ=>by
   obtain⟨sl,x4,x5,x6,rfl,q⟩:=hρ;have hi':i<ns.length-st:=by rw[jT] at hi;exact hi
   rw[yE];have a1:atI (tI ns) ((st:Int)+(i:Int))=some (.int (ns.getD ((st:Int)+(i:Int)).toNat 0)):=kY (by lia) (by lia);generalize ns.getD ((st:Int)+(i:Int)).toNat 0=c at a1;have p0:0<=((st:Int)+(i:Int))%(n:Int):=aL0 _ (by lia);have p1:((st:Int)+(i:Int))%(n:Int)<(n:Int):=aKz _ (by lia);have mo:=mN ((st:Int)+(i:Int));generalize ((st:Int)+(i:Int))%(n:Int)=at' at p0 p1 mo;have a2:atI (tI sl) at'=some (.int (sl.getD at'.toNat 0)):=kY (by lia) (by lia);have ix:ixN sl.length at'=some at'.toNat:=mU (by lia) (by lia);generalize sl.getD at'.toNat 0=g at a2;refine⟨[some (.lst (tI ns)),some (.int (n:Int)),some (.int (st:Int)),some (.lst (tI (sl.set at'.toNat ((g*31+c)%(W+7))))),some (.int ((st:Int)+(i:Int))),some (.int at'),some (.int (g*31+c)),none,none],.inl ?_,_,_,_,_,rfl,by simpa using q⟩;unfold yM;simp only[rSeq_at,rSet_at,rPut_at,f2_at,fVar_at,fC_at,List.set,zz0,zz1,jn,zz2,zz3,mo,oIx_lst,a2,k31,a1,oAdd_int,p55,mW,tI_length,ix,pP])
  [some (.lst (tI ns)),some (.int (n:Int)),some (.int (st:Int)),some (.lst (tI s0)),none,none,none,none,none] ⟨_,_,_,_,rfl,hl0⟩
 have d40:∀ i:Int,bV (.int i) (.int 40)=some (.int (i / 40)):=fun i=>hO (by decide) (by decide);have d5:∀ i:Int,bV (.int i) (.int 5)=some (.int (i / 5)):=fun i=>hO (by decide) (by decide);have m3:∀ i:Int,aY (.int i) (.int 3)=some (.int (i%3)):=fun i=>cR (by decide);have fc:=zO ns;generalize dP ns 0=c at fc;obtain⟨most,eM,hM⟩:=aGt (a:=1) (b:=3) (c:=A) (k:=c / 40%3) (aL0 _ (by decide)) (aKz _ (by decide));have M1:0<most:=by rcases hM with rfl | rfl | rfl<;>first | decide | (rw[hA];decide)
 have M2:most<=10^50:=by rcases hM with rfl | rfl | rfl<;>first | decide | (rw[hA];exact aL1 _)
 have k2:bH (.int 2) (.int most)=some (.int (2*most)):=xQ (by decide);have mM:∀ i:Int,aY (.int i) (.int (2*most+1))=some (.int (i%(2*most+1))):=fun i=>cR (by lia);have e2:bK bI yO [none,some (.int (2*most+1)),some (.int most)] (tI sl)=some (tI (sl.map fun i=>i / 5%(2*most+1)-most)):=wE _ fun i _=>by
  unfold yO;simp only[f2_at,fVar_at,fC_at,List.set,zz0,zz1,jn,zz2,d5,mM,oSub_int]
 have hc:s0.length<=cap:=by rw[hl0];unfold cap;lia
 have hc2:sl.length<=cap:=by rw[q];unfold cap;lia
 have cc3:(3:Nat)<=cap:=by decide
 refine⟨sl.map fun i=>i / 5%(2*most+1)-most,?_,by simpa using q,fun x hx=>?_⟩
 ·rw[NQ]
  unfold uB;simp only[rSeq_at,rSet_at,rSetM_at,rFor_at,rRet_at,f1_at,f2_at,fVar_at,fC_at,fCall_at,fLst_at,fComp_at,fRange_at,fFL_at,aCons_at,aNil_at,List.set,zz0,zz1,jn,zz2,zz3,hr,bP,aLx,aLv,aMz,e1,tI_length,hc,if_true,okM_lst,oLen_lst,r2,hloop,p50,aLm,aLp,aMw,Nat.reduceAdd,cc3,fc,d40,m3,oIx_lst,eM,gScal_int,k2,oAdd_int,dJ,e2,aLo,hc2,outT_rt]
 ·obtain⟨i,_,rfl⟩:=aM5.mp hx
  have z0:=aL0 (i / 5) (show (2*most+1:Int)≠0 by lia);have z1:=aKz (i / 5) (show (0:Int)<2*most+1 by lia);generalize i / 5%(2*most+1)=w at z0 z1;lia
theorem DO {row:List Int}(h6:row.length<=6) (g:Nat):gA [.lst (tI row),.int (g:Int)]=some (.int (gv row g)):=by
 have hr:=eY row.length (by lia);obtain⟨ρ',hloop,x3,rfl⟩:=mF (j:=3) (n:=row.length) (body:=tX) (fun i ρ=>∃ x3,ρ=[some (.lst (tI row)),some (.int (g:Int)),some (.int (gvS row (List.range i) g)),x3]) (fun i hi ρ hρ=>by
  obtain⟨x3,rfl⟩:=hρ;have a1:atI (tI row) (i:Int)=some (.int (row.getD i 0)):=bJ hi;rw[aMd,BB];have hb:=AB g i;cases hc:g.testBit i with
  | true=>
   rw[hc] at hb;refine⟨_,?_,some (.int (i:Int)),rfl⟩;unfold tX;simp only[rIf_at,rSet_at,fB_at,f2_at,fVar_at,fC_at,List.set,zz0,zz1,jn,zz2,zz3,sO,oAnd_int,rM,oEq_int,hb,isB_bl,if_true,oIx_lst,a1,oAdd_int]
  | false=>
   rw[hc] at hb;refine⟨_,?_,some (.int (i:Int)),rfl⟩;unfold tX;simp only[rIf_at,rNext_at,fB_at,f2_at,fVar_at,fC_at,List.set,zz0,zz1,jn,zz2,zz3,sO,oAnd_int,rM,oEq_int,hb,isB_bl,aKq,if_false,Int.add_zero]) [some (.lst (tI row)),some (.int (g:Int)),some (.int 0),none] ⟨none,rfl⟩
 rw[NM];unfold tW;simp only[rSeq_at,rSet_at,rFor_at,rRet_at,f1_at,fVar_at,fC_at,fCall_at,aCons_at,aNil_at,fRange_at,List.set,zz0,zz1,jn,zz2,zz3,oLen_lst,tI_length,hr,hloop,gScal_int,outT_rt]
 rfl
def qG (g:Nat):List Int:=((List.range 6).filter fun h=>g / 2^h%2 == 1).map fun (h:Nat)=>(h:Int)
theorem XD:(List.range 64).all (fun k=>CW (gE [.int (k:Int)]) (some (.lst (tI (qG k)))))=true:=by decide +kernel
theorem DQ {g:Nat}(h:g<64):gE [.int (g:Int)]=some (.lst (tI (qG g))):=LL (aKc.mp XD g (aKd.mpr h))
theorem XF:(List.range 7).all (fun n=>(List.range (2^n)).all fun g=>decide (qG g=((List.range n).filter fun k=>g / 2^k%2 == 1).map fun (k:Nat)=>(k:Int)))=true:=by decide +kernel
theorem XE {n g:Nat}(hn:n<=6) (hg:g<2^n):qG g=((List.range n).filter fun k=>g / 2^k%2 == 1).map fun (k:Nat)=>(k:Int):=
 of_decide_eq_true (aKc.mp (aKc.mp XF n (aKd.mpr (by lia))) g (aKd.mpr hg))
theorem aDj {n:Nat}(h:n<=6):2^n<=64:=aMh (aMq (by decide) h) (by decide:2^6<=64)
theorem PU {row:List Int}(h6:row.length<=6) {g:Nat}(hg:g<2^row.length):dZ [.lst (tI row),.int (g:Int)]=some (.int (sB row g)):=by
 have h64:=aDj h6;have e:bK bI yZ [none,some (.lst (tI row))] (tI (qG g))=some (tI (((List.range row.length).filter fun k=>g / 2^k%2 == 1).map fun k=>row.getD k 0)):=by
  rw[XE h6 hg];have:(((List.range row.length).filter fun k=>g / 2^k%2 == 1).map fun k=>row.getD k 0)=(((List.range row.length).filter fun k=>g / 2^k%2 == 1).map fun (k:Nat)=>(k:Int)).map fun i=>row.getD i.toNat 0:=by
   simp
  rw[this];refine wE _ fun i hi=>?_;obtain⟨k,hk,rfl⟩:=aM5.mp hi;have hk':=aKd.mp (aM1.mp hk).1;unfold yZ;simp only[f1_at,f2_at,fVar_at,List.set,zz0,zz1,jn,zz2,oIx_lst,bJ hk',gScal_int,aL2]
 have hc:(((List.range row.length).filter fun k=>g / 2^k%2 == 1).map fun k=>row.getD k 0).length<=cap:=by
  rw[aLo];have:=List.length_filter_le (fun k=>g / 2^k%2 == 1) (List.range row.length);rw[aLq] at this;unfold cap;lia
 rw[PR];unfold vI sB;simp only[rRet_at,fCall_at,aCons_at,aNil_at,fComp_at,fFL_at,fVar_at,zz0,zz1,jn,zz2,zz3,DQ (show g<64 by lia),dJ,bP,List.map,aMz,e,tI_length,hc,if_true,IZ,outT_rt]
theorem RA:(List.range 7).all (fun n=>Builtin.Int.intBits ((2^n:Nat):Int) == n+1)=true:=by decide +kernel
theorem DP {t:List Int}{n:Nat}(h6:n<=6) (hl:t.length=2^n):gD [.lst (tI t)]=some (.int (n:Int)):=by
 have b:=eq_of_beq (aKc.mp RA n (aKd.mpr (by lia)));rw[ON];unfold uW;simp only[rRet_at,fCall_at,aCons_at,aNil_at,f1_at,f2_at,fC_at,fVar_at,zz0,zz1,jn,zz2,zz3,oLen_lst,tI_length,hl,oBits_int,b,oSub_int,outT_rt]
 congr 2
 lia
theorem zP {row:List Int}(h6:row.length<=6) {g:Nat}(hg:g<2^row.length):dZ [.lst (tI row),.int (g:Int)]=some (.int (gv row g)):=by rw[PU h6 hg,GC]
def cX (t row:List Int):List Int:=(List.range t.length).map fun g=>t.getD g 0-gv row g
theorem xF (t row:List Int):(cX t row).length=t.length:=by simp[cX]
theorem II {t row:List Int}{g:Nat}(h:g<t.length):(cX t row).getD g 0=t.getD g 0-gv row g:=aA0 h
theorem IJ {n:Nat}{t row:List Int}(hl:t.length=2^n):cX t row≠[]:=fun z=>by
 have:=xF t row;rw[z,hl] at this;have hp:0<2^n:=aMs (by decide);simp at this;lia
theorem OW {n:Nat}(h6:n<=6) {t row:List Int}(hl:t.length=2^n) (hr:row.length=n):kR [.lst (tI t),.lst (tI row)]=some (.lst (tI (cX t row))):=by
 have h64:=dD h6;have e:cP [0,1] bI yW [none,none,some (.lst (tI row))] (cQ 0 (tI t))=some (tI (cX t row)):=by
  refine SD _ fun g hg=>?_;unfold yW;simp only[f2_at,fVar_at,fCall_at,aCons_at,aNil_at,List.set,zz0,zz1,jn,zz2,zP (row:=row) (by lia) (show g<2^row.length by rw[hr,<- hl];exact hg),oSub_int]
 have hc:(cX t row).length<=cap:=by rw[xF];unfold cap;lia
 rw[OX];unfold vC;simp only[rSeq_at,rIf_at,rNext_at,rRet_at,fB_at,f2_at,fVar_at,fCall_at,aCons_at,aNil_at,fCompT_at,fEnum_at,fFL_at,zz0,zz1,jn,zz2,zz3,oLen_lst,tI_length,DP h6 hl,hr,oNe_int,beq_self_eq_true,aKs,isB_bl,aKq,if_false,dJ,bP,aLv,aLx,aMz,e,hc,if_true,outT_rt]
theorem PM {n:Nat}(h6:n<=6) {t row:List Int}(hl:t.length=2^n) (hr:row.length=n):kU [.lst (tI t),.lst (tI row)]=some (.tup [.int ((cX t row).idxOf (cY (cX t row)):Nat),.int (-cY (cX t row))]):=by
 have hne:=IJ (row:=row) hl;have c2:(2:Nat)<=cap:=by decide
 have ng:∀ i:Int,hV (.int i)=some (.int (-i)):=fun i=>rfl;rw[PL];unfold vE;simp only[rSeq_at,rSet_at,rRet_at,f1_at,f2_at,fVar_at,fCall_at,aCons_at,aNil_at,fTup_at,List.set,zz0,zz1,jn,zz2,zz3,OW h6 hl hr,aAr hne,aAo (IV hne),ng,aLm,aLp,aMw,Nat.reduceAdd,c2,if_true,outT_rt]
theorem QA {n:Nat}(h6:n<=6) {t row:List Int}(hl:t.length=2^n) (hr:row.length=n):kQ [.lst (tI t),.lst (tI row)]=some (.bl (-cY (cX t row) == 0)):=by
 have i1:∀ x y:T,oIx (.tup [x,y]) (.int 1)=some y:=fun x y=>rfl;rw[OR];unfold vA;simp only[rRet_at,f2_at,fVar_at,fC_at,fCall_at,aCons_at,aNil_at,zz0,zz1,jn,zz2,zz3,PM h6 hl hr,i1,oEq_int,outT_rt]
theorem OH (t:List Int):fI [.lst (tI t)]=some (.int ((t.length:Int)-1)):=by
 rw[DM];simp[qX]
theorem NY {n:Nat}(h6:n<=6) {t row:List Int}(hl:t.length=2^n) (hr:row.length=n):jH [.lst (tI t),.lst (tI row)]=some (.bl ((-cY (cX t row) == 0)&&(gv row (2^n-1) == t.getD (2^n-1) 0))):=by
 have hp:0<2^n:=aMs (by decide);have ew:(t.length:Int)-1=((2^n-1:Nat):Int):=by lia
 have a1:atI (tI t) ((2^n-1:Nat):Int)=some (.int (t.getD (2^n-1) 0)):=bJ (by lia);have fg:=zP (row:=row) (by lia) (g:=2^n-1) (by rw[hr];lia);rw[OP];unfold uX;simp only[rSeq_at,rSet_at,rRet_at,vAnd_at,f1_at,f2_at,fVar_at,fCall_at,aCons_at,aNil_at,List.set,zz0,zz1,jn,zz2,zz3,OH,ew,gScal_int,QA h6 hl hr,isB_bl,fg,oIx_lst,a1,oEq_int];cases (-cY (cX t row) == 0)<;>rfl
def tN' (ns:List Nat):List Int:=ns.map fun (n:Nat)=>(n:Int)
theorem jX (ns:List Nat):(tN' ns).length=ns.length:=by simp[tN']
theorem aCp:(List.range 64).all (fun a=>(List.range 6).all fun h=>a.testBit h||(a|||2^h == a+2^h))=true:=by decide +kernel
theorem sU {a h:Nat}(ha:a<64) (hh:h<6) (hb:a.testBit h=false):a|||2^h=a+2^h:=by
 have:=aKc.mp (aKc.mp aCp a (aKd.mpr ha)) h (aKd.mpr hh);rw[hb,Bool.false_or] at this;exact eq_of_beq this
theorem DE {n j:Nat}{body:Rho->Option Out}{t:List Int}(h6:n<=6) (hl:t.length=2^n) (mk:List Int->Nat->Option T->Option T->Rho) (hset:∀ s a x y (h:Nat),(mk s a x y).set j (some (.int (h:Int)))=mk s a (some (.int (h:Int))) y)
  (hb:∀ (s:List Int) (a h:Nat) (y:Option T),s.length=n->a|||2^h<2^n->a.testBit h=false->h<n->∃ y',body (mk s a (some (.int (h:Int))) y)=some (.nx (mk (s.set h (t.getD (a|||2^h) 0-t.getD a 0)) (a|||2^h) (some (.int (h:Int))) y'))):
  ∀ (o:List Nat) (a:Nat) (s:List Int) (x y:Option T),s.length=n->a<2^n->o.Nodup->(∀ h∈o,h<n/\a.testBit h=false)->∃ a' x' y',bL j body (tI (tN' o)) (mk s a x y)=some (.nx (mk (dY t o a s) a' x' y'))
 | [],a,s,x,y,_,_,_,_=>⟨a,x,y,rfl⟩
 | h::r,a,s,x,y,hs,ha,hn,hh=>by
  obtain⟨h1,h2⟩:=hh h aKa;obtain⟨hr,hn'⟩:=aM9.mp hn;have hlt:a|||2^h<2^n:=aMp ha (aMr (by decide) h1);obtain⟨y',e⟩:=hb s a h y hs hlt h2 h1;obtain⟨a',x'',y'',e2⟩:=DE h6 hl mk hset hb r (a|||2^h) (s.set h (t.getD (a|||2^h) 0-t.getD a 0)) (some (.int (h:Int))) y' (by rw[aLs,hs]) hlt hn' (fun k hk=>⟨(hh k (aK9 _ hk)).1,by
   rw[aMu,aMv,(hh k (aK9 _ hk)).2];simp;intro e;subst e;exact hr hk⟩)
  refine⟨a',x'',y'',?_⟩;show bL j body (.int (h:Int)::tI (tN' r)) (mk s a x y)=_;rw[rR,hset,e];exact e2
def cS (n:Nat) (t:List Int) (o:List Nat):List Int:=dY t o 0 (List.replicate n 0)
theorem rG (n:Nat) (t:List Int) (o:List Nat):(cS n t o).length=n:=by unfold cS;rw[MO,List.length_replicate]
theorem sS {n:Nat}{o:List Nat}(hp:o.Perm (List.range n)):o.Nodup:=hp.nodup_iff.mpr List.nodup_range
theorem sR {n:Nat}{o:List Nat}(hp:o.Perm (List.range n)) {h:Nat}(hh:h∈o):h<n:=aKd.mp (hp.mem_iff.mp hh)
theorem PZ {t:List Int}{n a b:Nat}(hl:t.length=2^n) (ha:a<2^n) (hb:b<2^n):kX [.lst (tI t),.int (a:Int),.int (b:Int)]=some (.bl (decide (t.getD a 0+t.getD b 0<t.getD (a|||b) 0+t.getD (a&&&b) 0))):=by
 have e1:atI (tI t) (a:Int)=some (.int (t.getD a 0)):=bJ (by lia);have e2:atI (tI t) (b:Int)=some (.int (t.getD b 0)):=bJ (by lia);have e3:atI (tI t) ((a|||b:Nat):Int)=some (.int (t.getD (a|||b) 0)):=bJ (by rw[hl];exact aMp ha hb);have e4:atI (tI t) ((a&&&b:Nat):Int)=some (.int (t.getD (a&&&b) 0)):=bJ (by rw[hl];exact rK ha);rw[PY];unfold vJ;simp only[rRet_at,f2_at,fVar_at,zz0,zz1,jn,zz2,zz3,oIx_lst,e1,e2,oAdd_int,oOr_int,vY,e3,oAnd_int,AA,e4,oLt_int,outT_rt]
abbrev Tri:=Nat × Nat × Nat
def trT (x:Tri):T:=.tup [.int (x.1:Int),.int (x.2.1:Int),.int (x.2.2:Int)]
def bA (n S:Nat):List Nat:=(List.range 6).filter fun h=>(2^n-1-S) / 2^h%2 == 1
theorem XG (n S:Nat):qG (2^n-1-S)=(bA n S).map fun (h:Nat)=>(h:Int):=rfl
def brk (t:List Int) (x:Tri):Bool:=decide (t.getD (x.1|||2^x.2.1) 0+t.getD (x.1|||2^x.2.2) 0<t.getD ((x.1|||2^x.2.1)|||(x.1|||2^x.2.2)) 0+t.getD ((x.1|||2^x.2.1)&&&(x.1|||2^x.2.2)) 0)
def pZ (n S:Nat):List Tri:=(List.range (bA n S).length).flatMap fun p=>((bA n S).drop (p+1)).map fun j=>(S,(bA n S).getD p 0,j)
def dE (n:Nat):List Tri:=(List.range (2^n)).flatMap (pZ n)
theorem MU:(List.range 7).all (fun n=>(List.range (2^n)).all fun S=>(bA n S).all (fun i=>decide (S|||2^i<2^n)&&decide (i<6))&&(pZ n S).all (fun x=>decide (x.1|||2^x.2.1<2^n)&&decide (x.1|||2^x.2.2<2^n)&&(((x.1|||2^x.2.1)&&&(x.1|||2^x.2.2)) == x.1)&&(((x.1|||2^x.2.1)|||(x.1|||2^x.2.2)) == x.1|||(2^x.2.1|||2^x.2.2))))=true:=by decide +kernel
theorem JE {n S i:Nat}(hn:n<=6) (hS:S<2^n) (hi:i∈bA n S):S|||2^i<2^n/\i<6:=by
 have a:=aKc.mp (aKc.mp MU n (aKd.mpr (by lia))) S (aKd.mpr hS);rw[aKn] at a;have b:=aKc.mp a.1 i hi
 simpa using b
theorem OI (t:List Int):fI [.lst (tI t)]=some (.int ((t.length:Int)-1)):=by
 rw[DM];simp[qX]
theorem aHm:(List.range 7).all (fun n=>(List.range (2^n)).all fun g=>Builtin.bitXor ((2^n:Nat)-1:Int) (g:Int) == ((2^n-1-g:Nat):Int))=true:=by decide +kernel
theorem aHn {n g:Nat}(hn:n<=6) (hg:g<2^n):Builtin.bitXor (((2^n:Nat):Int)-1) (g:Int)=((2^n-1-g:Nat):Int):=
 eq_of_beq (aKc.mp (aKc.mp aHm n (aKd.mpr (by lia))) g (aKd.mpr hg))
def kZ (t:List Int) (n S:Nat):Option T:=((pZ n S).find? (brk t)).map trT
theorem NZ {n S:Nat}(hn:n<=6) (hS:S<2^n) {t:List Int}(hl:t.length=2^n):kN [.lst (tI t),.int (S:Int)]=some ((kZ t n S).getD .non):=by
 have h64:=dD hn;have fh:=DQ (g:=2^n-1-S) (by lia);rw[XG] at fh;have hol:(bA n S).length<=6:=by
  unfold bA;refine aMh (List.length_filter_le _ _) ?_;rw[aLq];exact aMg _
 have hlen:((bA n S).map fun (h:Nat)=>(h:Int)).length=(bA n S).length:=by simp
 have hget:∀ p,((bA n S).map fun (h:Nat)=>(h:Int)).getD p 0=(((bA n S).getD p 0:Nat):Int):=fun p=>by
  simp only[aK7,aLh];cases (bA n S)[p]?<;>rfl
 have main:=FN (js:=[3,4]) (body:=uQ) (fun ρ=>∃ x3 x4 x5,ρ=[some (.lst (tI t)),some (.int (S:Int)),some (.lst (tI ((bA n S).map fun (h:Nat)=>(h:Int)))),x3,x4,x5])
  (fun u=>match u with | .tup [.int p,_]=>((bA n S).drop (p.toNat+1)).findSome? (fun j=>if brk t (S,(bA n S).getD p.toNat 0,j) then some (trT (S,(bA n S).getD p.toNat 0,j)) else none) | _=>none)
  (cQ 0 (tI ((bA n S).map fun (h:Nat)=>(h:Int)))) (fun u hu ρ hρ=>by
   obtain⟨x3,x4,x5,rfl⟩:=hρ;rw[AK] at hu;obtain⟨p,hp,rfl⟩:=aM5.mp hu;have hp':p<(bA n S).length:=by rw[hlen] at hp;exact aKd.mp hp
   rw[hget];refine⟨_,[some (.lst (tI t)),some (.int (S:Int)),some (.lst (tI ((bA n S).map fun (h:Nat)=>(h:Int)))),some (.int (p:Int)),some (.int (((bA n S).getD p 0:Nat):Int)),x5],rfl,rfl,?_⟩;have hi:(bA n S).getD p 0∈bA n S:=by
    rw[aK7,aK8 hp'];exact List.getElem_mem hp'
   obtain⟨oi,oi6⟩:=JE hn hS hi;simp only[aL2];generalize (bA n S).getD p 0=i at hi oi oi6;have hsl:cM (tI ((bA n S).map fun (h:Nat)=>(h:Int))) (some ((p:Int)+1)) none none=tI (((bA n S).drop (p+1)).map fun (h:Nat)=>(h:Int)):=by
    rw[LW,LV _ (by lia),<- List.map_drop];rw[show ((p:Int)+1).toNat=p+1 by lia]
   have inner:=AT (j:=5) (body:=qW) (fun ρ=>∃ x5,ρ=[some (.lst (tI t)),some (.int (S:Int)),some (.lst (tI ((bA n S).map fun (h:Nat)=>(h:Int)))),some (.int (p:Int)),some (.int (i:Int)),x5])
    (fun u=>match u with | .int j=>if brk t (S,i,j.toNat) then some (trT (S,i,j.toNat)) else none | _=>none)
    (tI (((bA n S).drop (p+1)).map fun (h:Nat)=>(h:Int))) (fun u hu ρ hρ=>by
     obtain⟨x5,rfl⟩:=hρ;unfold tI at hu;rw[aLw] at hu;obtain⟨j,hj,rfl⟩:=aM5.mp hu;obtain⟨oj,oj6⟩:=JE hn hS (List.mem_of_mem_drop hj);have s1:=gP (b:=i) (by lia);have s2:=gP (b:=j) (by lia);have tb:=PZ hl oi oj;have c3:3<=cap:=by decide
     have run:qW [some (.lst (tI t)),some (.int (S:Int)),some (.lst (tI ((bA n S).map fun (h:Nat)=>(h:Int)))),some (.int (p:Int)),some (.int (i:Int)),some (.int (j:Int))]=if brk t (S,i,j) then some (.rt (trT (S,i,j))) else some (.nx [some (.lst (tI t)),some (.int (S:Int)),some (.lst (tI ((bA n S).map fun (h:Nat)=>(h:Int)))),some (.int (p:Int)),some (.int (i:Int)),some (.int (j:Int))]):=by
      unfold qW brk trT;simp only[rIf_at,rNext_at,rRet_at,fT_at,fTup_at,f1_at,f2_at,fVar_at,fC_at,fCall_at,aCons_at,aNil_at,zz0,zz1,jn,zz2,zz3,s1,s2,oOr_int,vY,tb,truT_bl,gScal_int,aLm,aLp,aMw,Nat.reduceAdd,c3,if_true]
     show _\/_;simp only[Function.comp,aL2,List.set];rw[run];cases hb:brk t (S,i,j) with
     | true=>exact .inr ⟨_,rfl,rfl⟩
     | false=>exact .inl ⟨rfl,_,rfl,_,rfl⟩) [some (.lst (tI t)),some (.int (S:Int)),some (.lst (tI ((bA n S).map fun (h:Nat)=>(h:Int)))),some (.int (p:Int)),some (.int (i:Int)),x5] ⟨_,rfl⟩
   have efs:(tI (((bA n S).drop (p+1)).map fun (h:Nat)=>(h:Int))).findSome? (fun u=>match u with | .int j=>if brk t (S,i,j.toNat) then some (trT (S,i,j.toNat)) else none | _=>none)=((bA n S).drop (p+1)).findSome? (fun j=>if brk t (S,i,j) then some (trT (S,i,j)) else none):=by
    unfold tI;rw[aLw,List.findSome?_map];refine wI fun j _=>?_;simp only[Function.comp,aL2]
   rw[efs] at inner;have e2:∀ r,bL 5 qW (tI (((bA n S).drop (p+1)).map fun (h:Nat)=>(h:Int))) [some (.lst (tI t)),some (.int (S:Int)),some (.lst (tI ((bA n S).map fun (h:Nat)=>(h:Int)))),some (.int (p:Int)),some (.int (i:Int)),x5]=r->uQ [some (.lst (tI t)),some (.int (S:Int)),some (.lst (tI ((bA n S).map fun (h:Nat)=>(h:Int)))),some (.int (p:Int)),some (.int (i:Int)),x5]=r:=fun r hr=>by
    unfold uQ;simp only[rFor_at,fFL_at,fSlice_at,oSome_at,oNone_at,f2_at,fVar_at,fC_at,zz0,zz1,jn,zz2,zz3,oAdd_int,isI_int,reduceCtorEq,if_false,hsl,dJ,hr]
   rcases inner with ⟨h1,ρ',h2,x5',rfl⟩ | ⟨r,h1,h2⟩
   ·exact .inl ⟨h1,_,e2 _ h2,_,_,_,rfl⟩
   ·exact .inr ⟨r,h1,e2 _ h2⟩) [some (.lst (tI t)),some (.int (S:Int)),some (.lst (tI ((bA n S).map fun (h:Nat)=>(h:Int)))),none,none,none] ⟨_,_,_,rfl⟩
 have efs:(cQ 0 (tI ((bA n S).map fun (h:Nat)=>(h:Int)))).findSome? (fun u=>match u with | .tup [.int p,_]=>((bA n S).drop (p.toNat+1)).findSome? (fun j=>if brk t (S,(bA n S).getD p.toNat 0,j) then some (trT (S,(bA n S).getD p.toNat 0,j)) else none) | _=>none)=kZ t n S:=by
  rw[AK,List.findSome?_map,hlen];unfold kZ pZ;rw[List.find?_flatMap,List.map_findSome?];refine wI fun p _=>?_;simp only[Function.comp,aL2];rw[FI,List.find?_map,Option.map_map]
  rfl
 rw[efs] at main;have x1:Builtin.bitXor ((t.length:Int)-1) (S:Int)=((2^n-1-S:Nat):Int):=by rw[hl];exact aHn hn hS
 rw[OC];unfold uP;simp only[rSeq_at,rSet_at,rForT_at,rRet_at,fEnum_at,fFL_at,f2_at,fVar_at,fC_at,fCall_at,aCons_at,aNil_at,List.set,zz0,zz1,jn,zz2,zz3,OI,oXor_int,x1,fh,dJ];rcases main with ⟨h1,ρ',h2,_⟩ | ⟨r,h1,h2⟩
 ·rw[h1,h2];rfl
 ·rw[h1,h2];rfl
def rN (t:List Int) (n:Nat):Option T:=((dE n).find? (brk t)).map trT
theorem OE {n:Nat}(hn:n<=6) {t:List Int}(hl:t.length=2^n):kO [.lst (tI t)]=some ((rN t n).getD .non):=by
 have h64:=dD hn;have hr:=eY t.length (by lia);have main:=AT (j:=1) (body:=yT) (fun ρ=>∃ x1 x2,ρ=[some (.lst (tI t)),x1,x2]) (fun u=>match u with | .int S=>kZ t n S.toNat | _=>none) (G.rangeT 0 t.length) (fun u hu ρ hρ=>by
  obtain⟨x1,x2,rfl⟩:=hρ;obtain⟨S,hS,rfl⟩:=IT hu;rw[Int.zero_add];simp only[aL2,List.set];have fb:=NZ hn (S:=S) (by lia) hl;unfold yT;cases hb:kZ t n S with
  | none=>
   rw[hb] at fb;refine .inl ⟨rfl,[some (.lst (tI t)),some (.int (S:Int)),some .non],?_,_,_,rfl⟩;simp only[rSeq_at,rSet_at,rIf_at,rNext_at,fB_at,f1_at,f2_at,fVar_at,fC_at,fCall_at,aCons_at,aNil_at,List.set,zz0,zz1,jn,zz2,zz3,fb,Option.getD_none]
   rfl
  | some r=>
   rw[hb] at fb;have hr3:∃ x:Tri,r=trT x:=by
    unfold kZ at hb;cases hf:(pZ n S).find? (brk t) with
    | none=>rw[hf] at hb;cases hb
    | some x=>rw[hf] at hb;exact⟨x,(aK6 hb).symm⟩
   obtain⟨x,rfl⟩:=hr3;refine .inr ⟨_,rfl,?_⟩;simp only[rSeq_at,rSet_at,rIf_at,rRet_at,fB_at,f1_at,f2_at,fVar_at,fC_at,fCall_at,aCons_at,aNil_at,List.set,zz0,zz1,jn,zz2,zz3,fb,Option.getD_some]
   rfl) [some (.lst (tI t)),none,none] ⟨_,_,rfl⟩
 have efs:(G.rangeT 0 t.length).findSome? (fun u=>match u with | .int S=>kZ t n S.toNat | _=>none)=rN t n:=by
  rw[KN,List.findSome?_map,hl];unfold rN dE;rw[List.find?_flatMap,List.map_findSome?];exact wI fun S _=>by simp only[Function.comp,aL2];rfl
 rw[efs] at main;rw[OD];unfold uR;simp only[rSeq_at,rFor_at,rRet_at,fRange_at,fC_at,fVar_at,fCall_at,aCons_at,aNil_at,zz0,jn,zz2,zz3,oLen_lst,tI_length,hr];rcases main with ⟨h1,ρ',h2,_⟩ | ⟨r,h1,h2⟩
 ·rw[h1,h2];rfl
 ·rw[h1,h2];rfl
theorem YI (t:List Int) (n:Nat):oIs ((rN t n).getD .non) .non=some (.bl ((dE n).find? (brk t)).isNone):=by
 unfold rN;cases (dE n).find? (brk t)<;>rfl
theorem DN {n:Nat}(hn:n<=6) {t:List Int}(hl:t.length=2^n):eO [.lst (tI t)]=some (.bl ((dE n).find? (brk t)).isNone):=by
 rw[OK];unfold uT;simp only[rRet_at,f2_at,fVar_at,fC_at,fCall_at,aCons_at,aNil_at,zz0,jn,zz2,zz3,OE hn hl,YI,outT_rt]
theorem MV {n:Nat}(hn:n<=6) {x:Tri}(hx:x∈dE n):x.1|||2^x.2.1<2^n/\x.1|||2^x.2.2<2^n/\(x.1|||2^x.2.1)&&&(x.1|||2^x.2.2)=x.1/\(x.1|||2^x.2.1)|||(x.1|||2^x.2.2)=x.1|||(2^x.2.1|||2^x.2.2):=by
 unfold dE at hx;obtain⟨S,hS,hb⟩:=List.mem_flatMap.mp hx;have a:=aKc.mp (aKc.mp MU n (aKd.mpr (by lia))) S hS;rw[aKn] at a;have b:=aKc.mp a.2 x hb;rw[aKn,aKn,aKn] at b;obtain⟨⟨⟨b1,b2⟩,b3⟩,b4⟩:=b;exact⟨of_decide_eq_true b1,of_decide_eq_true b2,eq_of_beq b3,eq_of_beq b4⟩
def mea (a b:Nat):Nat:=((List.range 6).filter fun h=>(a ^^^ b) / 2^h%2 == 1).length
def stp (n a b:Nat):Bool:=
 (fun a'=>(a'&&&b == a&&&b)&&(a|||(a'|||b) == a|||b)&&(a&&&(a'|||b) == a')&&decide (a'<2^n)&&decide (mea a' b<mea a b)&&decide (mea a (a'|||b)<mea a b)) ((a&&&b)+((a-(a&&&b))&&&(a-(a&&&b)-1)))
def chk (n a b:Nat):Bool:=
 ((a|||b == b)&&(a&&&b == a))||((a|||b == a)&&(a&&&b == b))||((pZ n (a&&&b)).any fun x=>((x.1|||2^x.2.1 == a)&&(x.1|||2^x.2.2 == b))||((x.1|||2^x.2.1 == b)&&(x.1|||2^x.2.2 == a)))||stp n a b||stp n b a
theorem RQ:(List.range 7).all (fun n=>(List.range (2^n)).all fun a=>(List.range (2^n)).all fun b=>chk n a b)=true:=by decide +kernel
theorem RS {n a b:Nat}(hn:n<=6) (ha:a<2^n) (hb:b<2^n):chk n a b=true:=
 aKc.mp (aKc.mp (aKc.mp RQ n (aKd.mpr (by lia))) a (aKd.mpr ha)) b (aKd.mpr hb)
theorem aA2 (a b:Nat):mea a b=mea b a:=by unfold mea;rw[Nat.xor_comm]
theorem glob {n:Nat}(hn:n<=6) {t:List Int}(hno:∀ x∈dE n,brk t x=false):∀ (k a b:Nat),a<2^n->b<2^n->mea a b<=k->t.getD (a|||b) 0+t.getD (a&&&b) 0<=t.getD a 0+t.getD b 0:=by
 have step:∀ (k:Nat),(∀ a b,a<2^n->b<2^n->mea a b<k->t.getD (a|||b) 0+t.getD (a&&&b) 0<=t.getD a 0+t.getD b 0)->∀ a b,a<2^n->b<2^n->mea a b<=k->stp n a b=true->t.getD (a|||b) 0+t.getD (a&&&b) 0<=t.getD a 0+t.getD b 0:=by
  intro k ih a b ha hb hm hs;unfold stp at hs;generalize (a&&&b)+((a-(a&&&b))&&&(a-(a&&&b)-1))=a' at hs;simp only[aKn,beq_iff_eq,decide_eq_true_eq] at hs;obtain⟨⟨⟨⟨⟨h1,h2⟩,h3⟩,h4⟩,h5⟩,h6⟩:=hs;have i1:=ih a' b h4 hb (by lia);have i2:=ih a (a'|||b) ha (aMp h4 hb) (by lia);rw[h1] at i1;rw[h2,h3] at i2;lia
 intro k
 induction k using Nat.strongRecOn with
 | _ k ih=>
  intro a b ha hb hm;have ih':∀ a b,a<2^n->b<2^n->mea a b<k->t.getD (a|||b) 0+t.getD (a&&&b) 0<=t.getD a 0+t.getD b 0:=fun a b ha hb h=>ih (mea a b) h a b ha hb (aMg _);have c:=RS hn ha hb;unfold chk at c;simp only[aKt] at c;rcases c with (((c | c) | c) | c) | c
  ·simp only[aKn,beq_iff_eq] at c
   rw[c.1,c.2];lia
  ·simp only[aKn,beq_iff_eq] at c
   rw[c.1,c.2];lia
  ·obtain⟨x,hx,hc⟩:=List.any_eq_true.mp c
   have hxt:x∈dE n:=List.mem_flatMap.mpr ⟨a&&&b,aKd.mpr (rK ha),hx⟩;have hb':=hno x hxt;unfold brk at hb';have hb':=of_decide_eq_false hb';simp only[aKt,aKn,beq_iff_eq] at hc;rcases hc with ⟨e1,e2⟩ | ⟨e1,e2⟩
   ·rw[e1,e2] at hb';lia
   ·rw[e1,e2,Nat.or_comm,Nat.and_comm] at hb';lia
  ·exact step k ih' a b ha hb hm c
  ·have:=step k ih' b a hb ha (by rw[aA2];exact hm) c
   rw[Nat.or_comm,Nat.and_comm];lia
theorem VA {n:Nat}(h6:n<=6) {t:List Int}(hs:Sub n t):(dE n).find? (brk t)=none:=by
 rw[List.find?_eq_none];intro x hx;obtain⟨h1,h2,h3,h4⟩:=MV h6 hx;have s:=hs _ _ h1 h2;unfold brk;simp only[decide_eq_true_eq];lia
theorem PK {n:Nat}(h6:n<=6) {t:List Int}(hl:t.length=2^n) (hs:Sub n t):kT [.lst (tI t)]=some .non:=by
 have f:=DN h6 hl;rw[VA h6 hs] at f;have f:eO [.lst (tI t)]=some (.bl true):=f;rw[PJ];unfold vD;simp only[rIf_at,rNext_at,pNot_at,fT_at,fVar_at,fCall_at,aCons_at,aNil_at,zz0,jn,zz2,zz3,f,truT_bl,aKs,aKq,if_false,outT_nx]
theorem aAs {n:Nat}(h6:n<=6):xT (.lst (tI [0])) (.int (n:Int))=some (.lst (tI (List.replicate n 0))):=by
 rcases (show n=0\/n=1\/n=2\/n=3\/n=4\/n=5\/n=6 by lia) with rfl | rfl | rfl | rfl | rfl | rfl | rfl<;>rfl
theorem DL {n:Nat}(h6:n<=6) {t:List Int}(hl:t.length=2^n) {o:List Nat}(hp:o.Perm (List.range n)):gC [.lst (tI t),.lst (tI (tN' o))]=some (.lst (tI (cS n t o))):=by
 have h64:=dD h6;have hp0:0<2^n:=aMs (by decide);obtain⟨a',x',y',hloop⟩:=DE (j:=4) (body:=yU) h6 hl (fun s a x y=>[some (.lst (tI t)),some (.lst (tI (tN' o))),some (.lst (tI s)),some (.int (a:Int)),x,y]) (fun s a x y h=>rfl) (fun s a h y hs hlt hb hh=>by
  have sh:=gP (b:=h) (by lia);have hle:a<=a|||2^h:=Nat.left_le_or;have a1:atI (tI t) ((a|||2^h:Nat):Int)=some (.int (t.getD (a|||2^h) 0)):=bJ (by lia);have a2:atI (tI t) (a:Int)=some (.int (t.getD a 0)):=bJ (by lia);have ix:ixN s.length (h:Int)=some h:=by rw[mU (by lia) (by lia)];simp
  refine⟨some (.int ((a|||2^h:Nat):Int)),?_⟩;unfold yU;simp only[rSeq_at,rSet_at,rPut_at,f1_at,f2_at,fVar_at,fC_at,List.set,zz0,zz1,jn,zz2,zz3,sh,oOr_int,vY,oIx_lst,a1,a2,oSub_int,tI_length,ix,pP,gScal_int]) o 0 (List.replicate n 0) none none (by simp) hp0 (sS hp) (fun h hh=>⟨sR hp hh,aMy h⟩)
 rw[OF];unfold uS cS;simp only[rSeq_at,rSet_at,rSetM_at,rFor_at,rRet_at,fMut_at,f2_at,fVar_at,fC_at,fCall_at,aCons_at,aNil_at,fFL_at,List.set,zz0,zz1,jn,zz2,zz3,DP h6 hl,aAs h6,okM_lst,if_true,dJ];rw[show (T.int 0)=T.int ((0:Nat):Int) from rfl,hloop];simp only[zz2,zz0,zz1,jn,flat_tI',if_true,zz3,outT_rt]
theorem OV {n:Nat}(h6:n<=6) {t:List Int}(hl:t.length=2^n) {o:List Nat}(hp:o.Perm (List.range n)):kA [.lst (tI t),.lst (tI (tN' o))]=some (.lst (tI (cS n t o))):=by
 have h64:=dD h6;have hol:o.length=n:=by rw[hp.length_eq,aLq]
 have hp0:0<2^n:=aMs (by decide);obtain⟨a',x',y',hloop⟩:=DE (j:=4) (body:=yI) h6 hl (fun s a x y=>[some (.lst (tI t)),some (.lst (tI (tN' o))),some (.lst (tI s)),some (.int (a:Int)),x]) (fun s a x y h=>rfl) (fun s a h y hs hlt hb hh=>by
  have sh:=gP (b:=h) (by lia);have hle:a<=a|||2^h:=Nat.left_le_or;have ad:(a:Int)+((2^h:Nat):Int)=((a|||2^h:Nat):Int):=by rw[sU (by lia) (by lia) hb];lia
  have a1:atI (tI t) ((a|||2^h:Nat):Int)=some (.int (t.getD (a|||2^h) 0)):=bJ (by lia);have a2:atI (tI t) (a:Int)=some (.int (t.getD a 0)):=bJ (by lia);have ix:ixN s.length (h:Int)=some h:=by rw[mU (by lia) (by lia)];simp
  refine⟨none,?_⟩;unfold yI;simp only[rSeq_at,rSet_at,rPut_at,f2_at,fVar_at,fC_at,List.set,zz0,zz1,jn,zz2,zz3,sh,oAdd_int,ad,oIx_lst,a1,a2,oSub_int,tI_length,ix,pP]) o 0 (List.replicate n 0) none none (by simp) hp0 (sS hp) (fun h hh=>⟨sR hp hh,aMy h⟩)
 have e1:bK bI CQ [none] (tI (tN' o))=some (tI (List.replicate n 0)):=by
  rw[wE (fun _=>0) (fun i _=>rfl)]
  congr 2
  rw[List.map_const',jX,hol]
 have hc:(List.replicate n (0:Int)).length<=cap:=by rw[List.length_replicate];unfold cap;lia
 rw[NI];unfold tL cS;simp only[rSeq_at,rSet_at,rSetM_at,rFor_at,rRet_at,fMut_at,fVar_at,fC_at,fComp_at,fFL_at,List.set,zz0,zz1,jn,zz2,zz3,dJ,bP,aLv,aLx,aMz,e1,tI_length,hc,if_true,okM_lst];rw[show (T.int 0)=T.int ((0:Nat):Int) from rfl,hloop];simp only[zz2,zz0,zz1,jn,flat_tI',if_true,zz3,outT_rt]
def gor (l:List Nat):Nat:=l.foldl (fun a h=>a|||2^h) 0
theorem GJ:∀ (l:List Nat) (a k:Nat),(l.foldl (fun a h=>a|||2^h) a).testBit k=(a.testBit k||decide (k∈l))
 | [],a,k=>by simp
 | h::l,a,k=>by
  rw[aLc,GJ l,aMu,aMv]
  by_cases hk:h=k
  ·subst hk;simp
  ·have:k≠h:=fun z=>hk z.symm
   simp[hk,this,aKi]
theorem wX (l:List Nat) (k:Nat):(gor l).testBit k=decide (k∈l):=by unfold gor;rw[GJ];simp
theorem GK (l:List Nat) (h:Nat):gor (l++[h])=gor l|||2^h:=by unfold gor;rw[List.foldl_append];rfl
theorem WM {l m:List Nat}(h:∀ k,k∈l ↔ k∈m):gor l=gor m:=Nat.eq_of_testBit_eq fun k=>by rw[wX,wX];exact decide_eq_decide.mpr (h k)
theorem WN {l:List Nat}{n:Nat}(h:∀ k∈l,k<n):gor l<2^n:=Nat.lt_pow_two_of_testBit _ fun k hk=>by
 rw[wX];exact decide_eq_false fun z=>absurd (h k z) (by lia)
theorem WL {o:List Nat}{n:Nat}(hp:o.Perm (List.range n)):gor o=2^n-1:=Nat.eq_of_testBit_eq fun k=>by
 rw[wX,Nat.testBit_two_pow_sub_one];exact decide_eq_decide.mpr ((hp.mem_iff).trans aKd)
def tot (t p:List Int):Nat->List Nat->Int
 | _,[]=>0
 | a,h::o=>p.getD h 0*(t.getD (a|||2^h) 0-t.getD a 0)+tot t p (a|||2^h) o
def eC (p:List Int) (o:List Nat):Prop:=o.Pairwise fun a b=>p.getD b 0<=p.getD a 0
def lvG (n:Nat) (p:List Int) (v:Int):Nat:=gor ((List.range n).filter fun k=>decide (v<=p.getD k 0))
def prs (L:List Int):List (Int × Int):=L.zip (L.drop 1++[0])
theorem aDk (v:Int):prs [v]=[(v,0)]:=rfl
theorem aDl (v u:Int) (L:List Int):prs (v::u::L)=(v,u)::prs (u::L):=rfl
def chs (n:Nat) (t p:List Int) (L:List Int):Int:=((prs L).map fun x=>(x.1-x.2)*t.getD (lvG n p x.1) 0).sum
theorem IQ {n:Nat}{p:List Int}{pre o:List Nat}{h:Nat}(hp:(pre++h::o).Perm (List.range n)) (hd:eC p (pre++h::o)) (hn:∀ k∈o,p.getD k 0<p.getD h 0):lvG n p (p.getD h 0)=gor (pre++[h]):=by
 refine WM fun k=>?_;rw[aM1,<- hp.mem_iff,decide_eq_true_eq];have hd':=List.pairwise_append.mp hd
 constructor
 ·rintro ⟨hk,hv⟩
  rcases aLy.mp hk with hk | hk
  ·exact aLz _ hk
  ·rcases aKi.mp hk with rfl | hk
   ·simp
   ·exact absurd (hn k hk) (by lia)
 ·intro hk
  rcases aLy.mp hk with hk | hk
  ·exact⟨aLz _ hk,hd'.2.2 k hk h aKa⟩
  ·cases aM8.mp hk
   exact⟨by simp,aL1 _⟩
theorem HG {L:List Int}{v m:Int}(hL:(v::L).Pairwise (· > ·)) (hm:m∈v::L) (h:∀ x∈v::L,x<=m):v=m:=by
 have h1:=h v aKa;rcases aKi.mp hm with e | e
 ·exact e.symm
 ·have:=(aMc.mp hL).1 m e
  lia
theorem DD {n:Nat}{t p:List Int}:∀ (o pre:List Nat) (h:Nat) (L:List Int),(pre++h::o).Perm (List.range n)->eC p (pre++h::o)->L.Pairwise (· > ·)->(∀ v,v∈L ↔ ∃ k∈h::o,p.getD k 0=v) ->
  tot t p (gor pre) (h::o)=chs n t p L-p.getD h 0*t.getD (gor pre) 0
 | [],pre,h,L,hp,hd,hL,hm=>by
  have hmem:p.getD h 0∈L:=(hm _).mpr ⟨h,by simp,rfl⟩;have e:L=[p.getD h 0]:=by
   cases L with
   | nil=>cases hmem
   | cons v L=>
    have hv:v=p.getD h 0:=by obtain⟨k,hk,e⟩:=(hm v).mp aKa;cases aM8.mp hk;exact e.symm
    cases L with
    | nil=>rw[hv]
    | cons u L=>
     have hu:u=p.getD h 0:=by obtain⟨k,hk,e⟩:=(hm u).mp (by simp);cases aM8.mp hk;exact e.symm
     have:=(aMc.mp hL).1 u aKa;lia
  rw[e];unfold tot tot chs;rw[aDk,IQ hp hd (fun k hk=>by cases hk) |> fun z=>show [(p.getD h 0,(0:Int))].map _=[(p.getD h 0-0)*t.getD (gor (pre++[h])) 0] by rw[<- z];rfl,GK];simp only[List.sum_cons,List.sum_nil];generalize t.getD (gor pre|||2^h) 0=x;generalize t.getD (gor pre) 0=y;generalize p.getD h 0=z;rw[Int.mul_sub,Int.sub_zero];lia
 | h'::o,pre,h,L,hp,hd,hL,hm=>by
  have hp':((pre++[h])++h'::o).Perm (List.range n):=by simpa using hp
  have hd':eC p ((pre++[h])++h'::o):=by simpa using hd
  have hd2:=(List.pairwise_append.mp hd).2.1;have hle:∀ k∈h'::o,p.getD k 0<=p.getD h 0:=(aMc.mp hd2).1;have hd3:=(aMc.mp hd2).2;have hle':∀ k∈o,p.getD k 0<=p.getD h' 0:=(aMc.mp hd3).1;have hgs:=GK pre h;show p.getD h 0*(t.getD (gor pre|||2^h) 0-t.getD (gor pre) 0)+tot t p (gor pre|||2^h) (h'::o)=_;rw[<- hgs]
  by_cases he:p.getD h' 0=p.getD h 0
  ·have hm':∀ v,v∈L ↔ ∃ k∈h'::o,p.getD k 0=v:=fun v=>by
    rw[hm v]
    constructor
    ·rintro ⟨k,hk,e⟩
     rcases aKi.mp hk with rfl | hk
     ·exact⟨h',by simp,he.trans e⟩
     ·exact⟨k,hk,e⟩
    ·rintro ⟨k,hk,e⟩
     exact⟨k,aK9 _ hk,e⟩
   rw[DD o (pre++[h]) h' L hp' hd' hL hm',he];generalize t.getD (gor (pre++[h])) 0=x;generalize t.getD (gor pre) 0=y;generalize p.getD h 0=z;rw[Int.mul_sub];lia
  ·have hlt:∀ k∈h'::o,p.getD k 0<p.getD h 0:=fun k hk=>by
    have h1:=hle h' aKa;rcases aKi.mp hk with rfl | hk
    ·lia
    ·have:=hle' k hk;lia
   cases L with
   | nil=>exact absurd ((hm (p.getD h 0)).mpr ⟨h,by simp,rfl⟩) (by simp)
   | cons v L=>
    have hv:v=p.getD h 0:=HG hL ((hm _).mpr ⟨h,by simp,rfl⟩) fun x hx=>by
     obtain⟨k,hk,rfl⟩:=(hm x).mp hx;rcases aKi.mp hk with rfl | hk
     ·exact aL1 _
     ·exact hle k hk
    obtain⟨hL1,hL2⟩:=aMc.mp hL;have hm':∀ x,x∈L ↔ ∃ k∈h'::o,p.getD k 0=x:=fun x=>by
     constructor
     ·intro hx
      obtain⟨k,hk,e⟩:=(hm x).mp (aK9 _ hx);rcases aKi.mp hk with rfl | hk
      ·have:=hL1 x hx;lia
      ·exact⟨k,hk,e⟩
     ·rintro ⟨k,hk,e⟩
      rcases aKi.mp ((hm x).mpr ⟨k,aK9 _ hk,e⟩) with z | z
      ·have:=hlt k hk;lia
      ·exact z
    rw[DD o (pre++[h]) h' L hp' hd' hL2 hm'];cases L with
    | nil=>exact absurd ((hm' (p.getD h' 0)).mpr ⟨h',by simp,rfl⟩) (by simp)
    | cons u L=>
     have hu:u=p.getD h' 0:=HG hL2 ((hm' _).mpr ⟨h',by simp,rfl⟩) fun x hx=>by
      obtain⟨k,hk,rfl⟩:=(hm' x).mp hx;rcases aKi.mp hk with rfl | hk
      ·exact aL1 _
      ·exact hle' k hk
     have e:chs n t p (v::u::L)=(v-u)*t.getD (lvG n p v) 0+chs n t p (u::L):=rfl;rw[e,hv,IQ hp hd hlt,hu];generalize t.getD (gor (pre++[h])) 0=x;generalize t.getD (gor pre) 0=y;generalize p.getD h 0=z;generalize p.getD h' 0=z';generalize chs n t p _=c;rw[Int.mul_sub,Int.sub_mul];lia
theorem IU:∀ (ns ks:List Int) (v:Int),v∈ns.foldl (fun ks k=>if k∈ks then ks else k::ks) ks ↔ v∈ks\/v∈ns
 | [],ks,v=>by simp
 | k::ns,ks,v=>by
  rw[aLc,IU ns]
  split
  ·rename_i hk
   constructor
   ·rintro (h | h)
    ·exact .inl h
    ·exact .inr (aK9 _ h)
   ·rintro (h | h)
    ·exact .inl h
    ·rcases aKi.mp h with rfl | h
     ·exact .inl hk
     ·exact .inr h
  ·rw[aKi,aKi]
   constructor
   ·rintro ((h | h) | h)
    ·exact .inr (.inl h)
    ·exact .inl h
    ·exact .inr (.inr h)
   ·rintro (h | h | h)
    ·exact .inl (.inr h)
    ·exact .inl (.inl h)
    ·exact .inr h
theorem aA3 (ns:List Int) (v:Int):v∈met ns ↔ v∈ns:=by unfold met;rw[IU];simp
theorem BQ:∀ (ns ks:List Int),ks.Nodup->(ns.foldl (fun ks k=>if k∈ks then ks else k::ks) ks).Nodup
 | [],ks,h=>h
 | k::ns,ks,h=>by
  rw[aLc]
  split
  ·exact BQ ns ks h
  ·rename_i hk
   exact BQ ns _ (aM9.mpr ⟨hk,h⟩)
theorem aA4 (ns:List Int):(met ns).Nodup:=BQ ns [] List.nodup_nil
def lev (ns:List Int):List Int:=fD (met ns)
theorem IM (ns:List Int) (v:Int):v∈lev ns ↔ v∈ns:=(rF _).mem_iff.trans (aA3 ns v)
theorem IK (ns:List Int):(lev ns).Pairwise (· > ·):=by
 have h1:=DC (met ns);have h2:(fD (met ns)).Nodup:=(rF _).nodup_iff.mpr (aA4 ns);exact (h1.and h2).imp fun ⟨a,b⟩=>by lia
theorem IL (ns:List Int):(lev ns).length<=ns.length:=by unfold lev;rw[(rF _).length_eq];exact BO ns
theorem DG {n:Nat}(h1:1<=n) {t p:List Int}(hz:t.getD 0 0=0) (hl:p.length=n) {o:List Nat}(hp:o.Perm (List.range n)) (hd:eC p o):chs n t p (lev p)=tot t p 0 o:=by
 cases o with
 | nil=>have:=hp.length_eq;simp at this;lia
 | cons h o=>
  have:=DD (t:=t) o [] h (lev p) hp hd (IK p) fun v=>by
   rw[IM]
   constructor
   ·intro hv
    obtain⟨k,hk,e⟩:=aM4.mp hv;exact⟨k,hp.mem_iff.mpr (aKd.mpr (by lia)),by rw[aK7,aK8 hk];exact e⟩
   ·rintro ⟨k,hk,rfl⟩
    exact wT (by have:=aKd.mp (hp.mem_iff.mp hk);lia)
  have e0:gor []=0:=rfl;rw[e0,hz] at this;lia
theorem GN:∀ (l:List Nat) (a:Nat) (r0 x2:Option T),(∀ h∈l,h<6)->a<64->∃ x2',bL 2 uV (tI (tN' l)) [r0,some (.int (a:Int)),x2]=some (.nx [r0,some (.int ((l.foldl (fun a h=>a|||2^h) a:Nat):Int)),x2'])
 | [],a,r0,x2,_,_=>⟨x2,rfl⟩
 | h::l,a,r0,x2,hl,ha=>by
  have hh:=hl h aKa;have sh:=gP (b:=h) (by lia);have hlt:a|||2^h<64:=aMp (n:=6) ha (aMr (by decide) hh);obtain⟨x2',e⟩:=GN l (a|||2^h) r0 (some (.int (h:Int))) (fun k hk=>hl k (aK9 _ hk)) hlt;refine⟨x2',?_⟩;have st:uV ([r0,some (.int (a:Int)),x2].set 2 (some (.int (h:Int))))=some (.nx [r0,some (.int ((a|||2^h:Nat):Int)),some (.int (h:Int))]):=by
   unfold uV;simp only[rSet_at,f2_at,fVar_at,fC_at,List.set,zz0,zz1,jn,zz2,zz3,sh,oOr_int,vY]
  have et:tI (tN' (h::l))=.int (h:Int)::tI (tN' l):=rfl;rw[et,rR,st,aLc];exact e
theorem OL {l:List Nat}(h:∀ k∈l,k<6):jG [.lst (tI (tN' l))]=some (.int (gor l:Int)):=by
 obtain⟨x2,e⟩:=GN l 0 (some (.lst (tI (tN' l)))) none h (by decide);have e0:T.int ((0:Nat):Int)=.int 0:=rfl;rw[e0] at e;unfold gor;rw[OM];unfold uU;simp only[rSeq_at,rSet_at,rFor_at,rRet_at,f1_at,fVar_at,fC_at,fFL_at,List.set,zz0,zz1,jn,zz2,zz3,dJ,e,gScal_int,outT_rt]
def tpC (x:Nat × Int):List T:=[.int (x.1:Int),.int x.2]
def chn (n:Nat) (p:List Int):List (Nat × Int):=(prs (lev p)).map fun x=>(lvG n p x.1,x.1-x.2)
theorem aHq (L:List Int):jB (tI L) (tI (L.drop 1++[0]))=tP (fun x:Int × Int=>[T.int x.1,T.int x.2]) (prs L):=by
 unfold prs;generalize L.drop 1++[0]=M
 induction L generalizing M with
 | nil=>rfl
 | cons v L ih=>
  cases M with
  | nil=>rfl
  | cons u M=>
   show T.tup [.int v,.int u]::jB (tI L) (tI M)=_;rw[ih M]
   rfl
theorem aFh {n:Nat}(h6:n<=6) {p:List Int}(hp:p.length=n) (v:Int):cP [0,1] yY yX [none,none,some (.int v)] (cQ 0 (tI p))=some (tI (tN' ((List.range n).filter fun k=>decide (v<=p.getD k 0)))):=by
 rw[US,hp,wF (fun k:Nat=>[T.int (k:Int),T.int (p.getD k 0)]) (fun k=>decide (v<=p.getD k 0)) (fun k=>.int (k:Int)) (List.range n) fun k hk=>⟨_,rfl,?_,fun _=>?_⟩]
 ·unfold tI tN'
  rw[aLw]
  rfl
 ·unfold yY
  generalize p.getD k 0=y;simp only[fB_at,f2_at,fVar_at,List.set,zz0,zz1,jn,zz2,oGe_int,isB_bl]
 ·unfold yX
  simp only[f1_at,fVar_at,List.set,zz0,jn,zz2,gScal_int]
theorem ER {n:Nat}(h6:n<=6) {p:List Int}(hp:p.length=n) (r1:Option T):∀ (xs:List (Int × Int)) (acc:List (Nat × Int)) (y3 y4 y5:Option T),acc.length+xs.length<=64 ->
  ∃ x3 x4 x5,dQ [3,4] vG (tP (fun x:Int × Int=>[T.int x.1,T.int x.2]) xs) [some (.lst (tI p)),r1,some (.lst (tP tpC acc)),y3,y4,y5]=some (.nx [some (.lst (tI p)),r1,some (.lst (tP tpC (acc++xs.map fun x=>(lvG n p x.1,x.1-x.2)))),x3,x4,x5])
 | [],acc,y3,y4,y5,_=>⟨y3,y4,y5,by simp[tP];rfl⟩
 | x::xs,acc,y3,y4,y5,hl=>by
  obtain⟨v,u⟩:=x;have sl:=aFh h6 hp v;have fg:jG [.lst (tI (tN' ((List.range n).filter fun k=>decide (v<=p.getD k 0))))]=some (.int (lvG n p v:Int)):=OL fun k hk=>by
   have:=aKd.mp (aM1.mp hk).1;lia
  have hc:(tI (tN' ((List.range n).filter fun k=>decide (v<=p.getD k 0)))).length<=cap:=by
   rw[tI_length,jX];have:=List.length_filter_le (fun k=>decide (v<=p.getD k 0)) (List.range n);rw[aLq] at this;unfold cap;lia
  have hc2:(tP tpC acc).length<cap:=by rw[aGd];simp at hl;unfold cap;lia
  have cc2:(2:Nat)<=cap:=by decide
  obtain⟨x3,x4,x5,e⟩:=ER h6 hp r1 xs (acc++[(lvG n p v,v-u)]) (some (.int v)) (some (.int u)) (some (.int (lvG n p v:Int))) (by simp at hl ⊢;lia);refine⟨x3,x4,x5,?_⟩;have ap:tP tpC acc++[.tup [.int (lvG n p v:Int),.int (v-u)]]=tP tpC (acc++[(lvG n p v,v-u)]):=by simp[tP,tpC]
  have st:vG [some (.lst (tI p)),r1,some (.lst (tP tpC acc)),some (.int v),some (.int u),y5]=some (.nx [some (.lst (tI p)),r1,some (.lst (tP tpC (acc++[(lvG n p v,v-u)]))),some (.int v),some (.int u),some (.int (lvG n p v:Int))]):=by
   rw[<- ap];generalize (List.range n).filter (fun k=>decide (v<=p.getD k 0))=fl at sl fg hc;generalize lvG n p v=g at fg;unfold vG;simp only[rSeq_at,rSet_at,rApp_at,f1_at,f2_at,fVar_at,fTup_at,fCall_at,fCompT_at,fEnum_at,fFL_at,aCons_at,aNil_at,List.set,zz0,zz1,jn,zz2,zz3,dJ,bP,aLv,aLx,aMz,sl,hc,if_true,fg,gScal_int,oSub_int,aLm,aLp,aMw,Nat.reduceAdd,cc2,hc2]
  show (setL [some (.lst (tI p)),r1,some (.lst (tP tpC acc)),y3,y4,y5] [3,4] [.int v,.int u]).bind _=_;simp only[setL_cons,setL_nil,zz2,List.set];rw[st];simp only[aLv,List.append_assoc,List.cons_append,List.nil_append] at e ⊢;exact e
theorem OG {n:Nat}(h6:n<=6) {p:List Int}(hp:p.length=n):kW [.lst (tI p)]=some (.lst (tP tpC (chn n p))):=by
 have hl:=IL p;have ol:sN (.lst (tI p))=some (.lst (tI (lev p))):=aAq (ns:=p) (by lia);have hprs:(prs (lev p)).length<=6:=by
  unfold prs;rw[List.length_zip];lia
 obtain⟨x3,x4,x5,e⟩:=ER h6 hp (some (.lst (tI (lev p)))) (prs (lev p)) [] none none none (by simp;lia);have e0:tP tpC []=[]:=rfl;rw[e0,List.nil_append] at e;have sl:cM (tI (lev p)) (some 1) none none=tI ((lev p).drop 1):=by rw[LW,LV _ (by decide)];rfl
 have cat:qN (.lst (tI ((lev p).drop 1))) (.lst (tI [0]))=some (.lst (tI ((lev p).drop 1++[0]))):=by
  rw[aAn (by rw[tI_length,tI_length];simp;unfold cap;lia),<- MH]
 have zp:=aHq (lev p);have fT:bR (tP tpC (chn n p))=true:=FJ tpC (fun _=>rfl) _;have nn:¬ (none:Option Int)=some 0:=fun z=>by cases z
 have z0:(0:Nat)<=cap:=aMx _;unfold chn at fT ⊢;rw[PN];unfold vF;simp only[rSeq_at,rSet_at,rSetM_at,rForT_at,rRet_at,fMut_at,f1_at,f2_at,fVar_at,fC_at,fLst_at,fZip_at,fFL_at,fSlice_at,oSome_at,oNone_at,aNil_at,List.set,zz0,zz1,jn,zz2,zz3,ol,isI_int,nn,if_false,sl,cat,dJ,zp,aLp,z0,if_true,okM_lst,e,fT,outT_rt]
theorem IO {x:Int}(h:x.natAbs<=2*10^80):x.natAbs<2^400:=aMj h (by decide +kernel)
theorem ZV {x:Int}(h:x.natAbs<=2*10^200):x.natAbs<2^700:=aMj h (by decide +kernel)
theorem aAf {x y:Int}(hx:x.natAbs<=2*10^80) (hy:y.natAbs<=2*10^200):bH (.int x) (.int y)=some (.int (x*y)):=qP (xJ 400 700 (IO hx) (ZV hy) (by decide) (by decide))
theorem xH (n:Nat) (p:List Int) (v:Int):lvG n p v<2^n:=WN fun k hk=>aKd.mp (aM1.mp hk).1
def cK (p:List Int) (i:Nat):List Nat->Nat
 | []=>0
 | j::o=>if p.getD i 0<=p.getD j 0 then cK p i o+1 else 0
def eG (p:List Int) (i:Nat):List Nat->List Nat
 | []=>[i]
 | j::o=>if p.getD i 0<=p.getD j 0 then j::eG p i o else i::j::o
theorem CF (p:List Int) (i:Nat):∀ o:List Nat,cK p i o<=o.length
 | []=>aMg _
 | j::o=>by have:=CF p i o;unfold cK;split<;>simp<;>lia
theorem JT (p:List Int) (i:Nat):∀ o:List Nat,dU o (cK p i o:Int) i=eG p i o
 | []=>rfl
 | j::o=>by
  have ih:=JT p i o;have hle:=CF p i o;unfold cK eG
  split
  ·rw[<- ih]
   unfold dU;rw[aL2,aL2,Nat.min_eq_left (by simp;lia),Nat.min_eq_left hle]
   rfl
  ·rfl
theorem JS (p:List Int) (i:Nat):∀ (o:List Nat) (k:Nat),k<cK p i o->∃ j,o[k]?=some j/\p.getD i 0<=p.getD j 0
 | [],k,h=>absurd h (Nat.not_lt_zero _)
 | j::o,k,h=>by
  unfold cK at h;split at h
  ·rename_i hc
   cases k with
   | zero=>exact⟨j,rfl,hc⟩
   | succ k=>exact JS p i o k (by lia)
  ·exact absurd h (Nat.not_lt_zero _)
theorem JU (p:List Int) (i:Nat):∀ (o:List Nat) (j:Nat),o[cK p i o]?=some j->p.getD j 0<p.getD i 0
 | [],j,h=>by simp at h
 | j'::o,j,h=>by
  unfold cK at h;split at h
  ·exact JU p i o j (by simpa using h)
  ·rename_i hc
   have:j'=j:=by simpa using h
   subst this;lia
theorem qH (p:List Int) (i:Nat):∀ o:List Nat,(eG p i o).Perm (i::o)
 | []=>.refl _
 | j::o=>by
  unfold eG
  split
  ·exact (List.Perm.cons j (qH p i o)).trans (List.Perm.swap i j o)
  ·exact .refl _
theorem BH (p:List Int) (i:Nat):∀ o:List Nat,eC p o->eC p (eG p i o)
 | [],_=>List.pairwise_singleton _ _
 | j::o,h=>by
  obtain⟨h1,h2⟩:=aMc.mp h;unfold eG
  split
  ·rename_i hc
   refine aMc.mpr ⟨fun k hk=>?_,BH p i o h2⟩;rcases aKi.mp ((qH p i o).mem_iff.mp hk) with rfl | hk
   ·exact hc
   ·exact h1 k hk
  ·rename_i hc
   refine aMc.mpr ⟨fun k hk=>?_,h⟩;rcases aKi.mp hk with rfl | hk
   ·lia
   ·have:=h1 k hk;lia
theorem XT (o:List Nat) (q:Int) (i:Nat):dU (tI (tN' o)) q (.int (i:Int))=tI (tN' (dU o q i)):=by
 unfold tI tN' dU;simp[List.map_take,List.map_drop]
def jW (p:List Int) (n:Nat):List Nat:=(List.range n).foldl (fun o i=>eG p i o) []
theorem DR {n:Nat}(h6:n<=6) {p:List Int}(hl:p.length=n):∃ o:List Nat,fH [.lst (tI p)]=some (.lst (tI (tN' o)))/\o.Perm (List.range n)/\eC p o/\o=jW p n:=by
 obtain⟨ρ',hloop,o,x2,x3,rfl,hp,hd,he⟩:=mF (j:=2) (n:=n) (body:=yL) (fun i ρ=>∃ (o:List Nat) (x2 x3:Option T),ρ=[some (.lst (tI p)),some (.lst (tI (tN' o))),x2,x3]/\o.Perm (List.range i)/\eC p o/\o=jW p i) (fun i hi ρ hρ=>by
   obtain⟨o,x2,x3,rfl,hp,hd,he⟩:=hρ;have hol:o.length=i:=by rw[hp.length_eq,aLq]
   have hple:=CF p i o;obtain⟨ρ1,hw,k,hk0,hk1,rfl⟩:=aHh (p:=qU) (r:=yK) (fun m ρ=>∃ k:Nat,m=cK p i o-k/\k<=cK p i o/\ρ=[some (.lst (tI p)),some (.lst (tI (tN' o))),some (.int (i:Int)),some (.int (k:Int))]) (fun m ρ hρ=>by
     obtain⟨k,rfl,hk,rfl⟩:=hρ;have ai:atI (tI p) (i:Int)=some (.int (p.getD i 0)):=bJ (by lia)
     by_cases hkk:k<cK p i o
     ·obtain⟨j,hj,hc⟩:=JS p i o k hkk
      have hjm:j<n:=by have:=aKd.mp (hp.mem_iff.mp (List.mem_of_getElem? hj));lia
      have hd1:decide ((k:Int)<(o.length:Int))=true:=decide_eq_true (by lia);have a1:atI (tI (tN' o)) (k:Int)=some (.int (j:Int)):=by
       rw[bJ (by rw[jX];lia)];unfold tN';rw[aK7,aLh,hj]
       rfl
      have a2:atI (tI p) (j:Int)=some (.int (p.getD j 0)):=bJ (by lia);have hd2:decide (p.getD i 0<=p.getD j 0)=true:=decide_eq_true hc;refine .inr ⟨?_,cK p i o-(k+1),[some (.lst (tI p)),some (.lst (tI (tN' o))),some (.int (i:Int)),some (.int ((k+1:Nat):Int))],by lia,?_,k+1,rfl,hkk,rfl⟩
      ·generalize p.getD i 0=y at ai hd2
       generalize p.getD j 0=z at a2 hd2;unfold qU;simp only[pAnd_at,fB_at,f2_at,fVar_at,fCall_at,aCons_at,aNil_at,zz0,zz1,jn,zz2,oLen_lst,tI_length,jX,oLt_int,hd1,isB_bl,if_true,oIx_lst,a1,a2,ai,oGe_int,hd2]
      ·have e:(k:Int)+1=((k+1:Nat):Int):=by lia
       unfold yK;simp only[rSet_at,f2_at,fVar_at,fC_at,List.set,zz0,zz1,jn,zz2,zz3,oAdd_int,e]
     ·have hke:k=cK p i o:=by lia
      refine .inl ⟨?_,by lia⟩
      by_cases hlt:k<o.length
      ·have hj:=aK8 hlt
       have ho:=JU p i o o[k] (by rw[<- hke];exact hj);have hjm:o[k]<n:=by have:=aKd.mp (hp.mem_iff.mp (List.getElem_mem hlt));lia
       have hd1:decide ((k:Int)<(o.length:Int))=true:=decide_eq_true (by lia);have a1:atI (tI (tN' o)) (k:Int)=some (.int (o[k]:Int)):=by
        rw[bJ (by rw[jX];lia)];unfold tN';rw[aK7,aLh,hj]
        rfl
       have a2:atI (tI p) (o[k]:Int)=some (.int (p.getD o[k] 0)):=bJ (by lia);have hd2:decide (p.getD i 0<=p.getD o[k] 0)=false:=decide_eq_false (by lia);generalize p.getD i 0=y at ai hd2;generalize p.getD o[k] 0=z at a2 hd2;unfold qU;simp only[pAnd_at,fB_at,f2_at,fVar_at,fCall_at,aCons_at,aNil_at,zz0,zz1,jn,zz2,oLen_lst,tI_length,jX,oLt_int,hd1,isB_bl,if_true,oIx_lst,a1,a2,ai,oGe_int,hd2]
      ·have hd1:decide ((k:Int)<(o.length:Int))=false:=decide_eq_false (by lia)
       unfold qU;simp only[pAnd_at,fB_at,f2_at,fVar_at,fCall_at,aCons_at,aNil_at,zz0,zz1,jn,zz2,oLen_lst,tI_length,jX,oLt_int,hd1,isB_bl,aKq,if_false]) 100000 (cK p i o-0) [some (.lst (tI p)),some (.lst (tI (tN' o))),some (.int (i:Int)),some (.int 0)] (by lia) ⟨0,rfl,aMx _,rfl⟩
   have hke:k=cK p i o:=by lia
   subst hke;have hcap:(tI (tN' o)).length<cap/\0<=((cK p i o:Nat):Int)/\((cK p i o:Nat):Int)<2^63:=⟨by rw[tI_length,jX];unfold cap;lia,by lia,by lia⟩;refine⟨[some (.lst (tI p)),some (.lst (tI (tN' (eG p i o)))),some (.int (i:Int)),some (.int (cK p i o:Int))],?_,_,_,_,rfl,?_,BH p i o hd,by rw[he];unfold jW;rw[aMd,List.foldl_append];rfl⟩
   ·have hins:=XT o (cK p i o:Int) i
    rw[JT] at hins;unfold yL;simp only[rSeq_at,rSet_at,rWhile_at,rIns_at,f1_at,fVar_at,fC_at,List.set,zz0,zz1,jn,zz2,zz3,hw,gScal_int,hins];rw[if_pos hcap]
   ·refine (qH p i o).trans ?_
    rw[aMd];exact (List.Perm.cons i hp).trans (List.perm_append_singleton i (List.range i)).symm) [some (.lst (tI p)),some (.lst (tI (tN' []))),none,none] ⟨[],none,none,rfl,.refl _,List.Pairwise.nil,rfl⟩
 have hr:=eY n (by lia);have hn:tI (tN' [])=[]:=rfl;rw[hn] at hloop;have z0:(0:Nat)<=cap:=aMx _;refine⟨o,?_,hp,hd,he⟩;rw[NP];unfold uA;simp only[rSeq_at,rSetM_at,rFor_at,rRet_at,fMut_at,fLst_at,fVar_at,fCall_at,aCons_at,aNil_at,fRange_at,List.set,zz0,zz1,jn,zz2,zz3,oLen_lst,tI_length,hl,aLp,z0,if_true,okM_lst,hr,hloop,flat_tI',outT_rt]
theorem OZ {n:Nat}(h6:n<=6) {p:List Int}(hl:p.length=n):∃ o:List Nat,fH [.lst (tI p)]=some (.lst (tI (tN' o)))/\o.Perm (List.range n)/\eC p o:=by
 obtain⟨o,h1,h2,h3,_⟩:=DR h6 hl;exact⟨o,h1,h2,h3⟩
theorem IR {n:Nat}(h6:n<=6) {t p:List Int}(hl:t.length=2^n) (hp:p.length=n) (bt:Bd (10^200) t) (bp:Bd (10^80) p):∀ (o:List Nat) (a:Nat) (s:Int) (x:Option T),a<2^n->o.Nodup->(∀ h∈o,h<n/\a.testBit h=false) ->
  ∃ a' x',bL 4 uN (tI (tN' o)) [some (.lst (tI t)),some (.lst (tI p)),some (.int (a:Int)),some (.int s),x]=some (.nx [some (.lst (tI t)),some (.lst (tI p)),a',some (.int (s+tot t p a o)),x'])
 | [],a,s,x,_,_,_=>⟨some (.int (a:Int)),x,by show some _=some _;simp[tot]⟩
 | h::o,a,s,x,ha,hnd,hb=>by
  have h64:=dD h6;obtain⟨hn1,hn2⟩:=aM9.mp hnd;obtain⟨hh,hbit⟩:=hb h aKa;have hlt:a|||2^h<2^n:=aMp ha (aMr (by decide) hh);have sh:=gP (b:=h) (by lia);have ad:(a:Int)+((2^h:Nat):Int)=((a|||2^h:Nat):Int):=by rw[sU (by lia) (by lia) hbit];lia
  have a1:atI (tI t) ((a|||2^h:Nat):Int)=some (.int (t.getD (a|||2^h) 0)):=bJ (by lia);have a2:atI (tI t) (a:Int)=some (.int (t.getD a 0)):=bJ (by lia);have a3:atI (tI p) (h:Int)=some (.int (p.getD h 0)):=bJ (by lia);have mu:=aAf (x:=p.getD h 0) (y:=t.getD (a|||2^h) 0-t.getD a 0) (by have:=bp.get h;lia) (by have h1:=bt.get (a|||2^h);have h2:=bt.get a;lia);obtain⟨a',x',e⟩:=IR h6 hl hp bt bp o (a|||2^h) (s+p.getD h 0*(t.getD (a|||2^h) 0-t.getD a 0)) (some (.int (h:Int))) hlt hn2 (fun k hk=>⟨(hb k (aK9 _ hk)).1,by
   rw[aMu,(hb k (aK9 _ hk)).2,aMv,Bool.false_or];exact decide_eq_false fun z=>hn1 (z ▸ hk)⟩)
  refine⟨a',x',?_⟩;have st:uN ([some (.lst (tI t)),some (.lst (tI p)),some (.int (a:Int)),some (.int s),x].set 4 (some (.int (h:Int))))=some (.nx [some (.lst (tI t)),some (.lst (tI p)),some (.int ((a|||2^h:Nat):Int)),some (.int (s+p.getD h 0*(t.getD (a|||2^h) 0-t.getD a 0))),some (.int (h:Int))]):=by
   generalize t.getD (a|||2^h) 0=y1 at a1 mu;generalize t.getD a 0=y2 at a2 mu;generalize p.getD h 0=y3 at a3 mu;unfold uN;simp only[rSeq_at,rSet_at,f2_at,fVar_at,fC_at,List.set,zz0,zz1,jn,zz2,zz3,oIx_lst,a3,sh,oAdd_int,ad,a1,a2,oSub_int,mu]
  have et:tI (tN' (h::o))=.int (h:Int)::tI (tN' o):=rfl;have es:s+tot t p a (h::o)=s+p.getD h 0*(t.getD (a|||2^h) 0-t.getD a 0)+tot t p (a|||2^h) o:=by show s+(_+_)=_;lia
  rw[et,rR,st,es];exact e
theorem PH {n:Nat}(h6:n<=6) {t p:List Int}(hl:t.length=2^n) (hp:p.length=n) (bt:Bd (10^200) t) (bp:Bd (10^80) p):∃ o:List Nat,kL [.lst (tI t),.lst (tI p)]=some (.int (tot t p 0 o))/\o.Perm (List.range n)/\eC p o:=by
 obtain⟨o,eo,hpo,hd⟩:=OZ h6 hp;obtain⟨a',x',e⟩:=IR h6 hl hp bt bp o 0 0 none (aMs (by decide)) (sS hpo) (fun h hh=>⟨sR hpo hh,aMy h⟩);have e0:T.int ((0:Nat):Int)=.int 0:=rfl;rw[e0,Int.zero_add] at e;refine⟨o,?_,hpo,hd⟩;rw[NX];unfold uM;simp only[rSeq_at,rSet_at,rFor_at,rRet_at,f1_at,fVar_at,fC_at,fCall_at,fFL_at,aCons_at,aNil_at,List.set,zz0,zz1,jn,zz2,zz3,eo,dJ,e,gScal_int,outT_rt]
def PrL (p:List Int) (a b:Nat):Prop:=p.getD b 0<p.getD a 0\/(p.getD a 0=p.getD b 0/\a<b)
theorem DT {p:List Int}(h6:p.length<=6):∃ o:List Nat,o.Perm (List.range p.length)/\o.Pairwise (PrL p)/\gF [.lst (tI p)]=some (.lst (tI (tN' o))):=by
 obtain⟨o,h1,h2,h3,h4⟩:=aCq h6;refine⟨o,h1,h2,?_⟩;have e:=aAt (ask:=eE) (ns:=p) rfl (by lia) h3;rw[h4] at e;rw[PP];unfold vH;simp only[rRet_at,fSK_at,fCall_at,aCons_at,aNil_at,fVar_at,zz0,jn,zz2,zz3,oLen_lst,tI_length,e,outT_rt]
 rfl
theorem UN {p:List Int}{o:List Nat}(h:o.Pairwise (PrL p)):eC p o:=h.imp fun z=>by
 unfold PrL at z;lia
structure Bas (n:Nat) (t s:List Int):Prop where
 len:s.length=n
 und:∀ g,g<2^n->gv s g<=t.getD g 0
 all:gv s (2^n-1)=t.getD (2^n-1) 0
def wt (n:Nat) (s p:List Int):Int:=((List.range n).map fun h=>s.getD h 0*p.getD h 0).sum
theorem HF {s:List Int}{h:Nat}(hh:h<s.length):gv s (2^h)=s.getD h 0:=by
 have h1:=BD (row:=s) (x:=0) hh (2^h);have h2:gv (s.set h 0) (2^h)=0:=by
  unfold gv;have:∀ ks:List Nat,gvS (s.set h 0) ks (2^h)=0:=by
   intro ks
   induction ks with
   | nil=>rfl
   | cons k ks ih=>
    rw[gvS,ih,aMv]
    by_cases hk:h=k
    ·subst hk;simp[aK7,hh]
    ·simp[hk]
  exact this _
 rw[h2,Nat.testBit_two_pow_self,if_pos rfl] at h1;lia
theorem XC {s:List Int}{a h:Nat}(hh:h<s.length) (hb:a.testBit h=false):gv s (a|||2^h)=gv s a+s.getD h 0:=by
 have h1:=BC s a (2^h);have h2:a&&&2^h=0:=Nat.eq_of_testBit_eq fun k=>by
  rw[aMt,aMv,aMy]
  by_cases hk:h=k
  ·subst hk;rw[hb];rfl
  ·simp[hk]
 rw[h2,mQ,HF hh] at h1;lia
def gvT (n:Nat) (s:List Int):List Int:=(List.range (2^n)).map fun g=>gv s g
theorem xA {n g:Nat}(s:List Int) (h:g<2^n):(gvT n s).getD g 0=gv s g:=by
 unfold gvT;rw[aK7,aLh,List.getElem?_range h];rfl
theorem MT {n:Nat}{s p:List Int}(hs:s.length=n):∀ (o:List Nat) (a:Nat),a<2^n->o.Nodup->(∀ h∈o,h<n/\a.testBit h=false)->tot (gvT n s) p a o=(o.map fun h=>s.getD h 0*p.getD h 0).sum
 | [],a,_,_,_=>rfl
 | h::o,a,ha,hnd,hb=>by
  obtain⟨hn1,hn2⟩:=aM9.mp hnd;obtain⟨hh,hbit⟩:=hb h aKa;have hlt:a|||2^h<2^n:=aMp ha (aMr (by decide) hh);unfold tot;rw[MT hs o _ hlt hn2 (fun k hk=>⟨(hb k (aK9 _ hk)).1,by
   rw[aMu,(hb k (aK9 _ hk)).2,aMv,Bool.false_or];exact decide_eq_false fun z=>hn1 (z ▸ hk)⟩),xA s hlt,xA s ha,XC (by lia) hbit,aLv,List.sum_cons,Int.mul_comm]
  congr 1
  congr 1
  lia
theorem UM {n:Nat}{p:List Int}(hl:p.length=n):∃ o:List Nat,o.Perm (List.range n)/\eC p o:=by
 suffices h:∀ i,∃ o:List Nat,o.Perm (List.range i)/\eC p o from h n
 intro i
 induction i with
 | zero=>exact⟨[],.refl _,List.Pairwise.nil⟩
 | succ i ih=>
  obtain⟨o,hp,hd⟩:=ih;refine⟨eG p i o,(qH p i o).trans ?_,BH p i o hd⟩;rw[aMd];exact (List.Perm.cons i hp).trans (List.perm_append_singleton i (List.range i)).symm
theorem MF {l m:List Int}(h:l.Perm m):l.sum=m.sum:=by
 induction h with
 | nil=>rfl
 | cons x _ ih=>simp[ih]
 | swap x y l=>simp;lia
 | trans _ _ ih1 ih2=>exact ih1.trans ih2
theorem RT {n:Nat}(h1:1<=n) {s p:List Int}(hs:s.length=n) (hp:p.length=n):chs n (gvT n s) p (lev p)=wt n s p:=by
 obtain⟨o,ho,hd⟩:=UM hp;have hp0:0<2^n:=aMs (by decide);rw[DG h1 (by rw[xA s hp0];exact mQ s) hp ho hd,MT hs o 0 hp0 (sS ho) (fun h hh=>⟨sR ho hh,aMy h⟩)];exact MF (ho.map _)
theorem JW:∀ (L:List Int),L.Pairwise (· > ·)->∀ x∈prs L,x.2<x.1\/∀ y∈L,x.1<=y
 | [],_,x,hx=>by cases hx
 | [v],_,x,hx=>by
  cases aM8.mp hx;exact .inr fun y hy=>by cases aM8.mp hy;exact aL1 _
 | v::u::L,h,x,hx=>by
  obtain⟨h1,h2⟩:=aMc.mp h;rw[aDl] at hx;rcases aKi.mp hx with rfl | hx
  ·exact .inl (h1 u aKa)
  ·rcases JW (u::L) h2 x hx with z | z
   ·exact .inl z
   ·refine .inr fun y hy=>?_
    rcases aKi.mp hy with rfl | hy
    ·have a:=z u aKa
     have b:=h1 u aKa;lia
    ·exact z y hy
theorem ME:∀ l:List Int,(∀ x∈l,0<=x)->0<=l.sum/\(l.sum=0 ↔ ∀ x∈l,x=0)
 | [],_=>⟨aL1 _,by simp⟩
 | x::l,h=>by
  obtain⟨a,b⟩:=ME l fun y hy=>h y (aK9 _ hy);have hx:=h x aKa;rw[List.sum_cons];refine⟨by lia,⟨fun z y hy=>?_,fun z=>?_⟩⟩
  ·rcases aKi.mp hy with rfl | hy
   ·lia
   ·exact b.mp (by lia) y hy
  ·rw[z x aKa,b.mpr fun y hy=>z y (aK9 _ hy)];rfl
theorem MG (f g:Int × Int->Int):∀ l:List (Int × Int),(l.map f).sum-(l.map g).sum=(l.map fun x=>f x-g x).sum
 | []=>rfl
 | x::l=>by have:=MG f g l;simp only[aLv,List.sum_cons];lia
theorem ZX {n:Nat}{p:List Int}(hp:p.length=n) {v:Int}(h:∀ y∈lev p,v<=y):lvG n p v=2^n-1:=by
 unfold lvG;rw[List.filter_eq_self.mpr fun k hk=>decide_eq_true (h _ ((IM p _).mpr (wT (by have:=aKd.mp hk;lia))))];exact WL (.refl _)
theorem aHg {n:Nat}(h1:1<=n) {t s p:List Int}(B:Bas n t s) (hp:p.length=n):wt n s p<=chs n t p (lev p)/\(wt n s p=chs n t p (lev p) ↔ ∀ x∈prs (lev p),gv s (lvG n p x.1)=t.getD (lvG n p x.1) 0):=by
 rw[<- RT h1 B.len hp];have key:chs n t p (lev p)-chs n (gvT n s) p (lev p)=((prs (lev p)).map fun x=>(x.1-x.2)*(t.getD (lvG n p x.1) 0-gv s (lvG n p x.1))).sum:=by
  unfold chs;rw[MG]
  congr 1
  refine List.map_congr_left fun x hx=>?_;rw[xA s (xH n p x.1),Int.mul_sub]
 have term:∀ x∈prs (lev p),0<=(x.1-x.2)*(t.getD (lvG n p x.1) 0-gv s (lvG n p x.1))/\((x.1-x.2)*(t.getD (lvG n p x.1) 0-gv s (lvG n p x.1))=0 ↔ gv s (lvG n p x.1)=t.getD (lvG n p x.1) 0):=fun x hx=>by
  have hu:=B.und _ (xH n p x.1);rcases JW _ (IK p) x hx with z | z
  ·refine⟨Int.mul_nonneg (by lia) (by lia),⟨fun e=>?_,fun e=>by rw[e];simp⟩⟩
   rcases Int.mul_eq_zero.mp e with q | q<;>lia
  ·have e:=B.all
   rw[ZX hp z,e];simp
 obtain⟨a,b⟩:=ME _ (fun y hy=>by obtain⟨x,hx,rfl⟩:=aM5.mp hy;exact (term x hx).1:∀ y∈(prs (lev p)).map fun x=>(x.1-x.2)*(t.getD (lvG n p x.1) 0-gv s (lvG n p x.1)),0<=y);rw[<- key] at a b;refine⟨by lia,⟨fun e x hx=>?_,fun e=>?_⟩⟩
 ·exact (term x hx).2.mp (b.mp (by lia) _ (aM5.mpr ⟨x,hx,rfl⟩))
 ·have:=b.mpr fun y hy=>by
   obtain⟨x,hx,rfl⟩:=aM5.mp hy;exact (term x hx).2.mpr (e x hx)
  lia
theorem EH {n b:Nat}{t s:List Int}(B:Bas n t s) (bt:Bd b t) (h:Nat):(s.getD h 0).natAbs<=2*b:=by
 by_cases hh:h<n
 ·have hsl:=B.len
  have hlt:2^h<2^n:=aMr (by decide) hh;have u1:=B.und (2^h) hlt;have hp0:0<2^h:=aMs (by decide);have u2:=B.und (2^n-1-2^h) (by lia);have hc:=XB (row:=s) (a:=2^h) (by rw[hsl];exact hlt);rw[hsl] at hc;rw[HF (by lia)] at u1 hc;have e:=B.all;have b1:=bt.get (2^h);have b2:=bt.get (2^n-1-2^h);have b3:=bt.get (2^n-1);lia
 ·rw[aK7,aLf (by have:=B.len;lia)];exact aMx _
theorem NC:∀ (s p:List Int),jB (tI s) (tI p)=tP (fun x:Int × Int=>[T.int x.1,T.int x.2]) (s.zip p)
 | [],_=>rfl
 | _::_,[]=>rfl
 | v::s,u::p=>by
  show T.tup [.int v,.int u]::jB (tI s) (tI p)=_;rw[NC s p]
  rfl
theorem aHp {n:Nat}{s p:List Int}(hs:s.length=n) (hp:p.length=n):(s.zip p).map (fun x=>x.1*x.2)=(List.range n).map fun h=>s.getD h 0*p.getD h 0:=by
 refine List.ext_getElem (by simp[hs,hp]) fun i h1 h2=>?_;have hi:i<n:=by simpa using h2
 simp only[List.getElem_map,List.getElem_zip,List.getElem_range,aK7,aK8 (show i<s.length by lia),aK8 (show i<p.length by lia),Option.getD_some]
theorem ZW {x:Int}(h:x.natAbs<=3*10^200):x.natAbs<2^700:=aMj h (by decide +kernel)
theorem IX {x y:Int}(hx:x.natAbs<=3*10^200) (hy:y.natAbs<=10^80):bH (.int x) (.int y)=some (.int (x*y)):=qP (xJ 700 400 (ZW hx) (IO (by lia)) (by decide) (by decide))
theorem QC {n:Nat}(h6:n<=6) {s p:List Int}(hs:s.length=n) (hp:p.length=n) (bs:∀ h,(s.getD h 0).natAbs<=3*10^200) (bp:Bd (10^80) p):jI [.lst (tI s),.lst (tI p)]=some (.int (wt n s p)):=by
 have ec:cP [0,1] bI vL [none,none] (tP (fun x:Int × Int=>[T.int x.1,T.int x.2]) (s.zip p))=some (tI ((List.range n).map fun h=>s.getD h 0*p.getD h 0)):=by
  rw[wF (fun x:Int × Int=>[T.int x.1,T.int x.2]) (fun _=>true) (fun x=>.int (x.1*x.2)) (s.zip p) fun x hx=>⟨_,rfl,rfl,fun _=>?_⟩]
  ·rw[List.filter_eq_self.mpr (fun _ _=>rfl),<- aHp hs hp]
   unfold tI;rw[aLw]
   rfl
  ·obtain⟨a,b⟩:=x
   obtain⟨m1,m2⟩:=List.of_mem_zip hx;obtain⟨i,hi,e⟩:=aM4.mp m1;have e':s.getD i 0=a:=by rw[aK7,aK8 hi];exact e
   have mu:=IX (x:=a) (y:=b) (by rw[<- e'];exact bs i) (bp b m2);show vL [some (.int a),some (.int b)]=_;unfold vL;simp only[f2_at,fVar_at,zz0,zz1,jn,zz2,mu]
 have hc:(tI ((List.range n).map fun h=>s.getD h 0*p.getD h 0)).length<=cap:=by rw[tI_length];simp;unfold cap;lia
 unfold wt;rw[QD];unfold vK;generalize (List.range n).map (fun h=>s.getD h 0*p.getD h 0)=zs at ec hc;simp only[rRet_at,fCall_at,aCons_at,aNil_at,fCompT_at,fZip_at,fFL_at,fVar_at,zz0,zz1,jn,zz2,zz3,dJ,NC,bP,aLv,aLx,aMz,ec,hc,if_true,IZ,outT_rt]
theorem PF {n:Nat}(h6:n<=6) {s p:List Int}(hs:s.length=n) (hp:p.length=n) (bs:∀ h,(s.getD h 0).natAbs<=3*10^200) (bp:Bd (10^80) p):jF [.lst (tI s),.lst (tI p)]=some (.int (wt n s p)):=by
 have hr:=eY n (by lia);obtain⟨ρ',hloop,x3,rfl⟩:=mF (j:=3) (n:=n) (body:=yS) (fun i ρ=>∃ x3,ρ=[some (.lst (tI s)),some (.lst (tI p)),some (.int (wt i s p)),x3]) (fun i hi ρ hρ=>by
   obtain⟨x3,rfl⟩:=hρ;have a1:atI (tI s) (i:Int)=some (.int (s.getD i 0)):=bJ (by lia);have a2:atI (tI p) (i:Int)=some (.int (p.getD i 0)):=bJ (by lia);have mu:=IX (bs i) (bp.get i);have e:wt (i+1) s p=wt i s p+s.getD i 0*p.getD i 0:=by
    unfold wt;rw[aMd,List.map_append,List.sum_append];simp
   refine⟨[some (.lst (tI s)),some (.lst (tI p)),some (.int (wt (i+1) s p)),some (.int (i:Int))],?_,_,rfl⟩;rw[e];generalize s.getD i 0=y1 at a1 mu;generalize p.getD i 0=y2 at a2 mu;generalize wt i s p=w;unfold yS;simp only[rSet_at,f2_at,fVar_at,List.set,zz0,zz1,jn,zz2,zz3,oIx_lst,a1,a2,mu,oAdd_int]) [some (.lst (tI s)),some (.lst (tI p)),some (.int 0),none] ⟨none,rfl⟩
 rw[NV];unfold uK;generalize wt n s p=w at hloop;simp only[rSeq_at,rSet_at,rFor_at,rRet_at,f1_at,fVar_at,fC_at,fCall_at,fRange_at,aCons_at,aNil_at,List.set,zz0,zz1,jn,zz2,zz3,oLen_lst,tI_length,hp,hr,hloop,gScal_int,outT_rt]
theorem QB {n:Nat}(h6:n<=6) {s p:List Int}(hs:s.length=n) (hp:p.length=n) (bs:∀ h,(s.getD h 0).natAbs<=2*10^200) (bp:Bd (10^80) p):jI [.lst (tI s),.lst (tI p)]=some (.int (wt n s p)):=QC h6 hs hp (fun h=>aMh (bs h) (by decide +kernel)) bp
theorem PD {n:Nat}(h6:n<=6) {s p:List Int}(hs:s.length=n) (hp:p.length=n) (bs:∀ h,(s.getD h 0).natAbs<=2*10^200) (bp:Bd (10^80) p):jF [.lst (tI s),.lst (tI p)]=some (.int (wt n s p)):=PF h6 hs hp (fun h=>aMh (bs h) (by decide +kernel)) bp
theorem QX {n:Nat}(h6:n<=6) {t s:List Int}(hl:t.length=2^n) (hz:t.getD 0 0=0) (B:Bas n t s):jH [.lst (tI t),.lst (tI s)]=some (.bl true):=by
 have hp0:0<2^n:=aMs (by decide);rw[NY h6 hl B.len];have hm:cY (cX t s)=0:=by
  have h1:=IV (IJ (row:=s) hl);obtain⟨g,hg,e⟩:=aM4.mp h1;have hg':g<t.length:=by rw[xF] at hg;exact hg
  have e':(cX t s).getD g 0=cY (cX t s):=by rw[aK7,aK8 hg];exact e
  rw[II hg'] at e';have h2:=B.und g (by lia);have h3:cY (cX t s)<=(cX t s).getD 0 0:=aA7 (wT (by rw[xF];lia));rw[II (by lia),mQ,hz] at h3;lia
 rw[hm,B.all];simp
theorem QZ {n:Nat}(h1:1<=n) (h6:n<=6) {t s p:List Int}(hl:t.length=2^n) (hz:t.getD 0 0=0) (B:Bas n t s) (hp:p.length=n):kP [.lst (tI t),.lst (tI p),.lst (tI s)]=some (.bl (wt n s p == chs n t p (lev p))):=by
 have fb:=QX h6 hl hz B;have fc:=OG h6 hp;have hsl:=B.len;have hprs:(prs (lev p)).length<=6:=by
  have:=IL p;unfold prs;rw[List.length_zip];lia
 have ec:cP [0,1] bI uZ [none,none,some (.lst (tI s)),some (.lst (tI t))] (tP tpC (chn n p))=some (G.tB ((prs (lev p)).map fun x=>gv s (lvG n p x.1) == t.getD (lvG n p x.1) 0)):=by
  rw[wF tpC (fun _=>true) (fun x=>.bl (gv s x.1 == t.getD x.1 0)) (chn n p) fun x hx=>⟨_,rfl,rfl,fun _=>?_⟩]
  ·unfold chn G.tB
   rw[List.filter_eq_self.mpr (fun _ _=>rfl),aLw,aLw]
   rfl
  ·obtain⟨y,hy,rfl⟩:=aM5.mp hx
   have a1:atI (tI t) (lvG n p y.1:Int)=some (.int (t.getD (lvG n p y.1) 0)):=bJ (by rw[hl];exact xH n p y.1);have fg:=zP (row:=s) (by lia) (g:=lvG n p y.1) (by rw[hsl];exact xH n p y.1);show uZ [some (.int (lvG n p y.1:Int)),some (.int (y.1-y.2)),some (.lst (tI s)),some (.lst (tI t))]=_;generalize t.getD (lvG n p y.1) 0=tg at a1;generalize gv s (lvG n p y.1)=sg at fg;unfold uZ;simp only[f2_at,fVar_at,fCall_at,aCons_at,aNil_at,zz0,zz1,jn,zz2,oIx_lst,a1,fg,oEq_int]
 have hc:(G.tB ((prs (lev p)).map fun x=>gv s (lvG n p x.1) == t.getD (lvG n p x.1) 0)).length<=cap:=by unfold G.tB;rw[aLo,aLo];unfold cap;lia
 have fT:gN (.lst (tP tpC (chn n p)))=some (tP tpC (chn n p)):=by
  show (if bR (tP tpC (chn n p))=true then some (tP tpC (chn n p)) else none)=_;rw[if_pos (FJ tpC (fun _=>rfl) _)]
 have oa:=IY ((prs (lev p)).map fun x=>gv s (lvG n p x.1) == t.getD (lvG n p x.1) 0);have ee:((prs (lev p)).map fun x=>gv s (lvG n p x.1) == t.getD (lvG n p x.1) 0).all id=(wt n s p == chs n t p (lev p)):=by
  rw[aKp,beq_iff_eq,(aHg h1 B hp).2,List.all_map,aKc];exact⟨fun h x hx=>by simpa using h x hx,fun h x hx=>by simpa using h x hx⟩
 rw[ee] at oa;rw[OQ];unfold uY;generalize (prs (lev p)).map (fun x=>gv s (lvG n p x.1) == t.getD (lvG n p x.1) 0)=zs at ec hc oa;simp only[rSeq_at,rIf_at,rNext_at,rRet_at,pNot_at,fT_at,fVar_at,fC_at,fCall_at,aCons_at,aNil_at,fCompT_at,fFL_at,zz0,zz1,jn,zz2,zz3,fb,truT_bl,aKs,aKq,if_false,fc,fT,bP,aLv,aLx,aMz,ec,hc,if_true,oa,outT_rt]
theorem MN {t:List Int}{h:Nat}:∀ (o:List Nat) (a:Nat) (s:List Int),h ∉ o->(dY t o a s).getD h 0=s.getD h 0
 | [],a,s,_=>rfl
 | k::o,a,s,hn=>by
  have h1:h≠k:=fun z=>hn (z ▸ aKa);show (dY t o (a|||2^k) (s.set k (t.getD (a|||2^k) 0-t.getD a 0))).getD h 0=_;rw[MN o _ _ fun z=>hn (aK9 _ z),aK7,aKg (Ne.symm h1),aK7]
theorem MS {t p:List Int}:∀ (o:List Nat) (a:Nat) (s:List Int),o.Nodup->(∀ h∈o,h<s.length)->(o.map fun h=>(dY t o a s).getD h 0*p.getD h 0).sum=tot t p a o
 | [],a,s,_,_=>rfl
 | k::o,a,s,hnd,hl=>by
  obtain⟨hn1,hn2⟩:=aM9.mp hnd;have hk:=hl k aKa;have e:(dY t (k::o) a s).getD k 0=t.getD (a|||2^k) 0-t.getD a 0:=by
   show (dY t o (a|||2^k) (s.set k (t.getD (a|||2^k) 0-t.getD a 0))).getD k 0=_;rw[MN o _ _ hn1,aK7,aLi hk]
   rfl
  rw[aLv,List.sum_cons,e];have ih:=MS (t:=t) (p:=p) o (a|||2^k) (s.set k (t.getD (a|||2^k) 0-t.getD a 0)) hn2 fun h hh=>by rw[aLs];exact hl h (aK9 _ hh)
  show _+(o.map fun h=>(dY t o (a|||2^k) (s.set k (t.getD (a|||2^k) 0-t.getD a 0))).getD h 0*p.getD h 0).sum=_;rw[ih,Int.mul_comm]
  rfl
theorem aHi {n:Nat}{t p:List Int}{o:List Nat}(ho:o.Perm (List.range n)):wt n (cS n t o) p=tot t p 0 o:=by
 unfold wt;rw[<- MF (ho.map fun h=>(cS n t o).getD h 0*p.getD h 0)];unfold cS;exact MS o 0 _ (sS ho) fun h hh=>by rw[List.length_replicate];exact sR ho hh
def pQ (t s:List Int):Bool:=(List.range t.length).all fun g=>decide (gv s g<=t.getD g 0)
theorem aH7 {n:Nat}{t s:List Int}(hl:t.length=2^n):pQ t s=true ↔ ∀ g,g<2^n->gv s g<=t.getD g 0:=by
 unfold pQ;rw[aKc]
 constructor
 ·intro h g hg
  exact of_decide_eq_true (h g (aKd.mpr (by lia)))
 ·intro h g hg
  exact decide_eq_true (h g (by have:=aKd.mp hg;lia))
def DF (t s:List Int):T->Bool
 | .int i=>decide (gv s i.toNat<=t.getD i.toNat 0)
 | _=>false
theorem PC {n:Nat}(h6:n<=6) {t s:List Int}(hl:t.length=2^n) (hs:s.length=n):kJ [.lst (tI t),.lst (tI s)]=some (.bl (pQ t s)):=by
 have h64:=dD h6;have hr:=eY t.length (by lia);obtain⟨ρ',hf,_⟩:=FP (j:=2) (r:=.bl false) (ρ:=[some (.lst (tI t)),some (.lst (tI s)),none]) (body:=yR) (DF t s) (G.rangeT 0 t.length) (fun u hu=>by
  obtain⟨i,hi,rfl⟩:=IT hu;rw[Int.zero_add];have fg:=DO (row:=s) (by lia) i;have a1:atI (tI t) (i:Int)=some (.int (t.getD i 0)):=bJ hi;have ht:DF t s (.int (i:Int))=decide (gv s i<=t.getD i 0):=rfl;rw[ht];generalize gv s i=x at fg;generalize t.getD i 0=y at a1;have hd:decide (y<x)=!decide (x<=y):=by rw[aKp];simp
  unfold yR;simp only[rIf_at,rNext_at,rRet_at,fC_at,fB_at,f2_at,fVar_at,fCall_at,aCons_at,aNil_at,List.set,zz0,zz1,jn,zz2,zz3,fg,oIx_lst,a1,oGt_int,hd,isB_bl];cases decide (x<=y)<;>rfl) [some (.lst (tI t)),some (.lst (tI s)),none] (fun _=>rfl)
 have hall:(G.rangeT 0 t.length).all (DF t s)=pQ t s:=by
  rw[KN,List.all_map]
  rfl
 rw[hall] at hf;rw[NU];unfold uJ;simp only[rSeq_at,rFor_at,rRet_at,fRange_at,fVar_at,fC_at,fCall_at,aCons_at,aNil_at,zz0,zz1,jn,zz2,zz3,oLen_lst,tI_length,hr,hf];cases pQ t s<;>rfl
def ZR (n S i:Nat):List Tri:=(List.range (n-(i+1))).flatMap fun d=>if !S.testBit i && !S.testBit (i+1+d) then [(S,i,i+1+d)] else []
def ZS (n S:Nat):List Tri:=(List.range n).flatMap (ZR n S)
def IN (n:Nat):List Tri:=(List.range (2^n)).flatMap (ZS n)
theorem ZT:(List.range 7).all (fun n=>decide (IN n=dE n))=true:=by decide +kernel
theorem ZU {n:Nat}(h6:n<=6):IN n=dE n:=of_decide_eq_true (aKc.mp ZT n (aKd.mpr (by lia)))
theorem RC {n:Nat}(h6:n<=6) {t:List Int}{S i j:Nat}(hS:S<2^n) (hi:i<j) (hj:j<n) (hb:S.testBit i=false) (hc:S.testBit j=false):
  brk t (S,i,j)=decide (t.getD (S+2^i) 0+t.getD (S+2^j) 0<t.getD (S+2^i+2^j) 0+t.getD S 0)/\S+2^i+2^j<2^n:=by
 have h64:=dD h6;have hx:(S,i,j)∈dE n:=by
  rw[<- ZU h6];refine List.mem_flatMap.mpr ⟨S,aKd.mpr hS,List.mem_flatMap.mpr ⟨i,aKd.mpr (by lia),List.mem_flatMap.mpr ⟨j-(i+1),aKd.mpr (by lia),?_⟩⟩⟩;have e:i+1+(j-(i+1))=j:=by lia
  rw[e,hb,hc];simp
 obtain⟨k1,k2,k3,k4⟩:=MV h6 hx;dsimp only at k1 k2 k3 k4;have e1:S|||2^i=S+2^i:=sU (by lia) (by lia) hb;have e2:S|||2^j=S+2^j:=sU (by lia) (by lia) hc;have hb2:(S|||2^i).testBit j=false:=by
  rw[aMu,hc,aMv,Bool.false_or];exact decide_eq_false (by lia)
 have e3:S|||(2^i|||2^j)=S+2^i+2^j:=by
  rw[<- Nat.or_assoc,sU (h:=j) (by lia) (by lia) hb2,e1]
 have h7:S+2^i+2^j<2^n:=by
  rw[<- e3,<- Nat.or_assoc];exact aMp k1 (aMr (by decide) hj)
 refine⟨?_,h7⟩;unfold brk;dsimp only;rw[k4,k3,e3,e1,e2]
theorem wG {α:Type}{p:Rho->Option Bool}{f:Rho->Option T}{ρ:Rho}(tp:α->T) (c:α->Bool) (h:α->T):∀ xs:List α,(∀ x∈xs,p (ρ.set 0 (some (tp x)))=some (c x)/\(c x=true->f (ρ.set 0 (some (tp x)))=some (h x)))->bK p f ρ (xs.map tp)=some ((xs.filter c).map h)
 | [],_=>rfl
 | x::xs,hx=>by
  have ih:=wG tp c h xs fun y hy=>hx y (aK9 _ hy);obtain⟨h1,h2⟩:=hx x aKa;rw[aLv];unfold bK;rw[h1];simp only[zz2];cases hc:c x with
  | true=>
   rw[if_pos rfl,h2 hc,List.filter_cons,if_pos hc,aLv];simp only[zz2];rw[ih];rfl
  | false=>
   rw[if_neg (by decide),List.filter_cons,if_neg (by simp[hc])];exact ih
def vX (n:Nat) (t s:List Int):Bool:=pQ t s&&(gv s (2^n-1) == t.getD (2^n-1) 0)
theorem OU {n:Nat}(h6:n<=6) {t s:List Int}(hl:t.length=2^n) (hs:s.length=n):jZ [.lst (tI t),.lst (tI s)]=some (.bl (vX n t s)):=by
 have fu:=PC h6 hl hs;have hp:1<=2^n:=Nat.one_le_two_pow;have fg:=DO (row:=s) (by lia) (2^n-1);have la:=EG (ns:=t) (by lia);rw[hl] at la;have e1:(((2^n:Nat):Int)-1)=((2^n-1:Nat):Int):=by lia
 have ng:hV (.int 1)=some (.int (-1)):=rfl;unfold vX;rw[NH];unfold tK;generalize gv s (2^n-1)=g1 at fg;generalize t.getD (2^n-1) 0=g2 at la;generalize pQ t s=bb at fu;cases bb with
 | false=>simp only[rRet_at,vAnd_at,f1_at,fVar_at,fCall_at,aCons_at,aNil_at,zz0,zz1,jn,zz2,zz3,fu,isB_bl,aKq,if_false,gScal_bl,outT_rt,Bool.false_and]
 | true=>simp only[rRet_at,vAnd_at,f1_at,f2_at,fC_at,fVar_at,fCall_at,aCons_at,aNil_at,zz0,zz1,jn,zz2,zz3,fu,isB_bl,if_true,oLen_lst,tI_length,hl,oSub_int,e1,fg,ng,oIx_lst,la,oEq_int,gScal_bl,outT_rt,Bool.true_and]
theorem HJ (p:List Int) (i:Nat):∀ o:List Nat,o.Pairwise (PrL p)->(∀ k∈o,k<i)->(eG p i o).Pairwise (PrL p)
 | [],_,_=>List.pairwise_singleton _ _
 | j::o,h,hk=>by
  obtain⟨h1,h2⟩:=aMc.mp h;have hj:=hk j aKa;unfold eG
  split
  ·rename_i hc
   refine aMc.mpr ⟨fun k hk'=>?_,HJ p i o h2 fun k hk'=>hk k (aK9 _ hk')⟩;rcases aKi.mp ((qH p i o).mem_iff.mp hk') with rfl | hk'
   ·unfold PrL;lia
   ·exact h1 k hk'
  ·rename_i hc
   refine aMc.mpr ⟨fun k hk'=>?_,h⟩;rcases aKi.mp hk' with rfl | hk'
   ·unfold PrL;lia
   ·have:=h1 k hk';unfold PrL at this ⊢;lia
theorem LZ (p:List Int):∀ n:Nat,(jW p n).Pairwise (PrL p)/\∀ k∈jW p n,k<n
 | 0=>⟨List.Pairwise.nil,fun k hk=>by cases hk⟩
 | n+1=>by
  obtain⟨h1,h2⟩:=LZ p n;have e:jW p (n+1)=eG p n (jW p n):=by unfold jW;rw[aMd,List.foldl_append];rfl
  rw[e];refine⟨HJ p n _ h1 h2,fun k hk=>?_⟩;rcases aKi.mp ((qH p n _).mem_iff.mp hk) with rfl | hk
  ·lia
  ·have:=h2 k hk;lia
theorem KH {p:List Int}:∀ {a b:List Nat},a.Perm b->a.Pairwise (PrL p)->b.Pairwise (PrL p)->a=b
 | [],b,h,_,_=>(List.nil_perm.mp h).symm
 | x::a,[],h,_,_=>absurd h.length_eq (by simp)
 | x::a,y::b,h,ha,hb=>by
  obtain⟨a1,a2⟩:=aMc.mp ha;obtain⟨b1,b2⟩:=aMc.mp hb;have e:x=y:=by
   rcases aKi.mp (h.mem_iff.mp aKa) with e | hx
   ·exact e
   ·rcases aKi.mp (h.mem_iff.mpr aKa) with e | hy
    ·exact e.symm
    ·have h1:=a1 y hy
     have h2:=b1 x hx;unfold PrL at h1 h2;lia
  subst e;rw[KH ((List.perm_cons x).mp h) a2 b2]
theorem wL {α:Type}{j:Nat}{body:Rho->Option Out}(I:Rho->Prop) (tp:α->T) (c:α->Bool) (r:T):∀ (l:List α),(∀ x∈l,∀ ρ,I ρ->(c x=true/\∃ ρ',body (ρ.set j (some (tp x)))=some (.nx ρ')/\I ρ')\/(c x=false/\body (ρ.set j (some (tp x)))=some (.rt r)))->∀ ρ,I ρ ->
  (l.all c=true/\∃ ρ',bL j body (l.map tp) ρ=some (.nx ρ')/\I ρ')\/(l.all c=false/\bL j body (l.map tp) ρ=some (.rt r))
 | [],_,ρ,h=>.inl ⟨rfl,ρ,rfl,h⟩
 | x::l,hb,ρ,h=>by
  rw[aLv,rR,List.all_cons];rcases hb x aKa ρ h with ⟨h1,ρ',h2,h3⟩ | ⟨h1,h2⟩
  ·rw[h2,h1,Bool.true_and]
   exact wL I tp c r l (fun y hy=>hb y (aK9 _ hy)) ρ' h3
  ·rw[h2,h1,Bool.false_and]
   exact .inr ⟨rfl,rfl⟩
def frN (n S:Nat):List Nat:=(List.range n).filter fun h=>!S.testBit h
def lfI (n S i:Nat):List Nat:=(frN n S).filter fun j=>decide (2^i<2^j)
def lfl (n:Nat):List Tri:=(List.range (2^n)).flatMap fun S=>(frN n S).flatMap fun i=>(lfI n S i).map fun j=>(S,i,j)
theorem ZO:(List.range 7).all (fun n=>decide (lfl n=dE n))=true:=by decide +kernel
theorem ZP {n:Nat}(h6:n<=6):lfl n=dE n:=of_decide_eq_true (aKc.mp ZO n (aKd.mpr (by lia)))
def gI (n:Nat) (t:List Int):Bool:=((dE n).find? (brk t)).isNone
theorem UZ {n:Nat}(h6:n<=6) (t:List Int):gI n t=(List.range (2^n)).all fun S=>(frN n S).all fun i=>(lfI n S i).all fun j=>!brk t (S,i,j):=by
 have e:gI n t=(dE n).all fun x=>!brk t x:=by
  unfold gI;rw[aKp,Option.isNone_iff_eq_none,List.find?_eq_none,aKc]
  constructor
  ·intro h x hx;simpa using h x hx
  ·intro h x hx;simpa using h x hx
 rw[e,<- ZP h6];unfold lfl;simp only[List.all_flatMap,List.all_map,Function.comp_def]
def pwT (h:Nat):T:=.int ((2^h:Nat):Int)
theorem OY {n:Nat}(h6:n<=6) {t:List Int}(hl:t.length=2^n):kD [.lst (tI t),.int (n:Int)]=some (.bl (gI n t)):=by
 have h64:=dD h6;have hr:=eY t.length (by lia);have hrn:=eY n (by lia);have main:=wL (j:=2) (body:=mY) (fun ρ=>∃ x2 x3 x4 x5 x6,ρ=[some (.lst (tI t)),some (.int (n:Int)),x2,x3,x4,x5,x6]) (fun (S:Nat)=>T.int (S:Int)) (fun S=>(frN n S).all fun i=>(lfI n S i).all fun j=>!brk t (S,i,j)) (.bl false) (List.range (2^n)) (fun S hS ρ hρ=>by
   obtain⟨x2,x3,x4,x5,x6,rfl⟩:=hρ;have hS:=aKd.mp hS;have sel:bK tU tR [none,some (.int (S:Int))] (G.rangeT 0 n)=some ((frN n S).map pwT):=by
    have er:G.rangeT 0 n=(List.range n).map fun (k:Nat)=>T.int (k:Int):=by unfold G.rangeT;refine List.map_congr_left fun k _=>?_;simp
    rw[er,wG (fun (k:Nat)=>T.int (k:Int)) (fun k=>!S.testBit k) pwT (List.range n) fun k hk=>⟨?_,fun _=>?_⟩]
    ·rfl
    ·have b1:=AB S k
     have q0:(((S / 2^k%2:Nat):Int) == 0)=!(((S / 2^k%2:Nat):Int) == 1):=by
      rw[aKp];simp;lia
     show tU [some (.int (k:Int)),some (.int (S:Int))]=_;unfold tU;simp only[fB_at,f2_at,fVar_at,fC_at,zz0,zz1,jn,zz2,sO,oAnd_int,rM,oEq_int,q0,b1,isB_bl]
    ·have sh:=gP (b:=k) (by have:=aKd.mp hk;lia)
     show tR [some (.int (k:Int)),some (.int (S:Int))]=_;unfold tR;simp only[f2_at,fC_at,fVar_at,zz0,jn,zz2,sh]
     rfl
   have fin:∀ i,i∈frN n S->i<n/\S.testBit i=false:=fun i hi=>by
    obtain⟨a,b⟩:=aM1.mp hi;exact⟨aKd.mp a,by simpa using b⟩
   have flen:(frN n S).length<=6:=by
    unfold frN;have:=List.length_filter_le (fun h=>!S.testBit h) (List.range n);rw[aLq] at this;lia
   have hc:((frN n S).map pwT).length<=cap:=by rw[aLo];unfold cap;lia
   have ef:(frN n S).map pwT=tI ((frN n S).map fun h=>((2^h:Nat):Int)):=by unfold tI;rw[aLw];rfl
   have fl:gN (.lst ((frN n S).map pwT))=some ((frN n S).map pwT):=by rw[ef];exact dJ _
   have mid:=wL (j:=4) (body:=jV) (fun ρ=>∃ x4 x5 x6,ρ=[some (.lst (tI t)),some (.int (n:Int)),some (.int (S:Int)),some (.lst ((frN n S).map pwT)),x4,x5,x6]) pwT (fun i=>(lfI n S i).all fun j=>!brk t (S,i,j)) (.bl false) (frN n S) (fun i hi ρ hρ=>by
     obtain⟨x4,x5,x6,rfl⟩:=hρ;obtain⟨hin,hbi⟩:=fin i hi;have sel2:bK tV tT [none,some (pwT i)] ((frN n S).map pwT)=some ((lfI n S i).map pwT):=by
      rw[wG pwT (fun j=>decide (2^i<2^j)) pwT (frN n S) fun j hj=>⟨?_,fun _=>?_⟩]
      ·rfl
      ·have d:decide (((2^i:Nat):Int)<((2^j:Nat):Int))=decide (2^i<2^j):=decide_eq_decide.mpr (by lia)
       show tV [some (.int ((2^j:Nat):Int)),some (.int ((2^i:Nat):Int))]=_;unfold tV;simp only[fB_at,f2_at,fVar_at,zz0,zz1,jn,zz2,oGt_int,d,isB_bl]
      ·show tT [some (.int ((2^j:Nat):Int)),some (.int ((2^i:Nat):Int))]=_
       unfold tT;simp only[f1_at,fVar_at,zz0,jn,zz2,gScal_int]
       rfl
     have llen:(lfI n S i).length<=6:=by
      unfold lfI;have:=List.length_filter_le (fun j=>decide (2^i<2^j)) (frN n S);lia
     have hc2:((lfI n S i).map pwT).length<=cap:=by rw[aLo];unfold cap;lia
     have ef2:(lfI n S i).map pwT=tI ((lfI n S i).map fun h=>((2^h:Nat):Int)):=by unfold tI;rw[aLw];rfl
     have fl2:gN (.lst ((lfI n S i).map pwT))=some ((lfI n S i).map pwT):=by rw[ef2];exact dJ _
     have inner:=wL (j:=5) (body:=qT) (fun ρ=>∃ x5 x6,ρ=[some (.lst (tI t)),some (.int (n:Int)),some (.int (S:Int)),some (.lst ((frN n S).map pwT)),some (pwT i),x5,x6]) pwT (fun j=>!brk t (S,i,j)) (.bl false) (lfI n S i) (fun j hj ρ hρ=>by
       obtain⟨x5,x6,rfl⟩:=hρ;obtain⟨hj1,hj2⟩:=aM1.mp hj;obtain⟨hjn,hbj⟩:=fin j hj1;have hij:i<j:=(Nat.pow_lt_pow_iff_right (by decide)).mp (of_decide_eq_true hj2);obtain⟨hbr,hlt⟩:=RC h6 (t:=t) hS hij hjn hbi hbj;have g1:0<2^i:=aMs (by decide);have g2:0<2^j:=aMs (by decide);have p1:(S:Int)+((2^i:Nat):Int)=((S+2^i:Nat):Int):=by lia
       have p2:(S:Int)+((2^j:Nat):Int)=((S+2^j:Nat):Int):=by lia
       have p3:((S+2^i:Nat):Int)+((2^j:Nat):Int)=((S+2^i+2^j:Nat):Int):=by lia
       have a1:atI (tI t) ((S+2^i:Nat):Int)=some (.int (t.getD (S+2^i) 0)):=bJ (by lia);have a2:atI (tI t) ((S+2^j:Nat):Int)=some (.int (t.getD (S+2^j) 0)):=bJ (by lia);have a3:atI (tI t) ((S+2^i+2^j:Nat):Int)=some (.int (t.getD (S+2^i+2^j) 0)):=bJ (by lia);have a4:atI (tI t) (S:Int)=some (.int (t.getD S 0)):=bJ (by lia);have e5:∀ x6:Option T,([some (.lst (tI t)),some (.int (n:Int)),some (.int (S:Int)),some (.lst ((frN n S).map pwT)),some (pwT i),x5,x6]:Rho).set 5 (some (pwT j))=[some (.lst (tI t)),some (.int (n:Int)),some (.int (S:Int)),some (.lst ((frN n S).map pwT)),some (.int ((2^i:Nat):Int)),some (.int ((2^j:Nat):Int)),x6]:=fun _=>rfl;rw[e5];have ei:pwT i=.int ((2^i:Nat):Int):=rfl;rw[ei];generalize t.getD (S+2^i) 0=v1 at a1 hbr;generalize t.getD (S+2^j) 0=v2 at a2 hbr;generalize t.getD (S+2^i+2^j) 0=v3 at a3 hbr;generalize t.getD S 0=v4 at a4 hbr;generalize (frN n S).map pwT=fr;cases hk:brk t (S,i,j) with
       | false=>
        rw[hk] at hbr;refine .inl ⟨rfl,[some (.lst (tI t)),some (.int (n:Int)),some (.int (S:Int)),some (.lst fr),some (.int ((2^i:Nat):Int)),some (.int ((2^j:Nat):Int)),some (.int (v3+v4))],?_,_,_,rfl⟩;unfold qT;simp only[rSeq_at,rIf_at,rNext_at,rSet_at,fB_at,f2_at,fVar_at,fC_at,List.set,zz0,zz1,jn,zz2,zz3,isB_bl,oAdd_int,p1,p2,p3,oIx_lst,a1,a2,a3,a4,oLt_int,<- hbr,aKq,if_false]
       | true=>
        rw[hk] at hbr;refine .inr ⟨rfl,?_⟩;unfold qT;simp only[rSeq_at,rIf_at,rRet_at,rSet_at,fB_at,f2_at,fVar_at,fC_at,List.set,zz0,zz1,jn,zz2,zz3,isB_bl,oAdd_int,p1,p2,p3,oIx_lst,a1,a2,a3,a4,oLt_int,<- hbr,if_true]) [some (.lst (tI t)),some (.int (n:Int)),some (.int (S:Int)),some (.lst ((frN n S).map pwT)),some (pwT i),x5,x6] ⟨_,_,rfl⟩
     have ex:jV [some (.lst (tI t)),some (.int (n:Int)),some (.int (S:Int)),some (.lst ((frN n S).map pwT)),some (pwT i),x5,x6]=bL 5 qT ((lfI n S i).map pwT) [some (.lst (tI t)),some (.int (n:Int)),some (.int (S:Int)),some (.lst ((frN n S).map pwT)),some (pwT i),x5,x6]:=by
      generalize (lfI n S i).map pwT=l2 at sel2 hc2 fl2;generalize (frN n S).map pwT=l1 at sel2 fl;generalize pwT i=pi at sel2;unfold jV;simp only[rFor_at,fFL_at,fComp_at,fVar_at,zz0,zz1,jn,zz2,zz3,fl,bP,aLv,aLx,aMz,sel2,hc2,if_true,fl2]
     show (_/\∃ ρ',jV [some (.lst (tI t)),some (.int (n:Int)),some (.int (S:Int)),some (.lst ((frN n S).map pwT)),some (pwT i),x5,x6]=_/\_)\/(_/\jV [some (.lst (tI t)),some (.int (n:Int)),some (.int (S:Int)),some (.lst ((frN n S).map pwT)),some (pwT i),x5,x6]=_);rw[ex];rcases inner with ⟨q1,ρ',q2,y5,y6,rfl⟩ | ⟨q1,q2⟩
     ·exact .inl ⟨q1,_,q2,_,_,_,rfl⟩
     ·exact .inr ⟨q1,q2⟩) [some (.lst (tI t)),some (.int (n:Int)),some (.int (S:Int)),some (.lst ((frN n S).map pwT)),x4,x5,x6] ⟨_,_,_,rfl⟩
   have ex:mY [some (.lst (tI t)),some (.int (n:Int)),some (.int (S:Int)),x3,x4,x5,x6]=bL 4 jV ((frN n S).map pwT) [some (.lst (tI t)),some (.int (n:Int)),some (.int (S:Int)),some (.lst ((frN n S).map pwT)),x4,x5,x6]:=by
    generalize (frN n S).map pwT=l1 at sel hc fl;unfold mY;simp only[rSeq_at,rSet_at,rFor_at,fFL_at,fComp_at,fRange_at,fVar_at,aCons_at,aNil_at,List.set,zz0,zz1,jn,zz2,zz3,hrn,bP,aLv,aLx,aMz,sel,hc,if_true,fl]
   show (_/\∃ ρ',mY [some (.lst (tI t)),some (.int (n:Int)),some (.int (S:Int)),x3,x4,x5,x6]=_/\_)\/(_/\mY [some (.lst (tI t)),some (.int (n:Int)),some (.int (S:Int)),x3,x4,x5,x6]=_);rw[ex];rcases mid with ⟨q1,ρ',q2,y4,y5,y6,rfl⟩ | ⟨q1,q2⟩
   ·exact .inl ⟨q1,_,q2,_,_,_,_,_,rfl⟩
   ·exact .inr ⟨q1,q2⟩) [some (.lst (tI t)),some (.int (n:Int)),none,none,none,none,none] ⟨_,_,_,_,_,rfl⟩
 rw[<- UZ h6 t] at main;have er:G.rangeT 0 t.length=(List.range (2^n)).map fun (S:Nat)=>T.int (S:Int):=by rw[hl];unfold G.rangeT;refine List.map_congr_left fun k _=>?_;simp
 rw[er] at hr;rw[NL];unfold tQ;generalize (List.range (2^n)).map (fun (S:Nat)=>T.int (S:Int))=rs at main hr;rcases main with ⟨q1,ρ',q2,x2,x3,x4,x5,x6,rfl⟩ | ⟨q1,q2⟩
 ·rw[q1]
  simp only[rSeq_at,rFor_at,rRet_at,fRange_at,fC_at,fVar_at,fCall_at,aCons_at,aNil_at,zz0,jn,zz2,zz3,oLen_lst,tI_length,hr,q2,outT_rt]
 ·rw[q1]
  simp only[rSeq_at,rFor_at,fRange_at,fVar_at,fCall_at,aCons_at,aNil_at,zz0,jn,zz2,zz3,oLen_lst,tI_length,hr,q2,outT_rt]
theorem NF {t:List Int}{b:Bool}(hf:eO [.lst (tI t)]=some (.bl b)):jC [.lst (tI t)]=some (if b then .inl .non else .inr "NotFalling"):=by
 have c1:(1:Nat)<=cap:=by decide
 rw[NG];unfold tJ;cases b<;>simp only[xIf_at,xOf_at,xRaise_at,rNext_at,pNot_at,fT_at,fVar_at,fC_at,fCall_at,aCons_at,aNil_at,zz0,jn,zz2,zz3,hf,truT_bl,Bool.not_false,aKs,aKq,if_true,if_false,aLm,aLp,aMw,c1,outX_inr,outX_inl,outT_nx]
theorem QE {n:Nat}(h6:n<=6) {t p:List Int}(hl:t.length=2^n) (hp:p.length=n):kK [.lst (tI t),.lst (tI p)]=some (.str (if gI n t then "none" else "falling")):=by
 subst hp;have m:jC [.lst (tI t)]=some (if gI p.length t then .inl .non else .inr "NotFalling"):=NF (DN h6 hl);obtain⟨o,ho,hd,eo⟩:=DT h6;have fb:=DL h6 hl ho;have fx:jY [.lst (tI t),.lst (tI p)]=some (if gI p.length t then .inl (.lst (tI (cS p.length t o))) else .inr "NotFalling"):=by
  rw[NE];unfold tH;generalize cS p.length t o=w at fb;cases hf:gI p.length t with
  | false=>
   rw[hf] at m;simp only[aKq,if_false] at m;simp only[xSeq_at,xCall_at,fVar_at,aCons_at,aNil_at,zz0,zz1,jn,zz2,zz3,m,outX_inr,aKq,if_false]
  | true=>
   rw[hf] at m;simp only[if_true] at m;simp only[xSeq_at,xCall_at,xOf_at,rRet_at,fCall_at,fVar_at,aCons_at,aNil_at,zz0,zz1,jn,zz2,zz3,m,eo,fb,outX_inl,outT_rt,if_true]
 have g1:∀ w:Str,bF (.str w)=some (.str w):=fun _=>rfl;have i1:hU [("NotFalling",true)] (.exc "NotFalling")=some (.bl true):=rfl;have i2:hU [("NotFalling",false)] (.exc "NotFalling")=some (.bl false):=rfl;have hm:("NotFalling" : Str)∈(["NotFalling"]:List Str):=aM8.mpr rfl;rw[NW];unfold uL;cases hf:gI p.length t with
 | false=>
  rw[hf] at fx;simp only[aKq,if_false] at fx;simp only[rSeq_at,rSet_at,rTry_at,rIf_at,rNext_at,rRet_at,aApp_at,pAnd_at,fT_at,f1_at,fVar_at,fC_at,aCons_at,aNil_at,List.set,zz0,zz1,jn,zz2,zz3,aL3,fx,hm,if_true,i1,i2,truT_bl,g1,aKq,if_false,outT_rt]
 | true=>
  rw[hf] at fx;simp only[if_true] at fx;simp only[rSeq_at,rSet_at,rTry_at,rRet_at,aApp_at,f1_at,fVar_at,fC_at,aCons_at,aNil_at,List.set,zz0,zz1,jn,zz2,zz3,aL3,fx,g1,if_true,outT_rt]
theorem PB {n:Nat}(h6:n<=6) {s:List Int}(hs:s.length=n):kG [.lst (tI s),.int (n:Int)]=some (.bl true):=by
 have w:∀ i:Int,gB [.int i]=some (.bl true):=fun _=>rfl;have il:qO "list" (.lst (tI s))=some (.bl true):=rfl;have ne:oNe (.int (n:Int)) (.int (n:Int))=some (.bl false):=xR (by simp[dep]);have ec:bK bI uD [none] (tI s)=some (G.tB (s.map fun _=>true)):=by
  unfold tI;rw[wG T.int (fun _=>true) (fun _=>.bl true) s fun x hx=>⟨rfl,fun _=>?_⟩]
  ·rw[List.filter_eq_self.mpr (fun _ _=>rfl)]
   unfold G.tB;rw[aLw]
   rfl
  ·show uD [some (.int x)]=_
   unfold uD;simp only[f1_at,fCall_at,aCons_at,aNil_at,fVar_at,zz0,jn,zz2,w,gScal_bl]
 have hc:(G.tB (s.map fun _=>true)).length<=cap:=by unfold G.tB;rw[aLo,aLo];unfold cap;lia
 have oa:=IY (s.map fun _=>true);have ee:(s.map fun _=>true).all id=true:=by rw[List.all_map];exact aKc.mpr fun _ _=>rfl
 rw[ee] at oa;generalize s.map (fun _=>true)=zs at ec hc oa;rw[NR];unfold uC;simp only[rSeq_at,rIf_at,rNext_at,rRet_at,pOr_at,pNot_at,fT_at,fB_at,f1_at,f2_at,fVar_at,fCall_at,fComp_at,fFL_at,aCons_at,aNil_at,zz0,zz1,jn,zz2,zz3,il,truT_bl,aKs,aKq,if_false,oLen_lst,tI_length,hs,ne,isB_bl,dJ,bP,aLv,aLx,aMz,ec,hc,if_true,oa,outT_rt]
theorem SL (a b:List Int):dep (.lst [.lst (tI a),.lst (tI b)])<=60:=by simp[dep,depL,AH]
theorem QW {n:Nat}{t s:List Int}(hl:t.length=2^n) (B:Bas n t s):vX n t s=true:=by
 unfold vX;rw[(aH7 hl).mpr B.und,B.all];simp
theorem OA {n:Nat}(h6:n<=6) {t p:List Int}(Ft:Fal n (10^200) t) (hp:p.length=n):∃ o:List Nat,o.Perm (List.range n)/\o.Pairwise (PrL p)/\kM [.lst (tI t),.lst (tI p)]=some (.lst (tI (cS n t o))):=by
 subst hp;obtain⟨o,ho,hd,eo⟩:=DT h6;refine⟨o,ho,hd,?_⟩;have fm:=PK h6 Ft.len Ft.sub;have fb:=DL h6 Ft.len ho;rw[OB];unfold uO;simp only[rSeq_at,rDrop_at,rRet_at,fCall_at,fVar_at,aCons_at,aNil_at,zz0,zz1,jn,zz2,zz3,fm,eo,fb,outT_rt]
theorem VD {a b c d:Int}{k:Int}(h0:0<=k) (h:k<4):∃ x:Int,atI [T.int a,T.int b,T.int c,T.int d] k=some (.int x):=by
 rcases (show k=0\/k=1\/k=2\/k=3 by lia) with rfl | rfl | rfl | rfl
 ·exact⟨a,rfl⟩
 ·exact⟨b,rfl⟩
 ·exact⟨c,rfl⟩
 ·exact⟨d,rfl⟩
theorem OT (ns:List Int) (h:ns.length<=63):pS [.lst (ns.map T.int)]=some (.bl true):=by
 show pS [.lst (tI ns)]=_;obtain⟨n,h1,h6,es⟩:=OO ns;obtain⟨t,et,Ft⟩:=OJ ns h h1 h6;obtain⟨p,ep,hp,bp⟩:=PQ ns h h1 h6 (st:=1) (by decide);have ep:jE [.lst (tI ns),.int (n:Int),.int 1]=some (.lst (tI p)):=ep;have c1:bX [.lst (tI ns),.int 1]=some (.int (dP ns 1)):=zN ns 1;have c2:bX [.lst (tI ns),.int 2]=some (.int (dP ns 2)):=zN ns 2;generalize dP ns 1=k1 at c1;generalize dP ns 2=k2 at c2;have h64:=dD h6;have hl:=Ft.len;have hz:=Ft.zero;have bt:=Ft.bd;have bp8:Bd (10^80) p:=bp.le (by decide);obtain⟨o,ho,hd,fbb⟩:=OA h6 Ft hp;obtain⟨o2,fo,ho2,_,e2⟩:=DR h6 hp;have hoo:o2=o:=by
  have q:=(LZ p n).1;rw[<- e2] at q;exact KH (ho2.trans ho.symm) q hd
 subst hoo;have fby:=OV h6 hl ho;have B:Bas n t (cS n t o2):=⟨rG n t o2,(MR hz ho).2 Ft.sub,(MR hz ho).1⟩;have frw:=PB h6 (rG n t o2);have fba:=OU h6 hl (rG n t o2);rw[QW hl B] at fba;have fw:=QB h6 (rG n t o2) hp (EH B bt) bp8;have flw:=PD h6 (rG n t o2) hp (EH B bt) bp8;have ew:wt n (cS n t o2) p=chs n t p (lev p):=by rw[aHi ho,DG h1 hz hp ho (UN hd)]
 obtain⟨o3,fwo,ho3,hd3⟩:=PH h6 hl hp bt bp8;rw[<- DG h1 hz hp ho3 hd3] at fwo;have fbe:=QZ h1 h6 hl hz B hp;rw[ew] at fw flw fbe;have sl:(chs n t p (lev p) == chs n t p (lev p))=true:=by simp
 rw[sl] at fbe;have nC:oNe (.int (chs n t p (lev p))) (.int (chs n t p (lev p)))=some (.bl false):=xR (by simp[dep]);have wC:gB [.int (chs n t p (lev p))]=some (.bl true):=rfl;have nl:oNe (.lst [.lst (tI t),.lst (tI p)]) (.lst [.lst (tI t),.lst (tI p)])=some (.bl false):=xR (SL t p);have nw:oNe (.lst (tI (cS n t o2))) (.lst (tI (cS n t o2)))=some (.bl false):=xR (by simp[dep,AH]);have b1:sM (.bl true) (.bl true)=some (.bl false):=rfl;have x0:atI [T.lst (tI t),T.lst (tI p)] 0=some (.lst (tI t)):=rfl;have x1:atI [T.lst (tI t),T.lst (tI p)] 1=some (.lst (tI p)):=rfl;have cl:(tI (cS n t o2)).length<cap:=by rw[tI_length,rG];unfold cap;lia
 have c22:(2:Nat)<=cap:=by decide
 generalize chs n t p (lev p)=C at fw flw fwo fbe nC wC;have r2:cI [.int 2]=some (G.rangeT 0 2):=eY 2 (by decide);obtain⟨ρ',lp,x5,x6,x7,e⟩:=mF (j:=5) (n:=2) (body:=yV) (fun _ ρ=>∃ (x5 x6 x7:Option T),ρ=[some (.lst (tI ns)),some (.int (n:Int)),some (.lst (tI t)),some (.lst (tI p)),some (.lst [.lst (tI t),.lst (tI p)]),x5,x6,x7,none,none]) (fun i hi ρ hρ=>by
   obtain⟨x5,x6,x7,rfl⟩:=hρ;refine⟨[some (.lst (tI ns)),some (.int (n:Int)),some (.lst (tI t)),some (.lst (tI p)),some (.lst [.lst (tI t),.lst (tI p)]),some (.int (i:Int)),some (.lst (tI (cS n t o2)++[.int 1])),some (.int C),none,none],?_,_,_,_,rfl⟩;generalize cS n t o2=w at fbb frw fba fby fw flw fbe nw cl;generalize tN' o2=oo at fo fby;unfold yV;simp only[rSeq_at,rSet_at,rSetM_at,rIf_at,rNext_at,rApp_at,pOr_at,pNot_at,fT_at,fB_at,f1_at,f2_at,fVar_at,fC_at,fCall_at,fLst_at,aCons_at,aNil_at,List.set,zz0,zz1,jn,zz2,zz3,oIx_lst,x0,x1,fbb,okM_lst,if_true,frw,truT_bl,aKs,aKq,if_false,fba,fo,fby,nw,isB_bl,aLm,aLp,aMw,Nat.reduceAdd,c22,nl,fw,gScal_int,wC,fwo,nC,flw,fbe,b1,cl]) [some (.lst (tI ns)),some (.int (n:Int)),some (.lst (tI t)),some (.lst (tI p)),some (.lst [.lst (tI t),.lst (tI p)]),none,none,none,none,none] ⟨_,_,_,rfl⟩
 subst e;have hp2:2<=2^n:=by
  have:=aMq (show 0<2 by decide) h1
  simpa using this
 have mT:∀ i:Int,aY (.int i) (.int (((2^n:Nat):Int)-1))=some (.int (i%(((2^n:Nat):Int)-1))):=fun i=>cR (by lia);have m4:aY (.int k1) (.int 4)=some (.int (k1%4)):=cR (by decide);obtain⟨at',hat,eat⟩:∃ a:Nat,a<2^n/\1+k2%(((2^n:Nat):Int)-1)=(a:Int):=by
  have r0:=aL0 k2 (show ((2^n:Nat):Int)-1≠0 by lia);have r1:=aKz k2 (show 0<((2^n:Nat):Int)-1 by lia);exact⟨(1+k2%(((2^n:Nat):Int)-1)).toNat,by lia,by lia⟩
 obtain⟨W,hW⟩:∃ W:Int,W=10^60:=⟨_,rfl⟩;have p60:cD (.int 10) (.int 60)=some (.int W):=by rw[hW];exact jQ 10 60 (by decide +kernel)
 have n1:hV (.int 1)=some (.int (-1)):=rfl;have nW:hV (.int W)=some (.int (-W)):=rfl;obtain⟨d,ed⟩:=VD (a := -1) (b:=1) (c := -W) (d:=W) (k:=k1%4) (aL0 _ (by decide)) (aKz _ (by decide));have ax:atI (tI t) (at':Int)=some (.int (t.getD at' 0)):=bJ (by lia);have ix:ixN (2^n) (at':Int)=some at':=by rw[mU (by lia) (by lia)];simp
 generalize t.getD at' 0=y at ax;have hsl:(t.set at' (y+d)).length=2^n:=by rw[aLs];exact hl
 have wd:=QE h6 hsl hp;have lf:=OY h6 hsl;have st:=pP t at' (y+d);generalize t.set at' (y+d)=sp at wd lf st;have c4:(4:Nat)<=cap:=by decide
 have i0:xM [.bl false]=some (.int 0):=rfl;have i1:xM [.bl true]=some (.int 1):=rfl;have w0:atI [T.str "falling",T.str "none"] 0=some (.str "falling"):=rfl;have w1:atI [T.str "falling",T.str "none"] 1=some (.str "none"):=rfl;have q0:oEq (.str "falling") (.str "falling")=some (.bl true):=rfl;have q1:oEq (.str "none") (.str "none")=some (.bl true):=rfl;rw[OS];unfold vB;generalize gI n sp=bb at wd lf;cases bb with
 | false=>
  simp only[aKq,if_false] at wd;simp only[rSeq_at,rSet_at,rSetM_at,rFor_at,rPut_at,rRet_at,f1_at,f2_at,fVar_at,fC_at,fCall_at,fLst_at,fRange_at,aCons_at,aNil_at,List.set,zz0,zz1,jn,zz2,zz3,es,gScal_int,et,ep,oList_lst,FQ,aLm,aLp,aMw,Nat.reduceAdd,c22,c4,if_true,r2,lp,okM_lst,c1,c2,oLen_lst,tI_length,hl,oSub_int,mT,oAdd_int,eat,oIx_lst,ax,n1,p60,nW,m4,ed,ix,st,wd,lf,i0,w0,q0,outT_rt]
 | true=>
  simp only[if_true] at wd;simp only[rSeq_at,rSet_at,rSetM_at,rFor_at,rPut_at,rRet_at,f1_at,f2_at,fVar_at,fC_at,fCall_at,fLst_at,fRange_at,aCons_at,aNil_at,List.set,zz0,zz1,jn,zz2,zz3,es,gScal_int,et,ep,oList_lst,FQ,aLm,aLp,aMw,Nat.reduceAdd,c22,c4,if_true,r2,lp,okM_lst,c1,c2,oLen_lst,tI_length,hl,oSub_int,mT,oAdd_int,eat,oIx_lst,ax,n1,p60,nW,m4,ed,ix,st,wd,lf,i1,w1,q1,outT_rt]
@[elab_as_elim] theorem ln1 {P:List Value->Prop}:∀ (us:List Value) (_:us.length=1) (f:∀ a0,P [a0]),P us
 | [a0],_,f=>f a0
@[elab_as_elim] theorem ln2 {P:List Value->Prop}:∀ (us:List Value) (_:us.length=2) (f:∀ a0 a1,P [a0,a1]),P us
 | [a0,a1],_,f=>f a0 a1
@[elab_as_elim] theorem ln3 {P:List Value->Prop}:∀ (us:List Value) (_:us.length=3) (f:∀ a0 a1 a2,P [a0,a1,a2]),P us
 | [a0,a1,a2],_,f=>f a0 a1 a2
theorem all_mk {l:PySem.W.OpenLaw}{w:World}{K:PySem.W.Frag}{h:Heap}{mg:Str->Option Value}{fa f0 f1 f2 f3 f4 f5 f6 f7 f8 f9 f10 f11 f12 f13 f14 f15 f16 f17 f18 f19 f20 f21 f22 f23 f24 f25 f26 f27 f28 f29 f30 f31 f32 f33 f34 f35 f36 f37 f38 f39 Pt cq bm:Addr}(X:K.In h) (G0:h.Ns mainGlobals mg) (hfa:mg "law" = some (.ref fa))
  {od0 an0:Option Addr} {sl0:Array (Option Value)} {oc0 kV0 dc0 pm0 cd0 ct0:Value} (a0:FA K "_law_cell" f0) (l0:FL K f0 "_law_cell" nB .none oc0 od0 kV0 dc0 pm0 an0 cd0 ct0 sl0) (cc0:FC K cd0 "_law_cell") (k0:FK K f0)
  {od1 an1:Option Addr} {sl1:Array (Option Value)} {oc1 kV1 dc1 pm1 cd1 ct1:Value} (a1:FA K "_law_hands" f1) (l1:FL K f1 "_law_hands" nG .none oc1 od1 kV1 dc1 pm1 an1 cd1 ct1 sl1) (cc1:FC K cd1 "_law_hands") (k1:FK K f1)
  {od2 an2:Option Addr} {sl2:Array (Option Value)} {oc2 kV2 dc2 pm2 cd2 ct2:Value} (a2:FA K "_law_slots" f2) (l2:FL K f2 "_law_slots" nM .none oc2 od2 kV2 dc2 pm2 an2 cd2 ct2 sl2) (cc2:FC K cd2 "_law_slots") (k2:FK K f2)
  {od3 an3:Option Addr} {sl3:Array (Option Value)} {oc3 kV3 dc3 pm3 cd3 ct3:Value} (a3:FA K "_law_many" f3) (l3:FL K f3 "_law_many" nH .none oc3 od3 kV3 dc3 pm3 an3 cd3 ct3 sl3) (cc3:FC K cd3 "_law_many") (k3:FK K f3)
  {od4 an4:Option Addr} {sl4:Array (Option Value)} {oc4 kV4 dc4 pm4 cd4 ct4:Value} (a4:FA K "_law_tied" f4) (l4:FL K f4 "_law_tied" nN .none oc4 od4 kV4 dc4 pm4 an4 cd4 ct4 sl4) (cc4:FC K cd4 "_law_tied") (k4:FK K f4)
  {od5 an5:Option Addr} {sl5:Array (Option Value)} {oc5 kV5 dc5 pm5 cd5 ct5:Value} (a5:FA K "_law_noisy" f5) (l5:FL K f5 "_law_noisy" nI .none oc5 od5 kV5 dc5 pm5 an5 cd5 ct5 sl5) (cc5:FC K cd5 "_law_noisy") (k5:FK K f5)
  {od6 an6:Option Addr} {sl6:Array (Option Value)} {oc6 kV6 dc6 pm6 cd6 ct6:Value} (a6:FA K "_law_falling" f6) (l6:FL K f6 "_law_falling" nD .none oc6 od6 kV6 dc6 pm6 an6 cd6 ct6 sl6) (cc6:FC K cd6 "_law_falling") (k6:FK K f6)
  {od7 an7:Option Addr} {sl7:Array (Option Value)} {oc7 kV7 dc7 pm7 cd7 ct7:Value} (a7:FA K "_law_prices" f7) (l7:FL K f7 "_law_prices" nK .none oc7 od7 kV7 dc7 pm7 an7 cd7 ct7 sl7) (cc7:FC K cd7 "_law_prices") (k7:FK K f7)
  {od8 an8:Option Addr} {sl8:Array (Option Value)} {oc8 kV8 dc8 pm8 cd8 ct8:Value} (a8:FA K "everybody" f8) (l8:FL K f8 "everybody" nY .none oc8 od8 kV8 dc8 pm8 an8 cd8 ct8 sl8) (cc8:FC K cd8 "everybody") (k8:FK K f8)
  {od9 an9:Option Addr} {sl9:Array (Option Value)} {oc9 kV9 dc9 pm9 cd9 ct9:Value} (a9:FA K "hands_in" f9) (l9:FL K f9 "hands_in" pC .none oc9 od9 kV9 dc9 pm9 an9 cd9 ct9 sl9) (cc9:FC K cd9 "hands_in") (k9:FK K f9)
  {od10 an10:Option Addr} {sl10:Array (Option Value)} {oc10 kV10 dc10 pm10 cd10 ct10:Value} (a10:FA K "two_break" f10) (l10:FL K f10 "two_break" pL .none oc10 od10 kV10 dc10 pm10 an10 cd10 ct10 sl10) (cc10:FC K cd10 "two_break") (k10:FK K f10)
  {od11 an11:Option Addr} {sl11:Array (Option Value)} {oc11 kV11 dc11 pm11 cd11 ct11:Value} (a11:FA K "break_beside" f11) (l11:FL K f11 "break_beside" nU .none oc11 od11 kV11 dc11 pm11 an11 cd11 ct11 sl11) (cc11:FC K cd11 "break_beside") (k11:FK K f11)
  {od12 an12:Option Addr} {sl12:Array (Option Value)} {oc12 kV12 dc12 pm12 cd12 ct12:Value} (a12:FA K "break_of" f12) (l12:FL K f12 "break_of" nV .none oc12 od12 kV12 dc12 pm12 an12 cd12 ct12 sl12) (cc12:FC K cd12 "break_of") (k12:FK K f12)
  {od13 an13:Option Addr} {sl13:Array (Option Value)} {oc13 kV13 dc13 pm13 cd13 ct13:Value} (a13:FA K "falls" f13) (l13:FL K f13 "falls" nZ .none oc13 od13 kV13 dc13 pm13 an13 cd13 ct13 sl13) (cc13:FC K cd13 "falls") (k13:FK K f13)
  {od14 an14:Option Addr} {sl14:Array (Option Value)} {oc14 kV14 dc14 pm14 cd14 ct14:Value} (a14:FA K "must_fall" f14) (l14:FL K f14 "must_fall" fY .none oc14 od14 kV14 dc14 pm14 an14 cd14 ct14 sl14) (cc14:FC K cd14 "must_fall") (k14:FK K f14)
  {od15 an15:Option Addr} {sl15:Array (Option Value)} {oc15 kV15 dc15 pm15 ct15:Value} (a15:FA K "price_order" f15) (l15:FL K f15 "price_order" pJ .none oc15 od15 kV15 dc15 pm15 an15 (.ref cq) ct15 sl15) (cc15:FC K (.ref cq) "price_order") (k15:FK K f15)
  {od16 an16:Option Addr} {sl16:Array (Option Value)} {oc16 kV16 dc16 pm16 cd16 ct16:Value} (a16:FA K "hand_count" f16) (l16:FL K f16 "hand_count" pB .none oc16 od16 kV16 dc16 pm16 an16 cd16 ct16 sl16) (cc16:FC K cd16 "hand_count") (k16:FK K f16)
  {od17 an17:Option Addr} {sl17:Array (Option Value)} {oc17 kV17 dc17 pm17 cd17 ct17:Value} (a17:FA K "by_order" f17) (l17:FL K f17 "by_order" nX .none oc17 od17 kV17 dc17 pm17 an17 cd17 ct17 sl17) (cc17:FC K cd17 "by_order") (k17:FK K f17)
  {od18 an18:Option Addr} {sl18:Array (Option Value)} {oc18 kV18 dc18 pm18 cd18 ct18:Value} (a18:FA K "best_base" f18) (l18:FL K f18 "best_base" fX .none oc18 od18 kV18 dc18 pm18 an18 cd18 ct18 sl18) (cc18:FC K cd18 "best_base") (k18:FK K f18)
  {od19 an19:Option Addr} {sl19:Array (Option Value)} {oc19 kV19 dc19 pm19 cd19 ct19:Value} (a19:FA K "_law_whole" f19) (l19:FL K f19 "_law_whole" nQ .none oc19 od19 kV19 dc19 pm19 an19 cd19 ct19 sl19) (cc19:FC K cd19 "_law_whole") (k19:FK K f19)
  {od20 an20:Option Addr} {sl20:Array (Option Value)} {oc20 kV20 dc20 pm20 cd20 ct20:Value} (a20:FA K "_law_row" f20) (l20:FL K f20 "_law_row" nL .none oc20 od20 kV20 dc20 pm20 an20 cd20 ct20 sl20) (cc20:FC K cd20 "_law_row") (k20:FK K f20)
  {od21 an21:Option Addr} {sl21:Array (Option Value)} {oc21 kV21 dc21 pm21 cd21 ct21:Value} (a21:FA K "_law_gives" f21) (l21:FL K f21 "_law_gives" nF .none oc21 od21 kV21 dc21 pm21 an21 cd21 ct21 sl21) (cc21:FC K cd21 "_law_gives") (k21:FK K f21)
  {od22 an22:Option Addr} {sl22:Array (Option Value)} {oc22 kV22 dc22 pm22 cd22 ct22:Value} (a22:FA K "_law_under" f22) (l22:FL K f22 "_law_under" nO .none oc22 od22 kV22 dc22 pm22 an22 cd22 ct22 sl22) (cc22:FC K cd22 "_law_under") (k22:FK K f22)
  {od23 an23:Option Addr} {sl23:Array (Option Value)} {oc23 kV23 dc23 pm23 cd23 ct23:Value} (a23:FA K "_law_base" f23) (l23:FL K f23 "_law_base" mZ .none oc23 od23 kV23 dc23 pm23 an23 cd23 ct23 sl23) (cc23:FC K cd23 "_law_base") (k23:FK K f23)
  {od24 an24:Option Addr} {sl24:Array (Option Value)} {oc24 kV24 dc24 pm24 cd24 ct24:Value} (a24:FA K "_law_order" f24) (l24:FL K f24 "_law_order" nJ .none oc24 od24 kV24 dc24 pm24 an24 cd24 ct24 sl24) (cc24:FC K cd24 "_law_order") (k24:FK K f24)
  {od25 an25:Option Addr} {sl25:Array (Option Value)} {oc25 kV25 dc25 pm25 cd25 ct25:Value} (a25:FA K "_law_by" f25) (l25:FL K f25 "_law_by" nA .none oc25 od25 kV25 dc25 pm25 an25 cd25 ct25 sl25) (cc25:FC K cd25 "_law_by") (k25:FK K f25)
  {od26 an26:Option Addr} {sl26:Array (Option Value)} {oc26 kV26 dc26 pm26 cd26 ct26:Value} (a26:FA K "weight_of" f26) (l26:FL K f26 "weight_of" pM .none oc26 od26 kV26 dc26 pm26 an26 cd26 ct26 sl26) (cc26:FC K cd26 "weight_of") (k26:FK K f26)
  {od27 an27:Option Addr} {sl27:Array (Option Value)} {oc27 kV27 dc27 pm27 cd27 ct27:Value} (a27:FA K "_law_worth" f27) (l27:FL K f27 "_law_worth" nS .none oc27 od27 kV27 dc27 pm27 an27 cd27 ct27 sl27) (cc27:FC K cd27 "_law_worth") (k27:FK K f27)
  {od28 an28:Option Addr} {sl28:Array (Option Value)} {oc28 kV28 dc28 pm28 cd28 ct28:Value} (a28:FA K "_law_weigh" f28) (l28:FL K f28 "_law_weigh" nP .none oc28 od28 kV28 dc28 pm28 an28 cd28 ct28 sl28) (cc28:FC K cd28 "_law_weigh") (k28:FK K f28)
  {od29 an29:Option Addr} {sl29:Array (Option Value)} {oc29 kV29 dc29 pm29 cd29 ct29:Value} (a29:FA K "row_gives" f29) (l29:FL K f29 "row_gives" pK .none oc29 od29 kV29 dc29 pm29 an29 cd29 ct29 sl29) (cc29:FC K cd29 "row_gives") (k29:FK K f29)
  {od30 an30:Option Addr} {sl30:Array (Option Value)} {oc30 kV30 dc30 pm30 cd30 ct30:Value} (a30:FA K "less_row" f30) (l30:FL K f30 "less_row" pG .none oc30 od30 kV30 dc30 pm30 an30 cd30 ct30 sl30) (cc30:FC K cd30 "less_row") (k30:FK K f30)
  {od31 an31:Option Addr} {sl31:Array (Option Value)} {oc31 kV31 dc31 pm31 cd31 ct31:Value} (a31:FA K "over" f31) (l31:FL K f31 "over" pH .none oc31 od31 kV31 dc31 pm31 an31 cd31 ct31 sl31) (cc31:FC K cd31 "over") (k31:FK K f31)
  {od32 an32:Option Addr} {sl32:Array (Option Value)} {oc32 kV32 dc32 pm32 cd32 ct32:Value} (a32:FA K "is_under" f32) (l32:FL K f32 "is_under" pF .none oc32 od32 kV32 dc32 pm32 an32 cd32 ct32 sl32) (cc32:FC K cd32 "is_under") (k32:FK K f32)
  {od33 an33:Option Addr} {sl33:Array (Option Value)} {oc33 kV33 dc33 pm33 cd33 ct33:Value} (a33:FA K "is_base" f33) (l33:FL K f33 "is_base" pD .none oc33 od33 kV33 dc33 pm33 an33 cd33 ct33 sl33) (cc33:FC K cd33 "is_base") (k33:FK K f33)
  {od34 an34:Option Addr} {sl34:Array (Option Value)} {oc34 kV34 dc34 pm34 cd34 ct34:Value} (a34:FA K "group_of" f34) (l34:FL K f34 "group_of" pA .none oc34 od34 kV34 dc34 pm34 an34 cd34 ct34 sl34) (cc34:FC K cd34 "group_of") (k34:FK K f34)
  {od35 an35:Option Addr} {sl35:Array (Option Value)} {oc35 kV35 dc35 pm35 cd35 ct35:Value} (a35:FA K "price_chain" f35) (l35:FL K f35 "price_chain" pI .none oc35 od35 kV35 dc35 pm35 an35 cd35 ct35 sl35) (cc35:FC K cd35 "price_chain") (k35:FK K f35)
  {od36 an36:Option Addr} {sl36:Array (Option Value)} {oc36 kV36 dc36 pm36 cd36 ct36:Value} (a36:FA K "is_best" f36) (l36:FL K f36 "is_best" pE .none oc36 od36 kV36 dc36 pm36 an36 cd36 ct36 sl36) (cc36:FC K cd36 "is_best") (k36:FK K f36)
  {od37 an37:Option Addr} {sl37:Array (Option Value)} {oc37 kV37 dc37 pm37 cd37 ct37:Value} (a37:FA K "_law_word" f37) (l37:FL K f37 "_law_word" nR .none oc37 od37 kV37 dc37 pm37 an37 cd37 ct37 sl37) (cc37:FC K cd37 "_law_word") (k37:FK K f37)
  {od38 an38:Option Addr} {sl38:Array (Option Value)} {oc38 kV38 dc38 pm38 cd38 ct38:Value} (a38:FA K "_law_falls" f38) (l38:FL K f38 "_law_falls" nE .none oc38 od38 kV38 dc38 pm38 an38 cd38 ct38 sl38) (cc38:FC K cd38 "_law_falls") (k38:FK K f38)
  {od39 an39:Option Addr} {sl39:Array (Option Value)} {oc39 kV39 dc39 pm39 cd39 ct39:Value} (a39:FA K "law" f39) (l39:FL K f39 "law" gT .none oc39 od39 kV39 dc39 pm39 an39 cd39 ct39 sl39) (cc39:FC K cd39 "law") (k39:FK K f39)
  {smq:Array (Option Value)} (q_code:PySem.W.codeHdIn K cq Pt=true) (q_blt:PySem.W.nsIn K mainGlobals "__builtins__" = some (some (.ref bm))) (q_mod:K.lookup bm=some ⟨.type "module",some builtinsNs,.plain,smq⟩) (n1:bm≠builtinsNs) (n2:bm≠mainGlobals)
  (aK1:PySem.W.nsIn K mainGlobals "len" = some none)
  (aJw:PySem.W.nsIn K mainGlobals "range" = some none)
  (aK2:PySem.W.nsIn K mainGlobals "min" = some none)
  (aJo:PySem.W.nsIn K mainGlobals "enumerate" = some none)
  (aJv:PySem.W.nsIn K mainGlobals "sorted" = some none)
  (aJl:PySem.W.nsIn K mainGlobals "isinstance" = some none)
  (aK0:PySem.W.nsIn K mainGlobals "int" = some none)
  (aJx:PySem.W.nsIn K mainGlobals "bool" = some none)
  (aJy:PySem.W.nsIn K mainGlobals "list" = some none)
  (aJz:PySem.W.nsIn K mainGlobals "all" = some none)
  (aK5:PySem.W.nsIn K mainGlobals "zip" = some none)
  (aK4:PySem.W.nsIn K mainGlobals "sum" = some none)
  (aJr:PySem.W.nsIn K mainGlobals "reversed" = some none)
  (aK3:PySem.W.nsIn K mainGlobals "set" = some none)
  (aJk:PySem.W.nsIn K mainGlobals "ValueError" = some none)
  {aHx:Addr} (n_NotFalling:nmC K "NotFalling" aHx)
  {aJu:Addr} (n_Unlike:nmC K "Unlike" aJu)
  {aJq:Addr} (n_NotUnder:nmC K "NotUnder" aJq)
  {aJn:Addr} (n_NotRising:nmC K "NotRising" aJn)
  {aJt:Addr} (n_NotBase:nmC K "NotBase" aJt)
  {aJp:Addr} (n_BadTable:nmC K "BadTable" aJp)
  {aIr:Addr} (n_CostError:nmC K "CostError" aIr)
  (e_NotFalling:qA K aHx=true)
  (j_NotFalling_NotFalling:PySem.W.kitOne K (.ref aHx) (.ref aHx)=some true)
  (v_ValueError_NotFalling:PySem.W.kitOne K (.ref aHx) (.type "ValueError")=some true)
  (j_Unlike_NotFalling:PySem.W.kitOne K (.ref aHx) (.ref aJu)=some false)
  (j_NotUnder_NotFalling:PySem.W.kitOne K (.ref aHx) (.ref aJq)=some false)
  (j_NotRising_NotFalling:PySem.W.kitOne K (.ref aHx) (.ref aJn)=some false)
  (j_NotBase_NotFalling:PySem.W.kitOne K (.ref aHx) (.ref aJt)=some false)
  (j_BadTable_NotFalling:PySem.W.kitOne K (.ref aHx) (.ref aJp)=some false)
  {cd_CostError:ClassData} (p_CostError:PySem.W.typeIn K (.ref aIr)=some (.type "type")) (q_CostError:PySem.W.clsIn K aIr=some cd_CostError) (r_CostError:PySem.W.subIn K (.ref aIr) (.type "BaseException")=some true)
  (s_CostError_NotFalling:PySem.W.subIn K (.ref aHx) (.ref aIr)=some true)
  : ∃ fd:FuncData,(∀ (s:Shared) (v:Value),BindsTo s fd ⟨[v],[]⟩ [("script",v)])/\∀ base:Heap,K.In base->base.Ns mainGlobals mg->FnOk l.prog w K mg base CX0 8 fa fd ["script"] (spP Pt bQ (spT K pS false 3)):=by
 have e:=hfa.symm.trans (aN6 X G0 a39);cases e;have aHs:=aN5 X G0 aK1;have aHr:=aN5 X G0 aJw;have aJc:=aN5 X G0 aK2;have aHw:=aN5 X G0 aJo;have aI8:=aN5 X G0 aJv;have aHu:=aN5 X G0 aJl;have aJb:=aN5 X G0 aK0;have aJm:=aN5 X G0 aJx;have aI5:=aN5 X G0 aJy;have aJa:=aN5 X G0 aJz;have aJe:=aN5 X G0 aK5;have aJd:=aN5 X G0 aK4;have aJ9:=aN5 X G0 aJr;have aJs:=aN5 X G0 aK3;have aIq:=aN5 X G0 aJk;have U0:=bE (st:=nB) l0 cc0 k0;have b0:=U0.binds (ps:=["script","k"]) fun _ _ _ _ _ _ us hl=>ln2 us hl fun _ _=>rfl;have U1:=bE (st:=nG) l1 cc1 k1;have b1:=U1.binds (ps:=["script"]) fun _ _ _ _ _ _ us hl=>ln1 us hl fun _=>rfl;have U2:=bE (st:=nM) l2 cc2 k2;have b2:=U2.binds (ps:=["script","hands"]) fun _ _ _ _ _ _ us hl=>ln2 us hl fun _ _=>rfl;have U3:=bE (st:=nH) l3 cc3 k3;have b3:=U3.binds (ps:=["group"]) fun _ _ _ _ _ _ us hl=>ln1 us hl fun _=>rfl;have U4:=bE (st:=nN) l4 cc4 k4;have b4:=U4.binds (ps:=["slots","hands","most"]) fun _ _ _ _ _ _ us hl=>ln3 us hl fun _ _ _=>rfl;have U5:=bE (st:=nI) l5 cc5 k5;have b5:=U5.binds (ps:=["slots","hands","most"]) fun _ _ _ _ _ _ us hl=>ln3 us hl fun _ _ _=>rfl;have U6:=bE (st:=nD) l6 cc6 k6;have b6:=U6.binds (ps:=["script","hands"]) fun _ _ _ _ _ _ us hl=>ln2 us hl fun _ _=>rfl;have U7:=bE (st:=nK) l7 cc7 k7;have b7:=U7.binds (ps:=["script","hands","start"]) fun _ _ _ _ _ _ us hl=>ln3 us hl fun _ _ _=>rfl;have U8:=bE (st:=nY) l8 cc8 k8;have b8:=U8.binds (ps:=["table"]) fun _ _ _ _ _ _ us hl=>ln1 us hl fun _=>rfl;have U9:=bE (st:=pC) l9 cc9 k9;have b9:=U9.binds (ps:=["group"]) fun _ _ _ _ _ _ us hl=>ln1 us hl fun _=>rfl;have U10:=bE (st:=pL) l10 cc10 k10;have b10:=U10.binds (ps:=["table","one","other"]) fun _ _ _ _ _ _ us hl=>ln3 us hl fun _ _ _=>rfl;have U11:=bE (st:=nU) l11 cc11 k11;have b11:=U11.binds (ps:=["table","group"]) fun _ _ _ _ _ _ us hl=>ln2 us hl fun _ _=>rfl;have U12:=bE (st:=nV) l12 cc12 k12;have b12:=U12.binds (ps:=["table"]) fun _ _ _ _ _ _ us hl=>ln1 us hl fun _=>rfl;have U13:=bE (st:=nZ) l13 cc13 k13;have b13:=U13.binds (ps:=["table"]) fun _ _ _ _ _ _ us hl=>ln1 us hl fun _=>rfl;have U14:=bE (st:=fY) l14 cc14 k14;have b14:=U14.binds (ps:=["table"]) fun _ _ _ _ _ _ us hl=>ln1 us hl fun _=>rfl;have U15:=VF (st:=pJ) l15 cc15 k15;have LK:LamK K mg cq Pt bm:=⟨q_code,aN6 X G0 q_blt,⟨_,q_mod⟩,n1,n2⟩;have b15:=U15.fn.binds (ps:=["prices"]) fun _ _ _ _ _ _ us hl=>ln1 us hl fun _=>rfl;have U16:=bE (st:=pB) l16 cc16 k16;have b16:=U16.binds (ps:=["table"]) fun _ _ _ _ _ _ us hl=>ln1 us hl fun _=>rfl;have U17:=bE (st:=nX) l17 cc17 k17;have b17:=U17.binds (ps:=["table","order"]) fun _ _ _ _ _ _ us hl=>ln2 us hl fun _ _=>rfl;have U18:=bE (st:=fX) l18 cc18 k18;have b18:=U18.binds (ps:=["table","prices"]) fun _ _ _ _ _ _ us hl=>ln2 us hl fun _ _=>rfl;have U19:=bE (st:=nQ) l19 cc19 k19;have b19:=U19.binds (ps:=["found"]) fun _ _ _ _ _ _ us hl=>ln1 us hl fun _=>rfl;have U20:=bE (st:=nL) l20 cc20 k20;have b20:=U20.binds (ps:=["found","hands"]) fun _ _ _ _ _ _ us hl=>ln2 us hl fun _ _=>rfl;have U21:=bE (st:=nF) l21 cc21 k21;have b21:=U21.binds (ps:=["row","group"]) fun _ _ _ _ _ _ us hl=>ln2 us hl fun _ _=>rfl;have U22:=bE (st:=nO) l22 cc22 k22;have b22:=U22.binds (ps:=["table","shares"]) fun _ _ _ _ _ _ us hl=>ln2 us hl fun _ _=>rfl;have U23:=bE (st:=mZ) l23 cc23 k23;have b23:=U23.binds (ps:=["table","shares"]) fun _ _ _ _ _ _ us hl=>ln2 us hl fun _ _=>rfl;have U24:=bE (st:=nJ) l24 cc24 k24;have b24:=U24.binds (ps:=["prices"]) fun _ _ _ _ _ _ us hl=>ln1 us hl fun _=>rfl;have U25:=bE (st:=nA) l25 cc25 k25;have b25:=U25.binds (ps:=["table","order"]) fun _ _ _ _ _ _ us hl=>ln2 us hl fun _ _=>rfl;have U26:=bE (st:=pM) l26 cc26 k26;have b26:=U26.binds (ps:=["shares","prices"]) fun _ _ _ _ _ _ us hl=>ln2 us hl fun _ _=>rfl;have U27:=bE (st:=nS) l27 cc27 k27;have b27:=U27.binds (ps:=["table","prices"]) fun _ _ _ _ _ _ us hl=>ln2 us hl fun _ _=>rfl;have U28:=bE (st:=nP) l28 cc28 k28;have b28:=U28.binds (ps:=["shares","prices"]) fun _ _ _ _ _ _ us hl=>ln2 us hl fun _ _=>rfl;have U29:=bE (st:=pK) l29 cc29 k29;have b29:=U29.binds (ps:=["row","group"]) fun _ _ _ _ _ _ us hl=>ln2 us hl fun _ _=>rfl;have U30:=bE (st:=pG) l30 cc30 k30;have b30:=U30.binds (ps:=["table","row"]) fun _ _ _ _ _ _ us hl=>ln2 us hl fun _ _=>rfl;have U31:=bE (st:=pH) l31 cc31 k31;have b31:=U31.binds (ps:=["table","shares"]) fun _ _ _ _ _ _ us hl=>ln2 us hl fun _ _=>rfl;have U32:=bE (st:=pF) l32 cc32 k32;have b32:=U32.binds (ps:=["table","shares"]) fun _ _ _ _ _ _ us hl=>ln2 us hl fun _ _=>rfl;have U33:=bE (st:=pD) l33 cc33 k33;have b33:=U33.binds (ps:=["table","shares"]) fun _ _ _ _ _ _ us hl=>ln2 us hl fun _ _=>rfl;have U34:=bE (st:=pA) l34 cc34 k34;have b34:=U34.binds (ps:=["hands"]) fun _ _ _ _ _ _ us hl=>ln1 us hl fun _=>rfl;have U35:=bE (st:=pI) l35 cc35 k35;have b35:=U35.binds (ps:=["prices"]) fun _ _ _ _ _ _ us hl=>ln1 us hl fun _=>rfl;have U36:=bE (st:=pE) l36 cc36 k36;have b36:=U36.binds (ps:=["table","prices","shares"]) fun _ _ _ _ _ _ us hl=>ln3 us hl fun _ _ _=>rfl;have U37:=bE (st:=nR) l37 cc37 k37;have b37:=U37.binds (ps:=["table","prices"]) fun _ _ _ _ _ _ us hl=>ln2 us hl fun _ _=>rfl;have U38:=bE (st:=nE) l38 cc38 k38;have b38:=U38.binds (ps:=["table","hands"]) fun _ _ _ _ _ _ us hl=>ln2 us hl fun _ _=>rfl;have U39:=bE (st:=gT) l39 cc39 k39;refine⟨PySem.W.fnOf "law" "law" (defArgs gT) (defBody gT) (defScope gT) .none kV39 dc39 pm39 an39 cd39 ct39,fun s v=>.of_eq rfl,fun base IB GB=>?_⟩;have aIg:=aEl IB GB n_NotFalling e_NotFalling;have aIe:=qI (mg:=mg) IB GB n_NotFalling n_NotFalling j_NotFalling_NotFalling (qJ (mg:=mg) IB GB n_NotFalling);have aIf:=XV n_NotFalling v_ValueError_NotFalling (XW);have aJi:=qI (mg:=mg) IB GB n_Unlike n_NotFalling j_Unlike_NotFalling (qJ (mg:=mg) IB GB n_Unlike);have aJ0:=qI (mg:=mg) IB GB n_NotUnder n_NotFalling j_NotUnder_NotFalling (qJ (mg:=mg) IB GB n_NotUnder);have aIo:=qI (mg:=mg) IB GB n_NotRising n_NotFalling j_NotRising_NotFalling (qJ (mg:=mg) IB GB n_NotRising);have aJ8:=qI (mg:=mg) IB GB n_NotBase n_NotFalling j_NotBase_NotFalling (qJ (mg:=mg) IB GB n_NotBase);have aIz:=qI (mg:=mg) IB GB n_BadTable n_NotFalling j_BadTable_NotFalling (qJ (mg:=mg) IB GB n_BadTable);have aIp:=aGy (mg:=mg) IB GB n_CostError n_NotFalling e_NotFalling s_CostError_NotFalling (aGz (mg:=mg) IB GB n_CostError p_CostError q_CostError r_CostError);have aHt:Cal l.prog w K mg base "_law_cell" 1 ["script","k"] bX false 3:=⟨_,_,aB3 aHs U0,aN6 X G0 a0,k0,b0⟩;have aIj:Cal l.prog w K mg base "_law_hands" 2 ["script"] kF false 3:=⟨_,_,aB7 aHt U1,aN6 X G0 a1,k1,b1⟩;have aIk:Cal l.prog w K mg base "_law_slots" 1 ["script","hands"] kH true 3:=⟨_,_,aBd aHr aHs U2,aN6 X G0 a2,k2,b2⟩;have aI0:Cal l.prog w K mg base "_law_many" 1 ["group"] fG false 3:=⟨_,_,aB8  U3,aN6 X G0 a3,k3,b3⟩;have aIt:Cal l.prog w K mg base "_law_tied" 2 ["slots","hands","most"] kI true 3:=⟨_,_,aBe aI0 aHr aJc U4,aN6 X G0 a4,k4,b4⟩;have aIa:Cal l.prog w K mg base "_law_noisy" 2 ["slots","hands","most"] jD true 3:=⟨_,_,aB9 aI0 aHr U5,aN6 X G0 a5,k5,b5⟩;have aI9:Cal l.prog w K mg base "_law_falling" 3 ["script","hands"] kB true 3:=⟨_,_,aB4 aIk aHt aIt aIa U6,aN6 X G0 a6,k6,b6⟩;have aIc:Cal l.prog w K mg base "_law_prices" 2 ["script","hands","start"] jE true 3:=⟨_,_,aBb aHt aHr aHs U7,aN6 X G0 a7,k7,b7⟩;have aI4:Cal l.prog w K mg base "everybody" 1 ["table"] fI false 3:=⟨_,_,aBo aHs U8,aN6 X G0 a8,k8,b8⟩;have aI7:Cal l.prog w K mg base "hands_in" 1 ["group"] gE true 3:=⟨_,_,aBs aHr U9,aN6 X G0 a9,k9,b9⟩;have aIx:Cal l.prog w K mg base "two_break" 1 ["table","one","other"] kX false 3:=⟨_,_,aC3  U10,aN6 X G0 a10,k10,b10⟩;have aIb:Cal l.prog w K mg base "break_beside" 2 ["table","group"] kN false 3:=⟨_,_,aBl aI4 aI7 aIx aHw U11,aN6 X G0 a11,k11,b11⟩;have aJ4:Cal l.prog w K mg base "break_of" 3 ["table"] kO false 3:=⟨_,_,aBm aIb aHs aHr U12,aN6 X G0 a12,k12,b12⟩;have aIh:Cal l.prog w K mg base "falls" 4 ["table"] eO false 3:=⟨_,_,aBp aJ4 U13,aN6 X G0 a13,k13,b13⟩;have aIw:Cal l.prog w K mg base "must_fall" 5 ["table"] kT false 3:=⟨_,_,aBy aIh U14,aN6 X G0 a14,k14,b14⟩;have aHy:CalP l.prog w K mg base Pt bQ "price_order" 1 ["prices"] gF true 3:=⟨_,_,aC1 LK aHs aI8 aHr U15,aN6 X G0 a15,k15,b15⟩;have aI3:Cal l.prog w K mg base "hand_count" 1 ["table"] gD false 3:=⟨_,_,aBr aHs U16,aN6 X G0 a16,k16,b16⟩;have aI6:Cal l.prog w K mg base "by_order" 2 ["table","order"] gC true 3:=⟨_,_,aBn aI3 U17,aN6 X G0 a17,k17,b17⟩;have aIv:CalP l.prog w K mg base Pt bQ "best_base" 6 ["table","prices"] kM true 3:=⟨_,_,aBk aIw aHy aI6 U18,aN6 X G0 a18,k18,b18⟩;have aI2:Cal l.prog w K mg base "_law_whole" 1 ["found"] gB false 3:=⟨_,_,aBh aHu aJb aJm U19,aN6 X G0 a19,k19,b19⟩;have aJ3:Cal l.prog w K mg base "_law_row" 2 ["found","hands"] kG false 3:=⟨_,_,aBc aI2 aHu aI5 aHs aJa U20,aN6 X G0 a20,k20,b20⟩;have aHz:Cal l.prog w K mg base "_law_gives" 1 ["row","group"] gA false 3:=⟨_,_,aB6 aHs aHr U21,aN6 X G0 a21,k21,b21⟩;have aIl:Cal l.prog w K mg base "_law_under" 2 ["table","shares"] kJ false 3:=⟨_,_,aBf aHz aHs aHr U22,aN6 X G0 a22,k22,b22⟩;have aIs:Cal l.prog w K mg base "_law_base" 3 ["table","shares"] jZ false 3:=⟨_,_,aB1 aIl aHz aHs U23,aN6 X G0 a23,k23,b23⟩;have aI1:Cal l.prog w K mg base "_law_order" 1 ["prices"] fH true 3:=⟨_,_,aBa aHs aHr U24,aN6 X G0 a24,k24,b24⟩;have aJf:Cal l.prog w K mg base "_law_by" 1 ["table","order"] kA true 3:=⟨_,_,aB2  U25,aN6 X G0 a25,k25,b25⟩;have aIy:Cal l.prog w K mg base "weight_of" 1 ["shares","prices"] jI false 3:=⟨_,_,aC4 aJe aJd U26,aN6 X G0 a26,k26,b26⟩;have aIn:Cal l.prog w K mg base "_law_worth" 2 ["table","prices"] kL false 3:=⟨_,_,aBj aI1 U27,aN6 X G0 a27,k27,b27⟩;have aIm:Cal l.prog w K mg base "_law_weigh" 1 ["shares","prices"] jF false 3:=⟨_,_,aBg aHs aHr U28,aN6 X G0 a28,k28,b28⟩;have aHv:Cal l.prog w K mg base "row_gives" 2 ["row","group"] dZ false 3:=⟨_,_,aC2 aI7 aJd U29,aN6 X G0 a29,k29,b29⟩;have aJ7:Cal l.prog w K mg base "less_row" 3 ["table","row"] kR true 3:=⟨_,_,aBx aI3 aHv aHs aHw U30,aN6 X G0 a30,k30,b30⟩;have aJj:Cal l.prog w K mg base "over" 4 ["table","shares"] kU false 3:=⟨_,_,aBz aJ7 aJc U31,aN6 X G0 a31,k31,b31⟩;have aJ6:Cal l.prog w K mg base "is_under" 5 ["table","shares"] kQ false 3:=⟨_,_,aBv aJj U32,aN6 X G0 a32,k32,b32⟩;have aJg:Cal l.prog w K mg base "is_base" 6 ["table","shares"] jH false 3:=⟨_,_,aBt aI4 aJ6 aHv U33,aN6 X G0 a33,k33,b33⟩;have aJ5:Cal l.prog w K mg base "group_of" 1 ["hands"] jG false 3:=⟨_,_,aBq  U34,aN6 X G0 a34,k34,b34⟩;have aId:Cal l.prog w K mg base "price_chain" 2 ["prices"] kW true 3:=⟨_,_,aC0 aJ5 aI5 aJ9 aI8 aJs aJe aHw U35,aN6 X G0 a35,k35,b35⟩;have aJh:Cal l.prog w K mg base "is_best" 7 ["table","prices","shares"] kP false 3:=⟨_,_,aBu aJg aId aHv aJa U36,aN6 X G0 a36,k36,b36⟩;have aJ2:CalX l.prog w K mg base "must_fall" 5 ["table"] jC false 3 []:=⟨_,_,aB0 aIh aIg U14,aN6 X G0 a14,k14,b14⟩;have aJ1:CalXP l.prog w K mg base Pt bQ "best_base" 6 ["table","prices"] jY true 3 []:=⟨_,_,aAz aHy aI6 aJ2 U18,aN6 X G0 a18,k18,b18⟩;have aIu:CalP l.prog w K mg base Pt bQ "_law_word" 7 ["table","prices"] kK false 3:=⟨_,_,aBi aJ1 aIe aIf aJi aJ0 aIo aJ8 aIz aIp aHu aIq U37,aN6 X G0 a37,k37,b37⟩;have aIi:Cal l.prog w K mg base "_law_falls" 1 ["table","hands"] kD false 3:=⟨_,_,aB5 aHs aHr U38,aN6 X G0 a38,k38,b38⟩;exact aBw aIj aI9 aIc aIv aJ3 aIs aI1 aJf aIy aI2 aIn aIm aJh aHt aIu aIi aI5 aHr aHs aJb U39
theorem walk {l:PySem.W.OpenLaw}{q:Program}{loose:List Str}{XP:(Str->Option Value)->Heap->Prop}{YP:World->Heap->Prop}{d:DefRec}{K:Params->PySem.W.Frag}{Pt cq:Addr}(hn:l.most=some 63) (hdf:d.params.defaults=[])
  (hY:∀ (w:World) (h:Heap),YP w h->(K w.params).In h/\h.get? Pt=some (PySem.W.tabObj #[])) (hC:∀ p,PySem.W.codeHdIn (K p) cq Pt=true) (hPK:∀ p,(K p).lookup Pt=none)
  (F:∀ (w:World) (mg:Str->Option Value) (fa:Addr) (h:Heap),(K w.params).In h->h.Ns mainGlobals mg->mg d.name=some (.ref fa) ->
   ∃ fd:FuncData,(∀ (s:Shared) (u:Value),BindsTo s fd ⟨[u],[]⟩ [("script",u)])/\∀ base:Heap,(K w.params).In base->base.Ns mainGlobals mg->FnOk l.prog w (K w.params) mg base CX0 8 fa fd ["script"] (spP Pt bQ (spT (K w.params) pS false 3))):
  PySem.W.WalkO q loose XP YP l.row.toRowW d [] (fun f vs=>PySem.call f vs):=
 ZK ⟨rfl,by decide,by decide⟩ hn hdf hY hC hPK F OT
set_option maxRecDepth 100000
set_option maxHeartbeats 0
noncomputable def KF (P:Params):PySem.W.Frag:=
 (nat_lit 3,⟨.type "dict",none,.dict #[HD.kE P "__name__" 165 (.str "law_groupcost_k32_best_base" 473),HD.kE P "__doc__" 166 (.none),HD.kE P "__package__" 167 (.none),HD.kE P "__loader__" 168 (.builtin "__main__.__loader__#opaque"),HD.kE P "__spec__" 169 (.none),HD.kE P "__annotations__" 170 (.ref 6),HD.kE P "__builtins__" 171 (.ref 4),HD.kE P "__file__" 173 (.str "/claim/cut.py" 172),HD.kE P "__cached__" 174 (.none),HD.kE P "CostError" 206 (.ref 24),HD.kE P "BadTable" 222 (.ref 37),HD.kE P "Unlike" 238 (.ref 49),HD.kE P "NotFalling" 254 (.ref 61),HD.kE P "NotRising" 270 (.ref 73),HD.kE P "NotUnder" 286 (.ref 85),HD.kE P "NotBase" 302 (.ref 97),HD.kE P "hands_in" 310 (.ref 104),HD.kE P "group_of" 319 (.ref 111),HD.kE P "hand_count" 328 (.ref 118),HD.kE P "everybody" 335 (.ref 125),HD.kE P "row_gives" 341 (.ref 130),HD.kE P "less_row" 347 (.ref 135),HD.kE P "two_break" 358 (.ref 142),HD.kE P "break_beside" 370 (.ref 149),HD.kE P "break_of" 379 (.ref 156),HD.kE P "falls" 386 (.ref 163),HD.kE P "must_fall" 393 (.ref 170),HD.kE P "over" 405 (.ref 177),HD.kE P "is_under" 413 (.ref 184),HD.kE P "is_base" 422 (.ref 191),HD.kE P "by_order" 436 (.ref 198),HD.kE P "price_order" 446 (.ref 205),HD.kE P "price_chain" 452 (.ref 210),HD.kE P "weight_of" 458 (.ref 215),HD.kE P "best_base" 466 (.ref 222),HD.kE P "is_best" 472 (.ref 227),HD.kE P "_law_cell" 482 (.ref 234),HD.kE P "_law_whole" 489 (.ref 241),HD.kE P "_law_hands" 496 (.ref 248),HD.kE P "_law_many" 504 (.ref 255),HD.kE P "_law_slots" 510 (.ref 260),HD.kE P "_law_noisy" 523 (.ref 267),HD.kE P "_law_tied" 529 (.ref 272),HD.kE P "_law_falling" 535 (.ref 277),HD.kE P "_law_prices" 541 (.ref 282),HD.kE P "_law_order" 551 (.ref 289),HD.kE P "_law_worth" 562 (.ref 296),HD.kE P "_law_by" 568 (.ref 301),HD.kE P "_law_gives" 578 (.ref 308),HD.kE P "_law_row" 584 (.ref 313),HD.kE P "_law_under" 593 (.ref 320),HD.kE P "_law_base" 601 (.ref 327),HD.kE P "_law_weigh" 611 (.ref 334),HD.kE P "_law_falls" 617 (.ref 339),HD.kE P "_law_word" 627 (.ref 346),HD.kE P "law" 643 (.ref 353)] 56,#[]⟩) ::
 (nat_lit 4,⟨.type "module",some 0,.plain,#[]⟩) ::
 (nat_lit 15,⟨.type "tuple",none,.seq #[.type "ValueError"] 0,#[]⟩) ::
 (nat_lit 22,⟨.type "tuple",none,.seq #[] 0,#[]⟩) ::
 (nat_lit 23,⟨.type "dict",none,.dict #[HD.kE P "__module__" 196 (.str "groupcost.errors" 187),HD.kE P "__firstlineno__" 200 (.int (2) 199),HD.kE P "__static_attributes__" 201 (.ref 22),HD.kE P "__weakref__" 203 (.ref 25),HD.kE P "__doc__" 204 (.none)] 3,#[]⟩) ::
 (nat_lit 24,⟨.type "type",none,.cls ⟨"CostError",[.type "ValueError"],[.ref 24,.type "ValueError",.type "Exception",.type "BaseException",.type "object"],23,"CostError",true,[],[.ref 37,.ref 49,.ref 61,.ref 73,.ref 85,.ref 97],false,none,false⟩,#[some (.ref 15),none,some (.str "CostError" 189),some (.str "CostError" 197),some (.builtin "ValueError.__new__"),some (.bool true)]⟩) ::
 (nat_lit 25,⟨.type "getset_descriptor",none,.fields #[.str "__weakref__" 202,.ref 24,.builtin "ExceptionGroup.__weakref__",.none],#[]⟩) ::
 (nat_lit 28,⟨.type "tuple",none,.seq #[.ref 24] 0,#[]⟩) ::
 (nat_lit 35,⟨.type "tuple",none,.seq #[] 0,#[]⟩) ::
 (nat_lit 36,⟨.type "dict",none,.dict #[HD.kE P "__module__" 214 (.str "groupcost.errors" 187),HD.kE P "__firstlineno__" 218 (.int (4) 217),HD.kE P "__static_attributes__" 219 (.ref 35),HD.kE P "__doc__" 220 (.none)] 2,#[]⟩) ::
 (nat_lit 37,⟨.type "type",none,.cls ⟨"BadTable",[.ref 24],[.ref 37,.ref 24,.type "ValueError",.type "Exception",.type "BaseException",.type "object"],36,"BadTable",true,[],[],false,none,false⟩,#[some (.ref 28),none,some (.str "BadTable" 207),some (.str "BadTable" 215),some (.builtin "ValueError.__new__"),some (.bool true)]⟩) ::
 (nat_lit 40,⟨.type "tuple",none,.seq #[.ref 24] 0,#[]⟩) ::
 (nat_lit 47,⟨.type "tuple",none,.seq #[] 0,#[]⟩) ::
 (nat_lit 48,⟨.type "dict",none,.dict #[HD.kE P "__module__" 230 (.str "groupcost.errors" 187),HD.kE P "__firstlineno__" 234 (.int (6) 233),HD.kE P "__static_attributes__" 235 (.ref 47),HD.kE P "__doc__" 236 (.none)] 2,#[]⟩) ::
 (nat_lit 49,⟨.type "type",none,.cls ⟨"Unlike",[.ref 24],[.ref 49,.ref 24,.type "ValueError",.type "Exception",.type "BaseException",.type "object"],48,"Unlike",true,[],[],false,none,false⟩,#[some (.ref 40),none,some (.str "Unlike" 223),some (.str "Unlike" 231),some (.builtin "ValueError.__new__"),some (.bool true)]⟩) ::
 (nat_lit 52,⟨.type "tuple",none,.seq #[.ref 24] 0,#[]⟩) ::
 (nat_lit 59,⟨.type "tuple",none,.seq #[] 0,#[]⟩) ::
 (nat_lit 60,⟨.type "dict",none,.dict #[HD.kE P "__module__" 246 (.str "groupcost.errors" 187),HD.kE P "__firstlineno__" 250 (.int (8) 249),HD.kE P "__static_attributes__" 251 (.ref 59),HD.kE P "__doc__" 252 (.none)] 2,#[]⟩) ::
 (nat_lit 61,⟨.type "type",none,.cls ⟨"NotFalling",[.ref 24],[.ref 61,.ref 24,.type "ValueError",.type "Exception",.type "BaseException",.type "object"],60,"NotFalling",true,[],[],false,none,false⟩,#[some (.ref 52),none,some (.str "NotFalling" 239),some (.str "NotFalling" 247),some (.builtin "ValueError.__new__"),some (.bool true)]⟩) ::
 (nat_lit 64,⟨.type "tuple",none,.seq #[.ref 24] 0,#[]⟩) ::
 (nat_lit 71,⟨.type "tuple",none,.seq #[] 0,#[]⟩) ::
 (nat_lit 72,⟨.type "dict",none,.dict #[HD.kE P "__module__" 262 (.str "groupcost.errors" 187),HD.kE P "__firstlineno__" 266 (.int (10) 265),HD.kE P "__static_attributes__" 267 (.ref 71),HD.kE P "__doc__" 268 (.none)] 2,#[]⟩) ::
 (nat_lit 73,⟨.type "type",none,.cls ⟨"NotRising",[.ref 24],[.ref 73,.ref 24,.type "ValueError",.type "Exception",.type "BaseException",.type "object"],72,"NotRising",true,[],[],false,none,false⟩,#[some (.ref 64),none,some (.str "NotRising" 255),some (.str "NotRising" 263),some (.builtin "ValueError.__new__"),some (.bool true)]⟩) ::
 (nat_lit 76,⟨.type "tuple",none,.seq #[.ref 24] 0,#[]⟩) ::
 (nat_lit 83,⟨.type "tuple",none,.seq #[] 0,#[]⟩) ::
 (nat_lit 84,⟨.type "dict",none,.dict #[HD.kE P "__module__" 278 (.str "groupcost.errors" 187),HD.kE P "__firstlineno__" 282 (.int (12) 281),HD.kE P "__static_attributes__" 283 (.ref 83),HD.kE P "__doc__" 284 (.none)] 2,#[]⟩) ::
 (nat_lit 85,⟨.type "type",none,.cls ⟨"NotUnder",[.ref 24],[.ref 85,.ref 24,.type "ValueError",.type "Exception",.type "BaseException",.type "object"],84,"NotUnder",true,[],[],false,none,false⟩,#[some (.ref 76),none,some (.str "NotUnder" 271),some (.str "NotUnder" 279),some (.builtin "ValueError.__new__"),some (.bool true)]⟩) ::
 (nat_lit 88,⟨.type "tuple",none,.seq #[.ref 24] 0,#[]⟩) ::
 (nat_lit 95,⟨.type "tuple",none,.seq #[] 0,#[]⟩) ::
 (nat_lit 96,⟨.type "dict",none,.dict #[HD.kE P "__module__" 294 (.str "groupcost.errors" 187),HD.kE P "__firstlineno__" 298 (.int (14) 297),HD.kE P "__static_attributes__" 299 (.ref 95),HD.kE P "__doc__" 300 (.none)] 2,#[]⟩) ::
 (nat_lit 97,⟨.type "type",none,.cls ⟨"NotBase",[.ref 24],[.ref 97,.ref 24,.type "ValueError",.type "Exception",.type "BaseException",.type "object"],96,"NotBase",true,[],[],false,none,false⟩,#[some (.ref 88),none,some (.str "NotBase" 287),some (.str "NotBase" 295),some (.builtin "ValueError.__new__"),some (.bool true)]⟩) ::
 (nat_lit 103,HD.kC "hands_in" 305 17 1 3 100 true 181 101 (.none) (.none) (.none) (.ref 102) 308) ::
 (nat_lit 104,⟨.type "function",none,.func (PySem.W.fnOf "hands_in" "hands_in" (L2.defArgs (top 9)) (L2.defBody (top 9)) (L2.defScope (top 9)) (.none) (.none) (.none) (.str "groupcost.masks" 303) (none) (.ref 103) (.none)),#[]⟩) ::
 (nat_lit 110,HD.kC "group_of" 311 19 1 3 105 true 181 106 (.none) (.ref 107) (.ref 108) (.ref 109) 317) ::
 (nat_lit 111,⟨.type "function",none,.func (PySem.W.fnOf "group_of" "group_of" (L2.defArgs (top 10)) (L2.defBody (top 10)) (L2.defScope (top 10)) (.none) (.none) (.none) (.str "groupcost.masks" 303) (none) (.ref 110) (.none)),#[]⟩) ::
 (nat_lit 117,HD.kC "hand_count" 322 25 1 3 112 true 181 113 (.none) (.ref 114) (.ref 115) (.ref 116) 326) ::
 (nat_lit 118,⟨.type "function",none,.func (PySem.W.fnOf "hand_count" "hand_count" (L2.defArgs (top 12)) (L2.defBody (top 12)) (L2.defScope (top 12)) (.none) (.none) (.none) (.str "groupcost.tables" 320) (none) (.ref 117) (.none)),#[]⟩) ::
 (nat_lit 124,HD.kC "everybody" 329 27 1 3 119 true 181 120 (.none) (.ref 121) (.ref 122) (.ref 123) 333) ::
 (nat_lit 125,⟨.type "function",none,.func (PySem.W.fnOf "everybody" "everybody" (L2.defArgs (top 13)) (L2.defBody (top 13)) (L2.defScope (top 13)) (.none) (.none) (.none) (.str "groupcost.tables" 320) (none) (.ref 124) (.none)),#[]⟩) ::
 (nat_lit 129,HD.kC "row_gives" 336 29 2 3 126 true 181 127 (.none) (.none) (.none) (.ref 128) 339) ::
 (nat_lit 130,⟨.type "function",none,.func (PySem.W.fnOf "row_gives" "row_gives" (L2.defArgs (top 14)) (L2.defBody (top 14)) (L2.defScope (top 14)) (.none) (.none) (.none) (.str "groupcost.tables" 320) (none) (.ref 129) (.none)),#[]⟩) ::
 (nat_lit 134,HD.kC "less_row" 342 31 2 3 131 true 181 132 (.none) (.none) (.none) (.ref 133) 345) ::
 (nat_lit 135,⟨.type "function",none,.func (PySem.W.fnOf "less_row" "less_row" (L2.defArgs (top 15)) (L2.defBody (top 15)) (L2.defScope (top 15)) (.none) (.none) (.none) (.str "groupcost.tables" 320) (none) (.ref 134) (.none)),#[]⟩) ::
 (nat_lit 141,HD.kC "two_break" 350 36 3 3 136 true 181 137 (.none) (.ref 138) (.ref 139) (.ref 140) 356) ::
 (nat_lit 142,⟨.type "function",none,.func (PySem.W.fnOf "two_break" "two_break" (L2.defArgs (top 17)) (L2.defBody (top 17)) (L2.defScope (top 17)) (.none) (.none) (.none) (.str "groupcost.falling" 348) (none) (.ref 141) (.none)),#[]⟩) ::
 (nat_lit 148,HD.kC "break_beside" 359 38 2 3 143 true 181 144 (.none) (.ref 145) (.ref 146) (.ref 147) 368) ::
 (nat_lit 149,⟨.type "function",none,.func (PySem.W.fnOf "break_beside" "break_beside" (L2.defArgs (top 18)) (L2.defBody (top 18)) (L2.defScope (top 18)) (.none) (.none) (.none) (.str "groupcost.falling" 348) (none) (.ref 148) (.none)),#[]⟩) ::
 (nat_lit 155,HD.kC "break_of" 371 45 1 3 150 true 181 151 (.none) (.ref 152) (.ref 153) (.ref 154) 377) ::
 (nat_lit 156,⟨.type "function",none,.func (PySem.W.fnOf "break_of" "break_of" (L2.defArgs (top 19)) (L2.defBody (top 19)) (L2.defScope (top 19)) (.none) (.none) (.none) (.str "groupcost.falling" 348) (none) (.ref 155) (.none)),#[]⟩) ::
 (nat_lit 162,HD.kC "falls" 380 51 1 3 157 true 181 158 (.none) (.ref 159) (.ref 160) (.ref 161) 384) ::
 (nat_lit 163,⟨.type "function",none,.func (PySem.W.fnOf "falls" "falls" (L2.defArgs (top 20)) (L2.defBody (top 20)) (L2.defScope (top 20)) (.none) (.none) (.none) (.str "groupcost.falling" 348) (none) (.ref 162) (.none)),#[]⟩) ::
 (nat_lit 169,HD.kC "must_fall" 387 53 1 3 164 true 181 165 (.none) (.ref 166) (.ref 167) (.ref 168) 391) ::
 (nat_lit 170,⟨.type "function",none,.func (PySem.W.fnOf "must_fall" "must_fall" (L2.defArgs (top 21)) (L2.defBody (top 21)) (L2.defScope (top 21)) (.none) (.none) (.none) (.str "groupcost.falling" 348) (none) (.ref 169) (.none)),#[]⟩) ::
 (nat_lit 176,HD.kC "over" 396 57 2 3 171 true 181 172 (.none) (.ref 173) (.ref 174) (.ref 175) 403) ::
 (nat_lit 177,⟨.type "function",none,.func (PySem.W.fnOf "over" "over" (L2.defArgs (top 23)) (L2.defBody (top 23)) (L2.defScope (top 23)) (.none) (.none) (.none) (.str "groupcost.shares" 394) (none) (.ref 176) (.none)),#[]⟩) ::
 (nat_lit 183,HD.kC "is_under" 406 61 2 3 178 true 181 179 (.none) (.ref 180) (.ref 181) (.ref 182) 411) ::
 (nat_lit 184,⟨.type "function",none,.func (PySem.W.fnOf "is_under" "is_under" (L2.defArgs (top 24)) (L2.defBody (top 24)) (L2.defScope (top 24)) (.none) (.none) (.none) (.str "groupcost.shares" 394) (none) (.ref 183) (.none)),#[]⟩) ::
 (nat_lit 190,HD.kC "is_base" 414 63 2 3 185 true 181 186 (.none) (.ref 187) (.ref 188) (.ref 189) 420) ::
 (nat_lit 191,⟨.type "function",none,.func (PySem.W.fnOf "is_base" "is_base" (L2.defArgs (top 25)) (L2.defBody (top 25)) (L2.defScope (top 25)) (.none) (.none) (.none) (.str "groupcost.shares" 394) (none) (.ref 190) (.none)),#[]⟩) ::
 (nat_lit 197,HD.kC "by_order" 425 67 2 3 192 true 181 193 (.none) (.ref 194) (.ref 195) (.ref 196) 434) ::
 (nat_lit 198,⟨.type "function",none,.func (PySem.W.fnOf "by_order" "by_order" (L2.defArgs (top 27)) (L2.defBody (top 27)) (L2.defScope (top 27)) (.none) (.none) (.none) (.str "groupcost.orders" 423) (none) (.ref 197) (.none)),#[]⟩) ::
 (nat_lit 204,HD.kC "price_order" 439 76 1 3 199 true 181 200 (.none) (.ref 201) (.ref 202) (.ref 203) 444) ::
 (nat_lit 205,⟨.type "function",none,.func (PySem.W.fnOf "price_order" "price_order" (L2.defArgs (top 29)) (L2.defBody (top 29)) (L2.defScope (top 29)) (.none) (.none) (.none) (.str "groupcost.prices" 437) (none) (.ref 204) (.none)),#[]⟩) ::
 (nat_lit 209,HD.kC "price_chain" 447 78 1 3 206 true 181 207 (.none) (.none) (.none) (.ref 208) 450) ::
 (nat_lit 210,⟨.type "function",none,.func (PySem.W.fnOf "price_chain" "price_chain" (L2.defArgs (top 30)) (L2.defBody (top 30)) (L2.defScope (top 30)) (.none) (.none) (.none) (.str "groupcost.prices" 437) (none) (.ref 209) (.none)),#[]⟩) ::
 (nat_lit 214,HD.kC "weight_of" 453 85 2 3 211 true 181 212 (.none) (.none) (.none) (.ref 213) 456) ::
 (nat_lit 215,⟨.type "function",none,.func (PySem.W.fnOf "weight_of" "weight_of" (L2.defArgs (top 31)) (L2.defBody (top 31)) (L2.defScope (top 31)) (.none) (.none) (.none) (.str "groupcost.prices" 437) (none) (.ref 214) (.none)),#[]⟩) ::
 (nat_lit 221,HD.kC "best_base" 459 87 2 3 216 true 181 217 (.none) (.ref 218) (.ref 219) (.ref 220) 464) ::
 (nat_lit 222,⟨.type "function",none,.func (PySem.W.fnOf "best_base" "best_base" (L2.defArgs (top 32)) (L2.defBody (top 32)) (L2.defScope (top 32)) (.none) (.none) (.none) (.str "groupcost.prices" 437) (none) (.ref 221) (.none)),#[]⟩) ::
 (nat_lit 226,HD.kC "is_best" 467 90 3 3 223 true 181 224 (.none) (.none) (.none) (.ref 225) 470) ::
 (nat_lit 227,⟨.type "function",none,.func (PySem.W.fnOf "is_best" "is_best" (L2.defArgs (top 33)) (L2.defBody (top 33)) (L2.defScope (top 33)) (.none) (.none) (.none) (.str "groupcost.prices" 437) (none) (.ref 226) (.none)),#[]⟩) ::
 (nat_lit 233,HD.kC "_law_cell" 475 95 2 3 228 true 181 229 (.none) (.ref 230) (.ref 231) (.ref 232) 480) ::
 (nat_lit 234,⟨.type "function",none,.func (PySem.W.fnOf "_law_cell" "_law_cell" (L2.defArgs (top 35)) (L2.defBody (top 35)) (L2.defScope (top 35)) (.none) (.none) (.none) (.str "law_groupcost_k32_best_base" 473) (none) (.ref 233) (.none)),#[]⟩) ::
 (nat_lit 240,HD.kC "_law_whole" 483 99 1 3 235 true 181 236 (.none) (.ref 237) (.ref 238) (.ref 239) 487) ::
 (nat_lit 241,⟨.type "function",none,.func (PySem.W.fnOf "_law_whole" "_law_whole" (L2.defArgs (top 36)) (L2.defBody (top 36)) (L2.defScope (top 36)) (.none) (.none) (.none) (.str "law_groupcost_k32_best_base" 473) (none) (.ref 240) (.none)),#[]⟩) ::
 (nat_lit 247,HD.kC "_law_hands" 490 101 1 3 242 true 181 243 (.none) (.ref 244) (.ref 245) (.ref 246) 494) ::
 (nat_lit 248,⟨.type "function",none,.func (PySem.W.fnOf "_law_hands" "_law_hands" (L2.defArgs (top 37)) (L2.defBody (top 37)) (L2.defScope (top 37)) (.none) (.none) (.none) (.str "law_groupcost_k32_best_base" 473) (none) (.ref 247) (.none)),#[]⟩) ::
 (nat_lit 254,HD.kC "_law_many" 497 103 1 3 249 true 181 250 (.none) (.ref 251) (.ref 252) (.ref 253) 502) ::
 (nat_lit 255,⟨.type "function",none,.func (PySem.W.fnOf "_law_many" "_law_many" (L2.defArgs (top 38)) (L2.defBody (top 38)) (L2.defScope (top 38)) (.none) (.none) (.none) (.str "law_groupcost_k32_best_base" 473) (none) (.ref 254) (.none)),#[]⟩) ::
 (nat_lit 259,HD.kC "_law_slots" 505 109 2 3 256 true 181 257 (.none) (.none) (.none) (.ref 258) 508) ::
 (nat_lit 260,⟨.type "function",none,.func (PySem.W.fnOf "_law_slots" "_law_slots" (L2.defArgs (top 39)) (L2.defBody (top 39)) (L2.defScope (top 39)) (.none) (.none) (.none) (.str "law_groupcost_k32_best_base" 473) (none) (.ref 259) (.none)),#[]⟩) ::
 (nat_lit 266,HD.kC "_law_noisy" 511 116 3 3 261 true 181 262 (.none) (.ref 263) (.ref 264) (.ref 265) 521) ::
 (nat_lit 267,⟨.type "function",none,.func (PySem.W.fnOf "_law_noisy" "_law_noisy" (L2.defArgs (top 40)) (L2.defBody (top 40)) (L2.defScope (top 40)) (.none) (.none) (.none) (.str "law_groupcost_k32_best_base" 473) (none) (.ref 266) (.none)),#[]⟩) ::
 (nat_lit 271,HD.kC "_law_tied" 524 123 3 3 268 true 181 269 (.none) (.none) (.none) (.ref 270) 527) ::
 (nat_lit 272,⟨.type "function",none,.func (PySem.W.fnOf "_law_tied" "_law_tied" (L2.defArgs (top 41)) (L2.defBody (top 41)) (L2.defScope (top 41)) (.none) (.none) (.none) (.str "law_groupcost_k32_best_base" 473) (none) (.ref 271) (.none)),#[]⟩) ::
 (nat_lit 276,HD.kC "_law_falling" 530 139 2 3 273 true 181 274 (.none) (.none) (.none) (.ref 275) 533) ::
 (nat_lit 277,⟨.type "function",none,.func (PySem.W.fnOf "_law_falling" "_law_falling" (L2.defArgs (top 42)) (L2.defBody (top 42)) (L2.defScope (top 42)) (.none) (.none) (.none) (.str "law_groupcost_k32_best_base" 473) (none) (.ref 276) (.none)),#[]⟩) ::
 (nat_lit 281,HD.kC "_law_prices" 536 150 3 3 278 true 181 279 (.none) (.none) (.none) (.ref 280) 539) ::
 (nat_lit 282,⟨.type "function",none,.func (PySem.W.fnOf "_law_prices" "_law_prices" (L2.defArgs (top 43)) (L2.defBody (top 43)) (L2.defScope (top 43)) (.none) (.none) (.none) (.str "law_groupcost_k32_best_base" 473) (none) (.ref 281) (.none)),#[]⟩) ::
 (nat_lit 288,HD.kC "_law_order" 542 159 1 3 283 true 181 284 (.none) (.ref 285) (.ref 286) (.ref 287) 549) ::
 (nat_lit 289,⟨.type "function",none,.func (PySem.W.fnOf "_law_order" "_law_order" (L2.defArgs (top 44)) (L2.defBody (top 44)) (L2.defScope (top 44)) (.none) (.none) (.none) (.str "law_groupcost_k32_best_base" 473) (none) (.ref 288) (.none)),#[]⟩) ::
 (nat_lit 295,HD.kC "_law_worth" 552 167 2 3 290 true 181 291 (.none) (.ref 292) (.ref 293) (.ref 294) 560) ::
 (nat_lit 296,⟨.type "function",none,.func (PySem.W.fnOf "_law_worth" "_law_worth" (L2.defArgs (top 45)) (L2.defBody (top 45)) (L2.defScope (top 45)) (.none) (.none) (.none) (.str "law_groupcost_k32_best_base" 473) (none) (.ref 295) (.none)),#[]⟩) ::
 (nat_lit 300,HD.kC "_law_by" 563 174 2 3 297 true 181 298 (.none) (.none) (.none) (.ref 299) 566) ::
 (nat_lit 301,⟨.type "function",none,.func (PySem.W.fnOf "_law_by" "_law_by" (L2.defArgs (top 46)) (L2.defBody (top 46)) (L2.defScope (top 46)) (.none) (.none) (.none) (.str "law_groupcost_k32_best_base" 473) (none) (.ref 300) (.none)),#[]⟩) ::
 (nat_lit 307,HD.kC "_law_gives" 569 181 2 3 302 true 181 303 (.none) (.ref 304) (.ref 305) (.ref 306) 576) ::
 (nat_lit 308,⟨.type "function",none,.func (PySem.W.fnOf "_law_gives" "_law_gives" (L2.defArgs (top 47)) (L2.defBody (top 47)) (L2.defScope (top 47)) (.none) (.none) (.none) (.str "law_groupcost_k32_best_base" 473) (none) (.ref 307) (.none)),#[]⟩) ::
 (nat_lit 312,HD.kC "_law_row" 579 187 2 3 309 true 181 310 (.none) (.none) (.none) (.ref 311) 582) ::
 (nat_lit 313,⟨.type "function",none,.func (PySem.W.fnOf "_law_row" "_law_row" (L2.defArgs (top 48)) (L2.defBody (top 48)) (L2.defScope (top 48)) (.none) (.none) (.none) (.str "law_groupcost_k32_best_base" 473) (none) (.ref 312) (.none)),#[]⟩) ::
 (nat_lit 319,HD.kC "_law_under" 585 191 2 3 314 true 181 315 (.none) (.ref 316) (.ref 317) (.ref 318) 591) ::
 (nat_lit 320,⟨.type "function",none,.func (PySem.W.fnOf "_law_under" "_law_under" (L2.defArgs (top 49)) (L2.defBody (top 49)) (L2.defScope (top 49)) (.none) (.none) (.none) (.str "law_groupcost_k32_best_base" 473) (none) (.ref 319) (.none)),#[]⟩) ::
 (nat_lit 326,HD.kC "_law_base" 594 196 2 3 321 true 181 322 (.none) (.ref 323) (.ref 324) (.ref 325) 599) ::
 (nat_lit 327,⟨.type "function",none,.func (PySem.W.fnOf "_law_base" "_law_base" (L2.defArgs (top 50)) (L2.defBody (top 50)) (L2.defScope (top 50)) (.none) (.none) (.none) (.str "law_groupcost_k32_best_base" 473) (none) (.ref 326) (.none)),#[]⟩) ::
 (nat_lit 333,HD.kC "_law_weigh" 602 198 2 3 328 true 181 329 (.none) (.ref 330) (.ref 331) (.ref 332) 609) ::
 (nat_lit 334,⟨.type "function",none,.func (PySem.W.fnOf "_law_weigh" "_law_weigh" (L2.defArgs (top 51)) (L2.defBody (top 51)) (L2.defScope (top 51)) (.none) (.none) (.none) (.str "law_groupcost_k32_best_base" 473) (none) (.ref 333) (.none)),#[]⟩) ::
 (nat_lit 338,HD.kC "_law_falls" 612 203 2 3 335 true 181 336 (.none) (.none) (.none) (.ref 337) 615) ::
 (nat_lit 339,⟨.type "function",none,.func (PySem.W.fnOf "_law_falls" "_law_falls" (L2.defArgs (top 52)) (L2.defBody (top 52)) (L2.defScope (top 52)) (.none) (.none) (.none) (.str "law_groupcost_k32_best_base" 473) (none) (.ref 338) (.none)),#[]⟩) ::
 (nat_lit 345,HD.kC "_law_word" 618 212 2 3 340 true 181 341 (.none) (.ref 342) (.ref 343) (.ref 344) 625) ::
 (nat_lit 346,⟨.type "function",none,.func (PySem.W.fnOf "_law_word" "_law_word" (L2.defArgs (top 53)) (L2.defBody (top 53)) (L2.defScope (top 53)) (.none) (.none) (.none) (.str "law_groupcost_k32_best_base" 473) (none) (.ref 345) (.none)),#[]⟩) ::
 (nat_lit 352,HD.kC "law" 628 223 1 3 347 true 181 348 (.none) (.ref 349) (.ref 350) (.ref 351) 641) ::
 (nat_lit 353,⟨.type "function",none,.func (PySem.W.fnOf "law" "law" (L2.defArgs (top 54)) (L2.defBody (top 54)) (L2.defScope (top 54)) (.none) (.none) (.none) (.str "law_groupcost_k32_best_base" 473) (none) (.ref 352) (.none)),#[]⟩)::[]
def KA:List Nat:=[3,4,15,22,23,24,25,28,35,36,37,40,47,48,49,52,59,60,61,64,71,72,73,76,83,84,85,88,95,96,97,103,104,110,111,117,118,124,125,129,130,134,135,141,142,148,149,155,156,162,163,169,170,176,177,183,184,190,191,197,198,204,205,209,210,214,215,221,222,226,227,233,234,240,241,247,248,254,255,259,260,266,267,271,272,276,277,281,282,288,289,295,296,300,301,307,308,312,313,319,320,326,327,333,334,338,339,345,346,352,353]
theorem KE (P:Params):KA=(KF P).map (·.1):=by kernel_rfl
noncomputable abbrev qq:Program:=PySem.W.view PySem.Challenge.pw_groupcost_k32_best_base [54]
noncomputable abbrev lo:List Str:=(["CostError","BadTable","Unlike","NotFalling","NotRising","NotUnder","NotBase","hands_in","group_of","hand_count","everybody","row_gives","less_row","two_break","break_beside","break_of","falls","must_fall","over","is_under","is_base","by_order","price_order","price_chain","weight_of","best_base","is_best","_law_cell","_law_whole","_law_hands","_law_many","_law_slots","_law_noisy","_law_tied","_law_falling","_law_prices","_law_order","_law_worth","_law_by","_law_gives","_law_row","_law_under","_law_base","_law_weigh","_law_falls","_law_word"]:List String).map Str.ofString
noncomputable abbrev Xt (s:Shared):Bool:=PySem.W.xlAt qq [] s&&PySem.W.recOk (PySem.W.RowW.records (PySem.W.OpenRow.toRowW PySem.Challenge.rw_groupcost_k32_best_base.row)) s
theorem left:PySem.W.LeftO PySem.Challenge.pw_groupcost_k32_best_base qq lo Xt (PySem.W.Hook.obs (PySem.W.kmHook KF KA KE [200])) (PySem.W.Hook.val (PySem.W.kmHook KF KA KE [200])) 6160:=
 HD.left_of (PySem.W.boot_open (by kernel_rfl) (by kernel_rfl) (fun s=>by kernel_rfl)) fun w os=>by kernel_rfl
end My
open PySem PySem.W PyProof.Rows
set_option maxRecDepth 100000 in
set_option maxHeartbeats 0 in
theorem PySem.Challenge.cw_groupcost_k32_best_base_holds : PySem.Challenge.rw_groupcost_k32_best_base.Holds := by
 w_on
 refine holds_law (HD.said_of (by kernel_rfl)) fun said => ?_;refine holds_open (q := My.qq) (loose := My.lo) (Xt := My.Xt) (XP := XL My.qq []) (YP := Hook.says (kmHook My.KF My.KA My.KE [200])) My.left (Hook.of (kmHook My.KF My.KA My.KE [200])) (Hook.keeps (kmHook My.KF My.KA My.KE [200])) (fun s e => xl_of s (aKo.mp e).1) XL.keeps (by rfl) (by rfl) (by rfl) (fun s e => recFacts_of (aKo.mp e).2) (by rfl) said (by decide +kernel) ⟨rfl, rfl, rfl, rfl, rfl, by decide +kernel⟩ ?hw ?hc
 case hw => w_witness2
 k_fill
 refine My.walk (l := PySem.Challenge.rw_groupcost_k32_best_base) (Pt := 200) (cq := 204) rfl rfl (fun w h Y => ⟨PySem.W.km_in_of Y, PySem.W.km_tabs_of Y 200 (by simp)⟩) (fun p => by kernel_rfl) (fun p => by kernel_rfl) ?F
 case F =>
  intro w mg fa h KX G hmg;refine' My.all_mk (Pt := 200) (cq := 204) (bm := 4) KX G hmg ?a0 ?l0 ?cc0 ?k0 ?a1 ?l1 ?cc1 ?k1 ?a2 ?l2 ?cc2 ?k2 ?a3 ?l3 ?cc3 ?k3 ?a4 ?l4 ?cc4 ?k4 ?a5 ?l5 ?cc5 ?k5 ?a6 ?l6 ?cc6 ?k6 ?a7 ?l7 ?cc7 ?k7 ?a8 ?l8 ?cc8 ?k8 ?a9 ?l9 ?cc9 ?k9 ?a10 ?l10 ?cc10 ?k10 ?a11 ?l11 ?cc11 ?k11 ?a12 ?l12 ?cc12 ?k12 ?a13 ?l13 ?cc13 ?k13 ?a14 ?l14 ?cc14 ?k14 ?a15 ?l15 ?cc15 ?k15 ?a16 ?l16 ?cc16 ?k16 ?a17 ?l17 ?cc17 ?k17 ?a18 ?l18 ?cc18 ?k18 ?a19 ?l19 ?cc19 ?k19 ?a20 ?l20 ?cc20 ?k20 ?a21 ?l21 ?cc21 ?k21 ?a22 ?l22 ?cc22 ?k22 ?a23 ?l23 ?cc23 ?k23 ?a24 ?l24 ?cc24 ?k24 ?a25 ?l25 ?cc25 ?k25 ?a26 ?l26 ?cc26 ?k26 ?a27 ?l27 ?cc27 ?k27 ?a28 ?l28 ?cc28 ?k28 ?a29 ?l29 ?cc29 ?k29 ?a30 ?l30 ?cc30 ?k30 ?a31 ?l31 ?cc31 ?k31 ?a32 ?l32 ?cc32 ?k32 ?a33 ?l33 ?cc33 ?k33 ?a34 ?l34 ?cc34 ?k34 ?a35 ?l35 ?cc35 ?k35 ?a36 ?l36 ?cc36 ?k36 ?a37 ?l37 ?cc37 ?k37 ?a38 ?l38 ?cc38 ?k38 ?a39 ?l39 ?cc39 ?k39 ?q_code ?q_blt ?q_mod ?n1 ?n2 ?aK1 ?aJw ?aK2 ?aJo ?aJv ?aJl ?aK0 ?aJx ?aJy ?aJz ?aK5 ?aK4 ?aJr ?aK3 ?aJk ?n_NotFalling ?n_Unlike ?n_NotUnder ?n_NotRising ?n_NotBase ?n_BadTable ?n_CostError ?e_NotFalling ?j_NotFalling_NotFalling ?v_ValueError_NotFalling ?j_Unlike_NotFalling ?j_NotUnder_NotFalling ?j_NotRising_NotFalling ?j_NotBase_NotFalling ?j_BadTable_NotFalling ?p_CostError ?q_CostError ?r_CostError ?s_CostError_NotFalling
  case n1 => decide
  case n2 => decide
  case q_code => kernel_rfl
  any_goals (show _ = _; first | k_is | kernel_rfl)
