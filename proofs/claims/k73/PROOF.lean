import PyProof.Rows.All
import Wide.All
import OpenK.AllK
import Wide.FinOn
import Lean
import PyProof.EqAt
import PyProof.EqKinds
import PyProof.TupleCall
import PyProof.NeKinds
import PyProof.SliceMore
import PyProof.AutoListH
import PyProof.WalksEnum
import PyProof.EnumMake
import PyProof.ZipIter
import PyProof.ConsumeS
import PyProof.WalkInts
import PyProof.ListRange
import PyProof.Rows.SortRev
import PyProof.Rows.SortWalk
import PyProof.Rows.CallKwBuiltin
import PyProof.Rows.RuleN_abs
import PyProof.Rows.FactsN_abs
import Open.Boot
import Open.Tree
import Open.FastT9
import PyProof.Rows.SetFrom
import PyProof.CollectWalk
import PyProof.ForAny
import PyProof.EnumIter
import KE.KRevIter
import KE.KSortTup
import KE.KLam
import KE.KNestM
import KE.KIntText
import PyProof.StrReplace2
import PyProof.StrBlockH
import PyProof.StrWalks
import PyProof.DictStraight
import PyProof.Rows.TupMore
import PyProof.TupleIter
import PySem.Challenge.RW_groupcost_k73_whole_mixes_are_bases
set_option Elab.async false
set_option linter.all false
set_option maxRecDepth 100000
def aIz := @Option.some.inj
def aJ0 := @List.getD_eq_getElem?_getD
def aJ1 := @List.getElem?_eq_getElem
def aJ2 := @List.mem_cons_of_mem
def aJ3 := @List.mem_cons_self
def aJ4 := @List.getElem?_eq_some_iff
def aJ5 := @List.all_eq_true
def aJ6 := @List.mem_range
def aJ7 := @Nat.lt_of_lt_of_le
def aJ8 := @List.size_toArray
def aJ9 := @List.getElem?_set_ne
def aJa := @PySem.Heap.get?_push_of_some
def aJb := @List.mem_cons
def aJc := @Bool.and_eq_true
def aJd := @Bool.and_eq_true_iff
def aJe := @Bool.eq_iff_iff
def aJf := @Bool.false_eq_true
def aJg := @Bool.false_ne_true
def aJh := @Bool.or_eq_true
def aJi := @PySem.Heap.get?_push_size
def aJj := @PySem.Heap.lt_size
def aJk := @PySem.Heap.size_push
def aJl := @Int.emod_lt_of_pos
def aJm := @Int.emod_nonneg
def aJn := @Int.le_of_lt
def aJo := @Int.lt_or_le
def aJp := @Int.mul_add
def aJq := @Int.mul_le_mul_of_nonneg_left
def aJr := @Int.mul_le_mul_of_nonneg_right
def aJs := @Int.mul_right_comm
def aJu := @Int.sub_self
def aJv := @Int.toNat_natCast
def aJw := @List.any_cons
def aJx := @List.contains_iff_mem
def aK0 := @List.filterMap_cons
def aK1 := @List.filter_cons
def aK2 := @List.find?_cons
def aK3 := @List.findSome?_cons
def aK5 := @List.foldl_cons
def aKa := @List.getElem?_map
def aKc := @List.getElem?_set_self
def aKd := @List.length_append
def aKe := @List.length_cons
def aKf := @List.length_filter_le
def aKg := @List.length_map
def aKh := @List.length_nil
def aKi := @List.length_range
def aKk := @List.length_set
def aKl := @List.length_take
def aKm := @List.lookup_cons
def aKo := @List.map_cons
def aKp := @List.map_map
def aKq := @List.map_nil
def aKr := @List.mem_append
def aKt := @List.mem_append_right
def aKu := @List.mem_filter
def aKv := @List.mem_iff_getElem
def aKw := @List.mem_map
def aKy := @List.mem_of_getElem?
def aKz := @List.mem_singleton
def aL1 := @List.nodup_cons
def aL2 := @List.nodup_range
def aL3 := @List.pairwise_cons
def aL4 := @List.replicate_succ
def aL5 := @List.sum_cons
def aL6 := @Nat.le_of_eq
def aL7 := @Nat.le_of_lt
def aL8 := @Nat.le_refl
def aL9 := @Nat.le_trans
def aLa := @Nat.lt_irrefl
def aLb := @Nat.lt_of_le_of_lt
def aLd := @Nat.lt_succ_self
def aLe := @Nat.lt_trans
def aLg := @Nat.ne_of_gt
def aLh := @Nat.ne_of_lt
def aLi := @Nat.or_lt_two_pow
def aLj := @Nat.pow_le_pow_right
def aLl := @Nat.pow_pos
def aLm := @Nat.testBit_and
def aLn := @Nat.testBit_or
def aLo := @Nat.testBit_two_pow
def aLp := @Nat.zero_add
def aLq := @Nat.zero_le
def aLr := @Nat.zero_testBit
def aLs := @Option.bind_none
def aLt := @Option.bind_some
def aLu := @PyProof.Rows.callWith_type1
def aLv := @PySem.W.kia_one
def aLx := @PySem.W.mg_none_of
def aLy := @PySem.W.mg_of
namespace L2
open PySem PySem.Spec PyProof.Rows
abbrev Key:=Sum Int Str
def JY:Key->Value->Bool
 | .inl k,v=>Value.isInt k v
 | .inr x,v=>Value.isStrOf x v
def ZD (w:World):Key->Int
 | .inl k=>hashInt k
 | .inr x=>hashStr w x
theorem jA:∀ {k:Key}{v:Value},JY k v=true->(∃ i t,k=Sum.inl i/\v=Value.int i t)\/(∃ x t,k=Sum.inr x/\v=Value.str x t)
 | .inl i,v,h=>by
  obtain⟨t,e⟩:=Value.isInt_shape (k:=i) (v:=v) h;exact .inl ⟨i,t,rfl,e⟩
 | .inr x,v,h=>by
  obtain⟨t,e⟩:=Value.isStrOf_shape (x:=x) (v:=v) h;exact .inr ⟨x,t,rfl,e⟩
theorem ZE (a b:Int):decide ((Sum.inl a:Key)=Sum.inl b)=(a == b):=by
 by_cases e:a=b
 ·subst e;simp
 ·have h:¬ (Sum.inl a:Key)=Sum.inl b:=fun q=>e (Sum.inl.inj q)
  rw[decide_eq_false h];exact (beq_eq_false_iff_ne.mpr e).symm
theorem ZH (a b:Str):decide ((Sum.inr a:Key)=Sum.inr b)=decide (a=b):=by
 by_cases e:a=b
 ·subst e;simp
 ·have h:¬ (Sum.inr a:Key)=Sum.inr b:=fun q=>e (Sum.inr.inj q)
  rw[decide_eq_false h,decide_eq_false e]
theorem ZF (a:Int) (b:Str):decide ((Sum.inl a:Key)=Sum.inr b)=false:=decide_eq_false (fun q=>nomatch q)
theorem ZG (a:Str) (b:Int):decide ((Sum.inr a:Key)=Sum.inl b)=false:=decide_eq_false (fun q=>nomatch q)
def sU (prog:Program) (w:World):PySem.KeyKind prog w Key where
 is:=JY
 hash:=ZD w
 inj:=fun v a b ha hb=>by
  rcases jA ha with ⟨i,t,rfl,rfl⟩ | ⟨x,t,rfl,rfl⟩
  ·rcases jA hb with ⟨j,u,rfl,e⟩ | ⟨y,u,rfl,e⟩
   ·injection e with e1 _;rw[e1]
   ·exact nomatch e
  ·rcases jA hb with ⟨j,u,rfl,e⟩ | ⟨y,u,rfl,e⟩
   ·exact nomatch e
   ·injection e with e1 _;rw[e1]
 byValue:=fun k v h=>by
  rcases jA h with ⟨i,t,rfl,rfl⟩ | ⟨x,t,rfl,rfl⟩<;>rfl
 pyHash:=fun hv h=>by
  rcases jA hv with ⟨i,t,rfl,rfl⟩ | ⟨x,t,rfl,rfl⟩
  ·exact wpAny_pyHash_int h
  ·exact wpAny_pyHash_str h
 eqBool:=fun hu hv h=>by
  rcases jA hu with ⟨i,t,rfl,rfl⟩ | ⟨x,t,rfl,rfl⟩
  ·rcases jA hv with ⟨j,u,rfl,rfl⟩ | ⟨y,u,rfl,rfl⟩
   ·rw[ZE] at h;exact wpAny_eqBool_int h
   ·rw[ZF] at h;exact SeqAt.EqAt.int_str i t y u _ _ _ _ h
  ·rcases jA hv with ⟨j,u,rfl,rfl⟩ | ⟨y,u,rfl,rfl⟩
   ·rw[ZG] at h;exact SeqAt.EqAt.str_int x t j u _ _ _ _ h
   ·rw[ZH] at h;exact wpAny_eqBool_str h
 «strs»:=fun k x t v h=>by
  rcases jA h with ⟨i,u,rfl,e⟩ | ⟨y,u,rfl,e⟩
  ·exact nomatch e
  ·injection e with e1 _
   subst e1;cases v<;>rfl
inductive V where
 | non | bl (b:Bool) | int (i:Int) | str (x:Str) | byt (b:Array UInt8) | flt (b:UInt64) | ref (a:Addr) | ty (n:String)
 deriving DecidableEq
def aT:V->Value->Prop
 | .non,u=>u=Value.none
 | .bl b,u=>u=Value.bool b
 | .int i,u=>∃ t,u=Value.int i t
 | .str x,u=>∃ t,u=Value.str x t
 | .byt b,u=>∃ t,u=Value.bytes b t
 | .flt b,u=>∃ t,u=Value.float b t
 | .ref a,u=>u=Value.ref a
 | .ty n,u=>u=Value.type n
abbrev aI:List V->List Value->Prop:=Paired aT
theorem aI.length {xs:List V}{us:List Value}(r:aI xs us):xs.length=us.length:=Paired.length r
theorem aI.get:∀ {xs:List V}{us:List Value}{i:Nat}{x:V},aI xs us->xs[i]?=some x->∃ u,us[i]?=some u/\aT x u
 | _,_,_,_,.nil,e=>by simp at e
 | _,_,0,_,.cons r _,e=>by simp at e;subst e;exact⟨_,rfl,r⟩
 | _,_,i+1,x,.cons _ t,e=>by
  obtain⟨u,h1,h2⟩:=aI.get (i:=i) (x:=x) t (by simpa using e);exact⟨u,by simpa using h1,h2⟩
theorem aI.set {x:V}{u:Value}(r:aT x u):∀ {xs:List V}{us:List Value}(i:Nat),aI xs us->aI (xs.set i x) (us.set i u)
 | _,_,_,.nil=>.nil
 | _,_,0,.cons _ t=>.cons r t
 | _,_,i+1,.cons q t=>.cons q (aI.set r i t)
theorem aI.append:∀ {xs ys:List V}{us ws:List Value},aI xs us->aI ys ws->aI (xs++ys) (us++ws)
 | _,_,_,_,.nil,s=>s
 | _,_,_,_,.cons r t,s=>.cons r (aI.append t s)
theorem aI.take:∀ {xs:List V}{us:List Value}(n:Nat),aI xs us->aI (xs.take n) (us.take n)
 | _,_,0,_=>.nil
 | _,_,_+1,.nil=>.nil
 | _,_,n+1,.cons r t=>.cons r (aI.take n t)
theorem aI.drop:∀ {xs:List V}{us:List Value}(n:Nat),aI xs us->aI (xs.drop n) (us.drop n)
 | _,_,0,r=>r
 | _,_,_+1,.nil=>.nil
 | _,_,n+1,.cons _ t=>aI.drop n t
theorem aI.none_of:∀ {xs:List V}{us:List Value}{i:Nat},aI xs us->xs[i]?=none->us[i]?=none:=fun {xs us i} r e=>by
 have h1:=r.length;have h2:xs.length<=i:=List.getElem?_eq_none_iff.mp e;exact List.getElem?_eq_none_iff.mpr (by lia)
def gH:Option V->Option Value->Prop
 | some v,some u=>aT v u
 | none,none=>True
 | _,_=>False
def KV {κ:Type}:List (κ × V)->List (κ × Value)->Prop:=Paired fun (p:κ × V) (q:κ × Value)=>p.1=q.1/\aT p.2 q.2
def kV:Key->V
 | .inl i=>.int i
 | .inr x=>.str x
inductive HO where
 /-- a list -/
 | lst (xs : List V)
 /-- a tuple (never changes) -/
 | tup (xs : List V)
 /-- a dict whose keys are ints and texts; one whose keys are tuples of ints and texts (the empty one is both) -/
 | dK (kvs : List (Key × V)) | dT (kvs : List (List Key × V))
 /-- a set of ints: its members, its size -/
 | set (S : Int -> Bool) (n : Nat)
 /-- an instance of the class at C, its dict at dx, its attributes -/
 | ins (C dx : Addr) (fs : List (Str × V))
 /-- the dict of the instance at x -/
 | own (x : Addr)
 /-- the dict of an exception -/
 | xd (fs : List (Str × V))
 /-- a bound method, f of x -/
 | met (f x : Addr)
 /-- a range object lo, lo + 1, .. below hi -/
 | rng (lo hi : Int)
 /-- a thing that is known to the object (the script; a dict while a loop walks it): read, never written while it is so -/
 | frz (o : Obj) (u : HO)
 /-- a code object's table -/
 | tbl (ps : Array Value)
 /-- any other thing, by what is true of its one object (a def of one's own: SetO a S n := HO.ext fun h => ..) -/
 | ext (φ : Heap -> Prop)
 /-- a code object's table that may hold the code q of a lambda at pos, which is tracked as its own -/
 | tbc (pos : Pos) (q : Str)
abbrev Hp:=Addr->Option HO
def upd (H:Hp) (a:Addr) (o:HO):Hp:=fun b=>if b=a then some o else H b
theorem dA {H:Hp}{a:Addr}{o:HO}:upd H a o a=some o:=by unfold upd;rw[if_pos rfl]
theorem aV {H:Hp}{a b:Addr}{o:HO}(h:b≠a):upd H a o b=H b:=by unfold upd;rw[if_neg h]
theorem gA {H:Hp}{a b:Addr}{o:HO}(h:H a=some o) (h':H b=none):a≠b:=by
 intro e;subst e;rw[h] at h';cases h'
section
variable (P:Program) (w:World)
def dB (H : Hp) (h : Heap) (a : Addr) : HO -> Prop
 | .lst xs => xs.length <= sizeLine /\ ∃ (its : List Value) (n : Nat), aI xs its /\ h.get? a = some { cls := .type "list", data := .seq its.toArray n }
 | .tup xs => xs.length <= sizeLine /\ ∃ its : List Value, aI xs its /\ IsTup h a its.toArray
 | .dK kvs => kvs.length <= sizeLine /\ (a == sysModules) = false /\ ∃ vs, KV kvs vs /\ h.DictOf (sU P w) a vs
 | .dT kvs => kvs.length <= sizeLine /\ (a == sysModules) = false /\ ∃ xs : List (List Key × Addr × Value),
   Paired (fun (p : List Key × V) (q : List Key × Addr × Value) => p.1 = q.1 /\ H q.2.1 = some (.tup (p.1.map kV)) /\ aT p.2 q.2.2) kvs xs /\
   ∃ o es ep, h.get? a = some o /\ o.ExactDict /\ o.data = .dict es ep /\ es.toList = xs.map (entryOfKey (tupleKind (sU P w))) /\ (xs.map (·.1)).Nodup
 | .set S n => h.SetOf (intKind P w) a S n
 | .ins C dx fs => H dx = some (.own a) /\ fs.length <= 1000 /\ dx ≠ a /\ h.get? a = some (PySem.W.instObj C dx) /\
   ∃ mA, h.Ns1 dx mA /\ (∀ f, gH (fs.lookup f) (mA f)) /\ PySem.Within mA (fs.map (·.1))
 | .own _ => ∃ o, h.get? a = some o
 | .xd fs => ∃ mA, h.Ns1 a mA /\ ∀ f, gH (fs.lookup f) (mA f)
 | .rng lo hi => ∃ t u v, h.get? a = some { cls := .type "range", data := .fields #[.int lo t, .int hi u, .int 1 v] }
 | .frz o u => h.get? a = some o /\ dB H h a u
 | .tbl ps => h.get? a = some { cls := .none, data := .fields ps }
 | .met f x => h.get? a = some (PySem.W.methodObj (.ref f) (.ref x))
 | .tbc pos q => ∃ ps : Array Value, h.get? a = some { cls := .none, data := .fields ps } /\ TriplesOk ps.toList /\ (codeAmong pos ps.toList = none \/ ∃ c oc vs t, codeAmong pos ps.toList = some (.ref c) /\ H c = some (.own a) /\ h.get? c = some oc /\ oc.data = .fields vs /\ vs[1]? = some (.str q t))
 | .ext φ => φ h /\ (∃ o, h.get? a = some o) /\ ∀ h1 h2 : Heap, φ h1 -> (∀ o, h1.get? a = some o -> h2.get? a = some o) -> φ h2
def HOk (H:Hp) (h:Heap):Prop:=∀ a o,H a=some o->dB P w H h a o
end
section
variable {P:Program}{w:World}{H H':Hp}{h h':Heap}{a:Addr}{o:HO}
theorem dB.lt (x:dB P w H h a o):a<h.objs.size:=by
 cases o with
 | lst xs=>obtain⟨_,_,_,_,e⟩:=x;exact aJj e
 | tup xs=>obtain⟨_,_,_,p⟩:=x;exact p.lt
 | dK kvs=>obtain⟨_,_,_,_,o,_,_,e,_⟩:=x;exact aJj e
 | dT kvs=>obtain⟨_,_,_,_,o,_,_,e,_⟩:=x;exact aJj e
 | set S n=>obtain⟨o,_,_,_,e,_⟩:=x;exact aJj e
 | ins C dx fs=>obtain⟨_,_,_,e,_⟩:=x;exact aJj e
 | own y=>obtain⟨_,e⟩:=x;exact aJj e
 | xd fs=>obtain⟨_,⟨_,_,_,e,_⟩,_⟩:=x;exact aJj e
 | rng lo hi=>obtain⟨_,_,_,e⟩:=x;exact aJj e
 | frz ob u=>obtain⟨e,_⟩:=x;exact aJj e
 | tbl ps=>exact aJj (show h.get? a=some _ from x)
 | met f y=>exact aJj (show h.get? a=some _ from x)
 | ext φ=>obtain⟨_,⟨_,e⟩,_⟩:=x;exact aJj e
 | tbc pos q=>obtain⟨_,e,_⟩:=x;exact aJj e
theorem Paired.mapP {α β:Type}{F G:α->β->Prop}:∀ {l₁:List α}{l₂:List β},Paired F l₁ l₂->(∀ a b,F a b->G a b)->Paired G l₁ l₂
 | _,_,.nil,_=>.nil
 | _,_,.cons r t,f=>.cons (f _ _ r) (Paired.mapP t f)
theorem dB.stay (x:dB P w H h a o) (k:∀ b u,(b=a\/H b=some (.own a))->h.get? b=some u->h'.get? b=some u)
  (ho:∀ b,H b=some (.own a)->H' b=some (.own a)) (ht:∀ b xs,H b=some (.tup xs)->H' b=some (.tup xs)):dB P w H' h' a o:=by
 induction o with
 | lst xs=>obtain⟨z,its,n,r,e⟩:=x;exact⟨z,its,n,r,k _ _ (.inl rfl) e⟩
 | tup xs=>obtain⟨z,its,r,ob,e,c⟩:=x;exact⟨z,its,r,ob,k _ _ (.inl rfl) e,c⟩
 | dK kvs=>obtain⟨z,y,vs,r,ob,es,ep,e,c⟩:=x;exact⟨z,y,vs,r,ob,es,ep,k _ _ (.inl rfl) e,c⟩
 | dT kvs=>
  obtain⟨z,y,xs,r,ob,es,ep,e,c⟩:=x;exact⟨z,y,xs,Paired.mapP r fun p q z=>⟨z.1,ht _ _ z.2.1,z.2.2⟩,ob,es,ep,k _ _ (.inl rfl) e,c⟩
 | set S n=>obtain⟨ob,es,ep,t,e,c⟩:=x;exact⟨ob,es,ep,t,k _ _ (.inl rfl) e,c⟩
 | ins C dx fs=>
  obtain⟨d,z,ne,e,mA,⟨od,es,ep,e2,c⟩,r⟩:=x;exact⟨ho _ d,z,ne,k _ _ (.inl rfl) e,mA,⟨od,es,ep,k _ _ (.inr d) e2,c⟩,r⟩
 | own y=>obtain⟨ob,e⟩:=x;exact⟨ob,k _ _ (.inl rfl) e⟩
 | xd fs=>obtain⟨mA,⟨od,es,ep,e,c⟩,r⟩:=x;exact⟨mA,⟨od,es,ep,k _ _ (.inl rfl) e,c⟩,r⟩
 | rng lo hi=>obtain⟨t,u,v,e⟩:=x;exact⟨t,u,v,k _ _ (.inl rfl) e⟩
 | frz ob u ih=>obtain⟨e,q⟩:=x;exact⟨k _ _ (.inl rfl) e,ih q⟩
 | tbl ps=>
  have e:h.get? a=some { cls:=.none,data:=.fields ps }:=x;show h'.get? a=some { cls:=.none,data:=.fields ps };exact k a _ (.inl rfl) e
 | met f y=>
  have e:h.get? a=some (PySem.W.methodObj (.ref f) (.ref y)):=x;show h'.get? a=some (PySem.W.methodObj (.ref f) (.ref y));exact k a _ (.inl rfl) e
 | ext φ=>obtain⟨p,⟨o,e⟩,st⟩:=x;exact⟨st _ _ p fun o q=>k _ _ (.inl rfl) q,⟨o,k _ _ (.inl rfl) e⟩,st⟩
 | tbc pos q=>
  obtain⟨ps,e,t,r⟩:=x;refine⟨ps,k _ _ (.inl rfl) e,t,?_⟩;rcases r with r | ⟨c,oc,vs,t,r1,r2,r3,r4,r5⟩
  ·exact .inl r
  ·exact .inr ⟨c,oc,vs,t,r1,ho _ r2,k _ _ (.inr r2) r3,r4,r5⟩
theorem HOk.lt (x:HOk P w H h) (e:H a=some o):a<h.objs.size:=(x a o e).lt
theorem HOk.fresh (x:HOk P w H h) (e:h.objs.size<=a):H a=none:=by
 cases q:H a with
 | none=>rfl
 | some u=>exact absurd (aJ7 (x.lt q) e) (aLa _)
theorem HOk.kept (x:HOk P w H h) (k:∀ b u,h.get? b=some u->h'.get? b=some u):HOk P w H h':=fun a o e=>
 (x a o e).stay (fun b u _ q=>k b u q) (fun _ q=>q) fun _ _ q=>q
theorem HOk.laid (x:HOk P w H h) (k:∀ b u,h.get? b=some u->h'.get? b=some u) (hp:h.objs.size<=a) (new:dB P w (upd H a o) h' a o):HOk P w (upd H a o) h':=fun b u e=>by
 have hn:=x.fresh hp
 by_cases hb:b=a
 ·subst hb;rw[dA] at e;cases e;exact new
 ·rw[aV hb] at e
  exact (x b u e).stay (fun c v _ q=>k c v q) (fun c q=>by rw[aV (gA q hn)];exact q) fun c xs q=>by rw[aV (gA q hn)];exact q
end
def Rd (H:Hp) (a:Addr) (u:HO):Prop:=H a=some u\/∃ o,H a=some (.frz o u)
theorem Rd.of {H:Hp}{a:Addr}{u:HO}(h:H a=some u):Rd H a u:=.inl h
theorem Rd.ok {P:Program}{w:World}{H:Hp}{h:Heap}{a:Addr}{u:HO}(r:Rd H a u) (x:HOk P w H h):dB P w H h a u:=by
 rcases r with r | ⟨o,r⟩
 ·exact x a u r
 ·obtain⟨_,q⟩:=x a _ r
  exact q
def Mut:Option HO->Prop
 | some (.lst _)=>True
 | some (.dK _)=>True
 | some (.dT _)=>True
 | some (.set _ _)=>True
 | some (.ins _ _ _)=>True
 | some (.ext _)=>True
 | _=>False
section
variable {P:Program}{w:World}{H:Hp}{h h':Heap}{x e:Addr}{o':HO}
theorem HOk.write (ok:HOk P w H h) (mu:Mut (H x)) (he:e=x\/H e=some (.own x)) (k:∀ b u,b≠e->h.get? b=some u->h'.get? b=some u) (heo:∃ u,h'.get? e=some u)
  (new:dB P w (upd H x o') h' x o'):HOk P w (upd H x o') h':=fun b u q=>by
 have nown:∀ c y,H c=some (.own y)->c≠x:=fun c y r z=>by subst z;rw[r] at mu;exact mu
 have ntup:∀ c xs,H c=some (.tup xs)->c≠x:=fun c xs r z=>by subst z;rw[r] at mu;exact mu
 by_cases hb:b=x
 ·subst hb;rw[dA] at q;cases q;exact new
 ·rw[aV hb] at q
  by_cases hbe:b=e
  ·have q':H b=some (.own x):=by
    rcases he with z | z
    ·exact absurd (hbe.trans z) hb
    ·rw[hbe];exact z
   rw[q] at q';cases q';obtain⟨v,hv⟩:=heo;exact⟨v,by rw[hbe];exact hv⟩
  ·refine (ok b u q).stay (fun c v hc r=>k c v ?_ r) (fun c r=>by rw[aV (nown c b r)];exact r) fun c xs r=>by rw[aV (ntup c xs r)];exact r
   rcases hc with rfl | hc
   ·exact hbe
   ·rintro rfl
    rcases he with z | z
    ·exact nown c b hc z
    ·rw[hc] at z;cases z;exact hb rfl
end
structure Un (fs ex:List Addr) (H H':Hp) (h h':Heap):Prop where
 keep:∀ b o,h.get? b=some o->H b=none->b ∉ fs->b ∉ ex->h'.get? b=some o
 slot:∀ b o,h.get? b=some o->H b=none->b∈fs->b ∉ ex->∃ sl,h'.get? b=some { o with slots:=sl }
 free:∀ b o,h.get? b=some o->H b=none->b ∉ ex->H' b=none
 there:∀ b o,h.get? b=some o->b ∉ ex->∃ o',h'.get? b=some o'
 tups:∀ b xs,H b=some (.tup xs)->H' b=some (.tup xs)
 frzs:∀ b o u,H b=some (.frz o u)->H' b=some (.frz o u)
 tbls:∀ b ps,H b=some (.tbl ps)->∃ more,H' b=some (.tbl (ps++more))
section
variable {fs fs' ex ex':List Addr}{H H1 H2:Hp}{h h1 h2 h':Heap}{a x e:Addr}{o:HO}
theorem Un.any (u:Un fs ex H H1 h h1) {b:Addr}{ob:Obj}(q:h.get? b=some ob) (n:H b=none) (hx:b ∉ ex):∃ sl,h1.get? b=some { ob with slots:=sl }:=by
 by_cases hb:b∈fs
 ·exact u.slot b ob q n hb hx
 ·exact⟨ob.slots,u.keep b ob q n hb hx⟩
theorem Un.trans (a:Un fs ex H H1 h h1) (b:Un fs ex H1 H2 h1 h2):Un fs ex H H2 h h2 where
 keep:=fun c ob q n hc hx=>b.keep c ob (a.keep c ob q n hc hx) (a.free c ob q n hx) hc hx
 slot:=fun c ob q n hc hx=>by
  obtain⟨sl,e1⟩:=a.slot c ob q n hc hx;obtain⟨sl',e2⟩:=b.slot c _ e1 (a.free c ob q n hx) hc hx;exact⟨sl',e2⟩
 free:=fun c ob q n hx=>by
  obtain⟨o',e1⟩:=a.there c ob q hx;exact b.free c o' e1 (a.free c ob q n hx) hx
 there:=fun c ob q hx=>by
  obtain⟨o',e1⟩:=a.there c ob q hx;exact b.there c o' e1 hx
 tups:=fun c xs q=>b.tups c xs (a.tups c xs q)
 frzs:=fun c ob xs q=>b.frzs c ob xs (a.frzs c ob xs q)
 tbls:=fun c ps q=>by
  obtain⟨m1,e1⟩:=a.tbls c ps q;obtain⟨m2,e2⟩:=b.tbls c _ e1;exact⟨m1++m2,by rw[e2,Array.append_assoc]⟩
theorem Un.kept (k:∀ b u,h.get? b=some u->h'.get? b=some u):Un fs ex H H h h':=
 ⟨fun b ob q _ _ _=>k b ob q,fun b ob q _ _ _=>⟨ob.slots,k b ob q⟩,fun _ _ _ n _=>n,fun b ob q _=>⟨ob,k b ob q⟩,fun _ _ q=>q,fun _ _ _ q=>q,fun _ ps q=>⟨#[],by rw[q];simp⟩⟩
theorem Un.refl:Un fs ex H H h h:=Un.kept fun _ _ q=>q
theorem Un.laid (k:∀ b u,h.get? b=some u->h'.get? b=some u) (hp:h.objs.size<=a) (hn:H a=none):Un fs ex H (upd H a o) h h' where
 keep:=fun b u q _ _ _=>k b u q
 slot:=fun b u q _ _ _=>⟨u.slots,k b u q⟩
 free:=fun b u q n _=>by rw[aV (aLh (aJ7 (aJj q) hp))];exact n
 there:=fun b u q _=>⟨u,k b u q⟩
 tups:=fun b xs q=>by rw[aV (gA q hn)];exact q
 frzs:=fun b u xs q=>by rw[aV (gA q hn)];exact q
 tbls:=fun b ps q=>⟨#[],by rw[aV (gA q hn),q];simp⟩
theorem Un.write (mu:Mut (H x)) (he:e=x\/H e=some (.own x)) (k:∀ b u,b≠e->h.get? b=some u->h'.get? b=some u) (heo:∃ u,h'.get? e=some u):Un fs ex H (upd H x o) h h':=by
 have hx:∀ b,H b=none->b≠x:=fun b n z=>by subst z;rw[n] at mu;exact mu
 have hb:∀ b,H b=none->b≠e:=fun b n z=>by
  subst z;rcases he with r | r
  ·exact hx b n r
  ·rw[n] at r;cases r
 have hm:∀ b u,H b=some u->¬ Mut (some u)->b≠x:=fun b u q nm z=>by subst z;rw[q] at mu;exact nm mu
 refine⟨fun b u q n _ _=>k b u (hb b n) q,fun b u q n _ _=>⟨u.slots,k b u (hb b n) q⟩,fun b u q n _=>by rw[aV (hx b n)];exact n,fun b u q _=>?_,
  fun b xs q=>by rw[aV (hm b _ q fun z=>z)];exact q,fun b u xs q=>by rw[aV (hm b _ q fun z=>z)];exact q,fun b ps q=>⟨#[],by rw[aV (hm b _ q fun z=>z),q];simp⟩⟩
 by_cases hbe:b=e
 ·subst hbe;exact heo
 ·exact⟨u,k b u hbe q⟩
theorem Un.mono (u:Un fs ex H H1 h h1) (hs:∀ b∈fs,b∈fs') (hx:∀ b∈ex,b∈ex'):Un fs' ex' H H1 h h1:=
 ⟨fun b ob q n hb he=>u.keep b ob q n (fun z=>hb (hs b z)) fun z=>he (hx b z),fun _ _ q n _ he=>u.any q n fun z=>he (hx _ z),fun b ob q n he=>u.free b ob q n fun z=>he (hx b z),fun b ob q he=>u.there b ob q fun z=>he (hx b z),u.tups,u.frzs,u.tbls⟩
end
def trk (h:Heap) (H:Hp):List Addr:=(List.range h.objs.size).filter fun a=>(H a).isSome
def eO (h:Heap) (H:Hp):Heap:=PySem.W.hideAll h (trk h H)
theorem JH (h:Heap) (H:Hp):(eO h H).objs.size=h.objs.size:=PySem.W.hideAll_size _ _
theorem JG {h:Heap}{H:Hp}{b:Addr}{o:Obj}(e:h.get? b=some o) (n:H b=none):(eO h H).get? b=some o:=
 PySem.W.hideAll_get _ e fun hm=>by
  have q:(H b).isSome=true:=(aKu.mp hm).2;rw[n] at q;simp at q
theorem LE {h:Heap}{H:Hp}{b:Addr}{o:Obj}(e:(eO h H).get? b=some o):h.get? b=some o/\H b=none:=by
 have e':h.get? b=some o:=PySem.W.of_hideAll (trk h H) e;refine⟨e',?_⟩;cases q:H b with
 | none=>rfl
 | some x=>
  have hm:b∈trk h H:=aKu.mpr ⟨aJ6.mpr (aJj e'),by simp[q]⟩;have z:(eO h H).get? b=none:=PySem.W.hideAll_none (trk h H) hm;rw[z] at e;cases e
def RZ (g h:Heap) (L:Addr):List (Addr × Obj):=(List.range h.objs.size).filterMap fun a=>if a=L\/(g.get? a).isSome=true then none else (h.get? a).map fun o=>(a,o)
def rest (g h:Heap) (L d:Addr):List (Addr × Obj):=(RZ g h L).filter fun p=>decide (p.1≠d)
structure Mod (K:PySem.W.Frag) (mg:Str->Option Value) (base:Heap):Prop where
 kin:K.In base
 glob:base.Ns mainGlobals mg
 blt:∃ mb,base.Ns builtinsNs mb/\∀ x:Str,x ≠ "__name__" -> mb x=bootBuiltins x
 nolimit:base.NoLimit
 nodig:base.NoDigits
structure Cx where
 prog:Program
 w:World
 K:PySem.W.Frag
 mg:Str->Option Value
 base:Heap
 A:Around
 N:List Str
 s₀:Shared
 H₀:Hp
 env:Env
 outer:List Env
 stack:List Env
 ex:List Addr
 fn:Str->Bool
 calm:Bool
 pn:List (Addr × Obj)
 xe:Value->Shared->Prop
def frs (l:List Env):List Addr:=l.filterMap (·.frame)
abbrev Cx.fs (X:Cx):List Addr:=frs X.outer
def Vis (sc:Scope) (x:Str):Prop:=sc.names.lookup x=some .local\/sc.names.lookup x=some .cell\/sc.names.lookup x=some .free
def Loc (sc:Scope) (x:Str):Prop:=sc.names.lookup x=some .local\/sc.names.lookup x=some .cell
def RT (env:Env) (h:Heap) (m:Str->Option Value) (x:Str) (u:Value):Prop:=
 (env.kindOf x=some .local/\m x=some u)\/((env.kindOf x=some .cell\/env.kindOf x=some .free)/\∃ c,env.cells.lookup x=some c/\h.IsCell c (some u))
structure Cx.Ok (X:Cx):Prop where
 mod:Mod X.K X.mg X.base
 kind:X.env.scope.kind=.function
 glob:X.env.globals=mainGlobals
 blt:X.env.builtins=builtinsNs
 above:X.s₀.heap.objs.size<=X.env.locals
 inj:∀ x y c,X.env.cells.lookup x=some c->X.env.cells.lookup y=some c->x=y
 has:∀ x,(X.env.kindOf x=some .cell\/X.env.kindOf x=some .free)->∃ c,X.env.cells.lookup x=some c
 cab:∀ x c,X.fn x=true->X.env.cells.lookup x=some c->X.s₀.heap.objs.size<=c
 hd:X.calm=true->X.A.handled=none
 frames:X.A.frames=some X.stack
 stk:X.stack=X.outer\/(X.stack=X.env::X.outer/\X.env.frame=some X.env.locals)
 exf:∀ b∈X.ex,b≠X.env.locals/\∀ x c,X.env.cells.lookup x=some c->c≠b
 bs:∀ b o,X.base.get? b=some o->X.s₀.heap.get? b=some o/\X.H₀ b=none
 bsz:X.base.objs.size<=X.s₀.heap.objs.size
 noex:∀ b o,X.base.get? b=some o->b ∉ X.ex
 exfs:∀ b∈X.ex,b ∉ X.fs
 funs:X.s₀.heap.FunFrames X.base X.outer
 frf:∀ b∈X.fs,X.H₀ b=none
structure Inv (X:Cx) (pins:List (Addr × Obj)) (σ:List (Option V)) (H:Hp) (s:Shared):Prop where
 ok:X.Ok
 os:s.os=X.s₀.os
 bare:AllBare s.gens
 base:Un X.fs X.ex X.H₀ H X.s₀.heap s.heap
 loc:∃ m,s.heap.Ns X.env.locals m/\∀ (i:Nat) (x:Str) (v:V),X.N[i]?=some x->σ[i]?=some (some v)->Vis X.env.scope x->∃ u,aT v u/\RT X.env s.heap m x u
 cell:∀ x c,X.env.cells.lookup x=some c->∃ v,s.heap.IsCell c v
 free:H X.env.locals=none
 freeC:∀ x c,X.env.cells.lookup x=some c->H c=none
 pin:∀ p∈X.pn++pins,s.heap.get? p.1=some p.2/\H p.1=none/\p.1≠X.env.locals/\p.1 ∉ X.fs/\∀ v,p.2.data≠.cell v
 hok:HOk X.prog X.w H s.heap
 len:σ.length=X.N.length
section
variable {X:Cx}{pins:List (Addr × Obj)}{σ:List (Option V)}{H H':Hp}{s:Shared}{h':Heap}
theorem Cx.Ok.nofr (ok:X.Ok) {b:Addr}{o:Obj}(e:X.base.get? b=some o):b ∉ X.fs:=fun hb=>by
 have:=(ok.funs.mem hb).1;rw[e] at this;cases this
theorem Inv.bs (I:Inv X pins σ H s):∀ b o,X.base.get? b=some o->s.heap.get? b=some o/\H b=none:=fun b o e=>
 ⟨I.base.keep b o (I.ok.bs b o e).1 (I.ok.bs b o e).2 (I.ok.nofr e) (I.ok.noex b o e),I.base.free b o (I.ok.bs b o e).1 (I.ok.bs b o e).2 (I.ok.noex b o e)⟩
theorem Inv.bk (I:Inv X pins σ H s):∀ b o,X.base.get? b=some o->s.heap.get? b=some o:=fun b o e=>(I.bs b o e).1
theorem Inv.mod (I:Inv X pins σ H s):Mod X.K X.mg X.base:=I.ok.mod
theorem Inv.kIn (I:Inv X pins σ H s):X.K.In s.heap:=I.ok.mod.kin.keeps I.bk
theorem Inv.nodig (I:Inv X pins σ H s):s.heap.NoDigits:=I.ok.mod.nodig.keeps I.bk
theorem Inv.nolimit (I:Inv X pins σ H s):s.heap.NoLimit:=I.ok.mod.nolimit.keeps I.bk
theorem Inv.fr (I:Inv X pins σ H s):∃ m,Fr X.base X.env.locals s.heap m:=
 let ⟨m,hn,_⟩:=I.loc
 ⟨m,hn,I.bk,aL9 I.ok.bsz I.ok.above⟩
theorem Inv.lt (I:Inv X pins σ H s):X.env.locals<s.heap.objs.size:=let ⟨_,hn,_⟩:=I.loc;hn.lt
theorem Inv.sz (I:Inv X pins σ H s):X.s₀.heap.objs.size<=s.heap.objs.size:=aL9 I.ok.above (aL7 I.lt)
theorem Inv.nofs (I:Inv X pins σ H s) {a:Addr}(h:s.heap.objs.size<=a):a ∉ X.fs:=fun hb=>by
 obtain⟨_,o,ho,_⟩:=I.ok.funs.mem hb;exact absurd (aJ7 (aJj ho) (aL9 I.sz h)) (aLa _)
theorem Inv.cne (I:Inv X pins σ H s):∀ x c,X.env.cells.lookup x=some c->c≠X.env.locals:=fun x c e z=>by
 obtain⟨v,o,ho,hd⟩:=I.cell x c e;obtain⟨m,⟨o',es,ep,ho',hd',_⟩,_⟩:=I.loc;rw[z,ho'] at ho;cases ho;rw[hd'] at hd;cases hd
theorem Inv.funs (I:Inv X pins σ H s):s.heap.FunFrames X.base X.outer:=by
 have all:∀ (l:List Env),(∀ b∈frs l,b∈X.fs)->X.s₀.heap.FunFrames X.base l->s.heap.FunFrames X.base l:=by
  intro l
  induction l with
  | nil=>intro _ _;trivial
  | cons env r ih=>
   intro hs hl;obtain⟨hk,⟨L,o,hf,hn,ho,hd⟩,hr⟩:=hl;have hL:L∈X.fs:=hs L (by unfold frs;rw[aK0,hf];exact aJ3);obtain⟨sl,e⟩:=I.base.slot L o ho (I.ok.frf L hL) hL fun z=>I.ok.exfs L z hL;exact⟨hk,⟨L,_,hf,hn,e,hd⟩,ih (fun b hb=>hs b (by unfold frs;rw[aK0,hf];exact aJ2 _ hb)) hr⟩
 exact all X.outer (fun _ hb=>hb) I.ok.funs
theorem Inv.stack (I:Inv X pins σ H s):s.heap.FunFrames X.base X.stack:=by
 rcases I.ok.stk with e | ⟨e,hf⟩
 ·rw[e];exact I.funs
 ·rw[e]
  obtain⟨m,hn,_⟩:=I.loc;refine .cons (by rw[I.ok.kind];decide) hf hn ?_ I.funs;exact Heap.get?_none_of_le (aL9 I.ok.bsz I.ok.above)
theorem Inv.stkSub (I:Inv X pins σ H s):∀ b∈frs X.stack,b∈X.env.locals::X.fs:=fun b hb=>by
 rcases I.ok.stk with e | ⟨e,hf⟩
 ·rw[e] at hb;exact aJ2 _ hb
 ·rw[e] at hb
  unfold frs at hb;rw[aK0,hf] at hb;exact hb
theorem Inv.stkFree (I:Inv X pins σ H s):∀ b∈frs X.stack,H b=none:=fun b hb=>by
 rcases aJb.mp (I.stkSub b hb) with e | hb
 ·rw[e];exact I.free
 ·obtain⟨_,o,ho,_⟩:=I.ok.funs.mem hb
  exact I.base.free b o ho (I.ok.frf b hb) fun z=>I.ok.exfs b z hb
theorem Inv.step {g':Array GenState}{t':Nat}{d':Drawn}{ch:List Addr}(I:Inv X pins σ H s)
  (hch:∀ b∈ch,(b∈X.ex\/X.s₀.heap.objs.size<=b)/\b≠X.env.locals/\(∀ x c,X.env.cells.lookup x=some c->c≠b)/\∀ p∈X.pn++pins,p.1≠b)
  (keep:∀ b o,b≠X.env.locals->b ∉ X.fs->b ∉ ch->s.heap.get? b=some o->H b=none->h'.get? b=some o)
  (slot:∀ b o,b≠X.env.locals->b∈X.fs->b ∉ ch->s.heap.get? b=some o->H b=none->∃ sl,h'.get? b=some { o with slots:=sl }) (free:∀ b o,b ∉ ch->s.heap.get? b=some o->H b=none->H' b=none)
  (there:∀ b o,b ∉ ch->s.heap.get? b=some o->∃ o',h'.get? b=some o')
  (tups:∀ b xs,H b=some (.tup xs)->H' b=some (.tup xs)) (frzs:∀ b o u,H b=some (.frz o u)->H' b=some (.frz o u)) (tbls:∀ b ps,H b=some (.tbl ps)->∃ more,H' b=some (.tbl (ps++more)))
  (ns:∀ m,s.heap.Ns X.env.locals m->h'.Ns X.env.locals m) (hok:HOk X.prog X.w H' h') (hg:AllBare g'):
  Inv X pins σ H' { s with heap:=h',gens:=g',drawn:=d',toks:=t' }:=by
 have neL:∀ b o,X.s₀.heap.get? b=some o->b≠X.env.locals:=fun b o e=>aLh (aJ7 (aJj e) I.ok.above);have neC:∀ b o,X.s₀.heap.get? b=some o->b ∉ X.ex->b ∉ ch:=fun b o e hx hb=>by
  rcases (hch b hb).1 with z | z
  ·exact hx z
  ·exact absurd (aJ7 (aJj e) z) (aLa _)
 have cellK:∀ x c,X.env.cells.lookup x=some c->∀ v,s.heap.IsCell c v->h'.IsCell c v:=fun x c e v ⟨o,ho,hd⟩=>by
  have nch:c ∉ ch:=fun z=>(hch c z).2.2.1 x c e rfl
  by_cases hc:c∈X.fs
  ·obtain⟨sl,q⟩:=slot c o (I.cne x c e) hc nch ho (I.freeC x c e)
   exact⟨_,q,hd⟩
  ·exact⟨o,keep c o (I.cne x c e) hc nch ho (I.freeC x c e),hd⟩
 refine⟨I.ok,I.os,hg,⟨fun b o e n hb hx=>?_,fun b o e n hb hx=>?_,fun b o e n hx=>?_,fun b o e hx=>?_,fun b xs e=>tups b xs (I.base.tups b xs e),fun b o xs e=>frzs b o xs (I.base.frzs b o xs e),fun b ps e=>?_⟩,?_,fun x c e=>?_,?_,fun x c e=>?_,fun p hp=>?_,hok,I.len⟩
 ·exact keep b o (neL b o e) hb (neC b o e hx) (I.base.keep b o e n hb hx) (I.base.free b o e n hx)
 ·obtain⟨sl,e1⟩:=I.base.slot b o e n hb hx
  obtain⟨sl',e2⟩:=slot b _ (neL b o e) hb (neC b o e hx) e1 (I.base.free b o e n hx);exact⟨sl',e2⟩
 ·obtain⟨o',e1⟩:=I.base.there b o e hx
  exact free b o' (neC b o e hx) e1 (I.base.free b o e n hx)
 ·obtain⟨o',e1⟩:=I.base.there b o e hx
  exact there b o' (neC b o e hx) e1
 ·obtain⟨m1,e1⟩:=I.base.tbls b ps e
  obtain⟨m2,e2⟩:=tbls b _ e1;exact⟨m1++m2,by rw[e2,Array.append_assoc]⟩
 ·obtain⟨m,hn,hl⟩:=I.loc
  refine⟨m,ns m hn,fun i x v e1 e2 e3=>?_⟩;obtain⟨u,r,l⟩:=hl i x v e1 e2 e3;refine⟨u,r,?_⟩;rcases l with l | ⟨k,c,e,z⟩
  ·exact .inl l
  ·exact .inr ⟨k,c,e,cellK x c e _ z⟩
 ·obtain⟨v,z⟩:=I.cell x c e
  exact⟨v,cellK x c e v z⟩
 ·obtain⟨m,⟨o,_,_,ho,_⟩,_⟩:=I.loc
  exact free _ o (fun z=>(hch _ z).2.1 rfl) ho I.free
 ·obtain⟨v,o,ho,hd⟩:=I.cell x c e
  exact free c o (fun z=>(hch c z).2.2.1 x c e rfl) ho (I.freeC x c e)
 ·obtain⟨e,n,ne,nf,d⟩:=I.pin p hp
  have nch:p.1 ∉ ch:=fun z=>(hch p.1 z).2.2.2 p hp rfl;exact⟨keep p.1 p.2 ne nf nch e n,free p.1 p.2 nch e n,ne,nf,d⟩
theorem Inv.un {t':Nat}(I:Inv X pins σ H s) (u:Un X.fs [] H H' s.heap h') (hok:HOk X.prog X.w H' h'):Inv X pins σ H' { s with heap:=h',toks:=t' }:=by
 obtain⟨m,⟨o,es,ep,ho,r⟩,_⟩:=id I.loc;obtain⟨sl,hL⟩:=u.any ho I.free (by simp);exact I.step (g':=s.gens) (d':=s.drawn) (ch:=[]) (fun _ z=>nomatch z) (fun b o _ hb _ e n=>u.keep b o e n hb (by simp)) (fun b o _ hb _ e n=>u.slot b o e n hb (by simp)) (fun b o _ e n=>u.free b o e n (by simp)) (fun b o _ e=>u.there b o e (by simp)) u.tups u.frzs u.tbls (fun m' hm=>by
  obtain⟨o',es',ep',ho',r'⟩:=hm;rw[ho] at ho';cases ho';exact⟨_,es',ep',hL,r'⟩) hok I.bare
theorem Inv.call {g':Array GenState}{t':Nat}{d':Drawn}{ch:List Addr}(I:Inv X pins σ H s) (u:Un (frs X.stack) ch H H' s.heap h') (hok:HOk X.prog X.w H' h') (hg:AllBare g')
  (hch:∀ b∈ch,(b∈X.ex\/X.s₀.heap.objs.size<=b)/\b≠X.env.locals/\(∀ x c,X.env.cells.lookup x=some c->c≠b)/\∀ p∈X.pn++pins,p.1≠b):
  Inv X pins σ H' { s with heap:=h',gens:=g',drawn:=d',toks:=t' }:=by
 obtain⟨m,⟨o,es,ep,ho,r⟩,_⟩:=id I.loc;obtain⟨sl,hL⟩:=u.any ho I.free fun z=>(hch _ z).2.1 rfl;exact I.step (ch:=ch) hch (fun b o hL hb hc e n=>u.keep b o e n (fun z=>(aJb.mp (I.stkSub b z)).elim hL hb) hc) (fun b o _ _ hc e n=>u.any e n hc) (fun b o hc e n=>u.free b o e n hc) (fun b o hc e=>u.there b o e hc) u.tups u.frzs u.tbls (fun m' hm=>by
  obtain⟨o',es',ep',ho',r'⟩:=hm;rw[ho] at ho';cases ho';exact⟨_,es',ep',hL,r'⟩) hok hg
theorem Inv.turned {t':Nat}{it:Addr}(I:Inv X pins σ H s) (k:∀ b o,b≠it->s.heap.get? b=some o->h'.get? b=some o) (hn:H it=none) (hL:it≠X.env.locals)
  (h1:it∈X.ex\/X.s₀.heap.objs.size<=it) (h2:∀ x c,X.env.cells.lookup x=some c->c≠it) (h3:∀ p∈X.pn++pins,p.1≠it):Inv X pins σ H { s with heap:=h',toks:=t' }:=by
 have nit:∀ b u,H b=some u->b≠it:=fun b u e z=>by rw[z,hn] at e;cases e
 refine I.step (g':=s.gens) (d':=s.drawn) (ch:=[it]) (fun b hb=>?_) (fun b o _ _ hc e _=>k b o (fun z=>hc (by simp[z])) e) (fun b o _ _ hc e _=>⟨o.slots,k b o (fun z=>hc (by simp[z])) e⟩) (fun _ _ _ _ n=>n)
  (fun b o hc e=>⟨o,k b o (fun z=>hc (by simp[z])) e⟩) (fun _ _ e=>e) (fun _ _ _ e=>e) (fun b ps e=>⟨#[],by rw[e];simp⟩) (fun m hm=>?_) (fun b u e=>?_) I.bare
 ·have e:b=it:=by simpa using hb
  subst e;exact⟨h1,hL,h2,h3⟩
 ·obtain⟨o,es,ep,ho,r⟩:=hm
  exact⟨o,es,ep,k _ o (Ne.symm hL) ho,r⟩
 ·refine (I.hok b u e).stay (fun c v hc q=>k c v ?_ q) (fun _ q=>q) fun _ _ q=>q
  rcases hc with z | z
  ·rw[z];exact nit b u e
  ·exact nit c _ z
theorem Inv.tok (I:Inv X pins σ H s) (t:Nat):Inv X pins σ H { s with toks:=t }:=I.un (h':=s.heap) (t':=t) Un.refl I.hok
theorem Inv.kept {t':Nat}(I:Inv X pins σ H s) (k:∀ b u,s.heap.get? b=some u->h'.get? b=some u):Inv X pins σ H { s with heap:=h',toks:=t' }:=I.un (Un.kept k) (I.hok.kept k)
theorem Inv.laid {a:Addr}{o:HO}{t':Nat}(I:Inv X pins σ H s) (k:∀ b u,s.heap.get? b=some u->h'.get? b=some u) (hp:s.heap.objs.size<=a) (new:dB X.prog X.w (upd H a o) h' a o):
  Inv X pins σ (upd H a o) { s with heap:=h',toks:=t' }:=I.un (Un.laid k hp (I.hok.fresh hp)) (I.hok.laid k hp new)
theorem Inv.write {x e:Addr}{o:HO}{t':Nat}(I:Inv X pins σ H s) (mu:Mut (H x)) (he:e=x\/H e=some (.own x)) (k:∀ b u,b≠e->s.heap.get? b=some u->h'.get? b=some u) (heo:∃ u,h'.get? e=some u)
  (new:dB X.prog X.w (upd H x o) h' x o):Inv X pins σ (upd H x o) { s with heap:=h',toks:=t' }:=I.un (Un.write mu he k heo) (I.hok.write mu he k heo new)
theorem Inv.weak {σ':List (Option V)}(I:Inv X pins σ H s) (hl:σ'.length=σ.length) (w:∀ (i:Nat) v,σ'[i]?=some (some v)->σ[i]?=some (some v)):Inv X pins σ' H s:=
 ⟨I.ok,I.os,I.bare,I.base,let ⟨m,hn,hl'⟩:=I.loc;⟨m,hn,fun i x v e1 e2 e3=>hl' i x v e1 (w i v e2) e3⟩,I.cell,I.free,I.freeC,I.pin,I.hok,hl.trans I.len⟩
theorem Inv.pins_of {pins':List (Addr × Obj)}(I:Inv X pins σ H s) (h:∀ p∈pins',s.heap.get? p.1=some p.2/\H p.1=none/\p.1≠X.env.locals/\p.1 ∉ X.fs/\∀ v,p.2.data≠.cell v):Inv X pins' σ H s:=
 ⟨I.ok,I.os,I.bare,I.base,I.loc,I.cell,I.free,I.freeC,fun p hp=>(aKr.mp hp).elim (fun z=>I.pin p (List.mem_append_left _ z)) (h p),I.hok,I.len⟩
theorem KW {N:List Str}(hN:N.Nodup) {i j:Nat}{x:Str}(a:N[i]?=some x) (b:N[j]?=some x):i=j:=by
 obtain⟨h1,e1⟩:=aJ4.mp a;obtain⟨h2,e2⟩:=aJ4.mp b;exact (List.getElem_inj hN).mp (e1.trans e2.symm)
theorem NK {M:Model}{A:Around}{E:Value->Shared->Prop}{i:Nat}{x:Str}{v:V}{u:Value}{Q:Unit->Shared->Prop}(I:Inv X pins σ H s) (hN:X.N.Nodup) (hi:X.N[i]?=some x) (hx:Loc X.env.scope x) (r:aT v u)
  (h:∀ s',Inv X pins (σ.set i (some v)) H s'->(∃ a,Heap.SameBut a s.heap s'.heap/\(a=X.env.locals\/X.env.cells.lookup x=some a))->Q () s') (hf:X.fn x=true\/X.env.scope.names.lookup x=some .local:=by first | exact .inl rfl | exact .inr rfl | assumption):wpAny M A (storeName X.env x u) Q E s:=by
 obtain⟨m,hn,hl⟩:=id I.loc;have hcls:(X.env.scope.kind == .class||(X.env.scope.kind == .module&&X.env.locals != X.env.globals))=false:=by rw[I.ok.kind];rfl
 have hiσ:i<σ.length:=by rw[I.len];exact (aJ4.mp hi).1
 have cne:=I.cne;have tracked:∀ {a:Addr} {h':Heap},(∃ o,s.heap.get? a=some o/\H a=none)->Heap.SameBut a s.heap h'->HOk X.prog X.w H h':=fun {a h'} ha hs b ob e=>by
  obtain⟨_,_,hfree⟩:=ha;refine (I.hok b ob e).stay (fun c w' hc q=>(hs.2 c ?_).trans q) (fun _ q=>q) fun _ _ q=>q;rintro rfl;rcases hc with rfl | hc
  ·rw[hfree] at e;cases e
  ·rw[hfree] at hc;cases hc
 rcases hx with hk | hk
 ·refine wpAny_storeName_local hk hn (fun h' hn' hs=>?_) hcls
  obtain⟨oL,_,_,hoL,_⟩:=id hn;refine h _ ⟨I.ok,I.os,I.bare,⟨fun b o e n hb hx=>?_,fun b o e n hb hx=>?_,I.base.free,fun b o e hx=>?_,I.base.tups,I.base.frzs,I.base.tbls⟩,⟨_,hn',fun j y v' e1 e2 e3=>?_⟩,fun y c e=>?_,I.free,I.freeC,fun p hp=>?_,tracked ⟨oL,hoL,I.free⟩ hs,by simpa using I.len⟩ ⟨_,hs,.inl rfl⟩
  ·exact (hs.2 b (aLh (aJ7 (aJj e) I.ok.above))).trans (I.base.keep b o e n hb hx)
  ·obtain⟨sl,e1⟩:=I.base.slot b o e n hb hx
   exact⟨sl,(hs.2 b (aLh (aJ7 (aJj e) I.ok.above))).trans e1⟩
  ·obtain⟨o',e1⟩:=I.base.there b o e hx
   exact⟨o',(hs.2 b (aLh (aJ7 (aJj e) I.ok.above))).trans e1⟩
  ·by_cases hj:j=i
   ·subst hj
    rw[hi] at e1;cases e1;rw[aKc hiσ] at e2;cases e2;exact⟨u,r,.inl ⟨hk,by simp⟩⟩
   ·rw[aJ9 (Ne.symm hj)] at e2
    obtain⟨u',r',q⟩:=hl j y v' e1 e2 e3;refine⟨u',r',?_⟩;rcases q with ⟨k,e⟩ | ⟨k,c,e,z⟩
    ·refine .inl ⟨k,?_⟩
     have:y≠x:=fun e=>hj (KW hN e1 (e ▸ hi));simp[this,e]
    ·exact .inr ⟨k,c,e,z.sameBut hs (cne y c e)⟩
  ·obtain⟨w',z⟩:=I.cell y c e
   exact⟨w',z.sameBut hs (cne y c e)⟩
  ·obtain⟨e,n,ne,nf,d⟩:=I.pin p hp
   exact⟨(hs.2 p.1 ne).trans e,n,ne,nf,d⟩
 ·have hfn:X.fn x=true:=by
   rcases hf with z | z
   ·exact z
   ·rw[z] at hk;cases hk
  obtain⟨c,hc⟩:=I.ok.has x (.inl hk);obtain⟨w',z⟩:=I.cell x c hc;refine wpAny_storeName_cell I.ok.kind hk hc z (fun h' hc' hs=>?_);obtain⟨oc,hoc,hocd⟩:=id z;refine h { s with heap:=h' } ⟨I.ok,I.os,I.bare,⟨fun b o e n hb hx=>?_,fun b o e n hb hx=>?_,I.base.free,fun b o e hx=>?_,I.base.tups,I.base.frzs,I.base.tbls⟩,⟨m,hn.sameBut hs (Ne.symm (cne x c hc)),fun j y v' e1 e2 e3=>?_⟩,fun y c' e=>?_,I.free,I.freeC,fun p hp=>?_,tracked ⟨oc,hoc,I.freeC x c hc⟩ hs,by simpa using I.len⟩ ⟨c,hs,.inr hc⟩
  ·exact (hs.2 b (aLh (aJ7 (aJj e) (I.ok.cab x c hfn hc)))).trans (I.base.keep b o e n hb hx)
  ·obtain⟨sl,e1⟩:=I.base.slot b o e n hb hx
   exact⟨sl,(hs.2 b (aLh (aJ7 (aJj e) (I.ok.cab x c hfn hc)))).trans e1⟩
  ·obtain⟨o',e1⟩:=I.base.there b o e hx
   exact⟨o',(hs.2 b (aLh (aJ7 (aJj e) (I.ok.cab x c hfn hc)))).trans e1⟩
  ·by_cases hj:j=i
   ·subst hj
    rw[hi] at e1;cases e1;rw[aKc hiσ] at e2;cases e2;exact⟨u,r,.inr ⟨.inl hk,c,hc,hc'⟩⟩
   ·rw[aJ9 (Ne.symm hj)] at e2
    obtain⟨u',r',q⟩:=hl j y v' e1 e2 e3;refine⟨u',r',?_⟩;rcases q with q | ⟨k,c',e,z'⟩
    ·exact .inl q
    ·refine .inr ⟨k,c',e,z'.sameBut hs ?_⟩
     rintro rfl;exact hj (KW hN e1 (I.ok.inj _ _ _ e hc ▸ hi))
  ·by_cases hcc:c'=c
   ·subst hcc;exact⟨_,hc'⟩
   ·obtain⟨w2,z2⟩:=I.cell y c' e
    exact⟨w2,z2.sameBut hs hcc⟩
  ·obtain⟨e,n,ne,nf,d⟩:=I.pin p hp
   refine⟨(hs.2 p.1 ?_).trans e,n,ne,nf,d⟩;intro q;rw[q,hoc] at e;have q':oc=p.2:=aIz e;exact d w' (by rw[<- q'];exact hocd)
theorem NJ {M:Model}{A:Around}{E:Value->Shared->Prop}{i:Nat}{x:Str}{v:V}{u:Value}{Q:Unit->Shared->Prop}(I:Inv X pins σ H s) (hN:X.N.Nodup) (hi:X.N[i]?=some x) (hx:Loc X.env.scope x) (r:aT v u)
  (h:∀ s',Inv X pins (σ.set i (some v)) H s'->Q () s') (hf:X.fn x=true\/X.env.scope.names.lookup x=some .local:=by first | exact .inl rfl | exact .inr rfl | assumption):wpAny M A (storeName X.env x u) Q E s:=
 NK I hN hi hx r (fun s' I' _=>h s' I') hf
theorem Inv.call' {s':Shared}{ch:List Addr}(I:Inv X pins σ H s) (ho:s'.os=s.os) (u:Un (frs X.stack) ch H H' s.heap s'.heap) (hok:HOk X.prog X.w H' s'.heap) (hg:AllBare s'.gens)
  (hch:∀ b∈ch,(b∈X.ex\/X.s₀.heap.objs.size<=b)/\b≠X.env.locals/\(∀ x c,X.env.cells.lookup x=some c->c≠b)/\∀ p∈X.pn++pins,p.1≠b):Inv X pins σ H' s':=by
 obtain⟨h',g',d',t',o'⟩:=s';have e:o'=s.os:=ho;subst e;exact I.call (g':=g') (t':=t') (d':=d') u hok hg hch
end
abbrev XK:=Value->Option Addr->Hp->Prop
abbrev St:=List (Option V)
abbrev VK:=V->Hp->Prop
abbrev TE:=St->Hp->VK->Prop
abbrev TT:=St->Hp->(Bool->Hp->Prop)->Prop
abbrev TA:=St->Hp->(List V->Hp->Prop)->Prop
structure Ends where
 nx:St->Hp->Prop
 rt:VK
 bk:St->Hp->Prop:=fun _ _=>False
 ct:St->Hp->Prop:=fun _ _=>False
abbrev TS:=Ends->St->Hp->Prop
def EP (X:Cx) (pins:List (Addr × Obj)) (σ:St) (Q:VK) (u:Value) (s':Shared):Prop:=∃ v H',Inv X pins σ H' s'/\aT v u/\Q v H'
def TP (X:Cx) (pins:List (Addr × Obj)) (σ:St) (Q:Bool->Hp->Prop) (b:Bool) (s':Shared):Prop:=∃ H',Inv X pins σ H' s'/\Q b H'
def AP (X:Cx) (pins:List (Addr × Obj)) (σ:St) (Q:List V->Hp->Prop) (us:List Value) (s':Shared):Prop:=∃ vs H',Inv X pins σ H' s'/\aI vs us/\Q vs H'
def SP (X:Cx) (pins:List (Addr × Obj)) (D:Ends) (f:Flow) (s':Shared):Prop:=
 match f with
 | .next=>∃ σ' H',Inv X pins σ' H' s'/\D.nx σ' H'
 | .brk=>∃ σ' H',Inv X pins σ' H' s'/\D.bk σ' H'
 | .cont=>∃ σ' H',Inv X pins σ' H' s'/\D.ct σ' H'
 | .ret u=>∃ v σ' H',Inv X pins σ' H' s'/\aT v u/\D.rt v H'
def PE (X:Cx) (e:Expr) (t:TE):Prop:=
 ∀ (pins:List (Addr × Obj)) (s:Shared) (σ:St) (H:Hp) (Q:VK),Inv X pins σ H s->t σ H Q->wpAny (model X.prog X.w) X.A (eval e X.env) (EP X pins σ Q) X.xe s
def PT (X:Cx) (e:Expr) (t:TT):Prop:=
 ∀ (pins:List (Addr × Obj)) (s:Shared) (σ:St) (H:Hp) (Q:Bool->Hp->Prop),Inv X pins σ H s->t σ H Q->wpAny (model X.prog X.w) X.A (isTrue e X.env (eval e X.env)) (TP X pins σ Q) X.xe s
def PW (X:Cx) (e:Expr) (t:TT):Prop:=
 ∀ (whole:Sem Value) (pins:List (Addr × Obj)) (s:Shared) (σ:St) (H:Hp) (Q:Bool->Hp->Prop),Inv X pins σ H s->t σ H Q->wpAny (model X.prog X.w) X.A (isTrue e X.env whole) (TP X pins σ Q) X.xe s
theorem PW.pt {X:Cx}{e:Expr}{t:TT}(h:PW X e t):PT X e t:=h _
def PA (X:Cx) (es:List Expr) (t:TA):Prop:=
 ∀ (pos:Pos) (pins:List (Addr × Obj)) (s:Shared) (σ:St) (H:Hp) (Q:List V->Hp->Prop),Inv X pins σ H s->t σ H Q->wpAny (model X.prog X.w) X.A (spliced (backTo pos (starEach es X.env))) (AP X pins σ Q) X.xe s
def PS (X:Cx) (st:Stmt) (t:TS):Prop:=
 ∀ (pins:List (Addr × Obj)) (s:Shared) (σ:St) (H:Hp) (D:Ends),Inv X pins σ H s->t D σ H->wpAny (model X.prog X.w) X.A (exec st X.env) (SP X pins D) X.xe s
def PSs (X:Cx) (st:List Stmt) (t:TS):Prop:=
 ∀ (pins:List (Addr × Obj)) (s:Shared) (σ:St) (H:Hp) (D:Ends),Inv X pins σ H s->t D σ H->wpAny (model X.prog X.w) X.A (execs st X.env) (SP X pins D) X.xe s
theorem thn {α:Type}{t:Sem α}{Q Q':α->Shared->Prop}{M:Model}{A:Around}{E:Value->Shared->Prop}{s:Shared}(h:wpAny M A t Q E s) (hQ:∀ a s,Q a s->Q' a s):wpAny M A t Q' E s:=wpAny_mono h hQ fun _ _ x=>x
section
variable {X:Cx}
def NQ (i:Nat):TE:=fun σ H Q=>∃ v,σ[i]?=some (some v)/\Q v H
def tC (v:V):TE:=fun _ H Q=>Q v H
theorem aCw {i:Nat}{x:Str}{pos:Pos}(hN:X.N[i]?=some x) (hv:Vis X.env.scope x) (hd:(x == ("__debug__" : Str))=false:=by decide) (hcd:(x == ("__classdict__" : Str))=false:=by decide):PE X (.Name x pos) (NQ i):=by
 intro pins s σ H Q I h;obtain⟨v,e,h⟩:=h;obtain⟨m,hn,hl⟩:=I.loc;obtain⟨u,r,l⟩:=hl i x v hN e hv;have fin:EP X pins σ Q u s:=⟨v,H,I,r,h⟩;rcases l with ⟨hk,hm⟩ | ⟨hk,c,hc,hcell⟩
 ·exact wpAny_Name (wpAny_loadName_local I.ok.kind hk hn hm fin) hd
 ·rcases hk with hk | hk
  ·exact wpAny_Name (wpAny_loadName_cell I.ok.kind hk hc hcell fin) hd
  ·exact wpAny_Name (wpAny_loadName_free I.ok.kind hk hc hcell fin hcd) hd
theorem aCn {i j pos}:PE X (.Constant (.int i) j pos) (tC (.int i)):=fun _ _ _ H _ I h=>wpAny_Constant_int ⟨.int i,H,I.tok _,⟨_,rfl⟩,h⟩
theorem aCj {b j pos}:PE X (.Constant (.bool b) j pos) (tC (.bl b)):=fun _ _ _ H _ I h=>Constant_bool ⟨.bl b,H,I,rfl,h⟩
theorem aCr {j pos}:PE X (.Constant .none j pos) (tC .non):=fun _ _ _ H _ I h=>Constant_none ⟨.non,H,I,rfl,h⟩
def Gl (X:Cx) (x:Str):Prop:=X.env.kindOf x=some .globalImplicit
theorem ZP {E:Value->Shared->Prop}{pins:List (Addr × Obj)}{s:Shared}{σ:St}{H:Hp}{x:Str}{u:Value}{pos:Pos}{Q:Value->Shared->Prop}(I:Inv X pins σ H s) (hg:Gl X x) (hm:X.mg x=some u) (h:Q u s)
  (hd:(x == ("__debug__" : Str))=false:=by decide):wpAny (model X.prog X.w) X.A (eval (.Name x pos) X.env) Q E s:=
 Calls.Name_function_global I.ok.kind hg (Calls.loadGlobal_global (by rw[I.ok.glob];exact I.mod.glob.keeps I.bk) hm h) hd
theorem gN {E:Value->Shared->Prop}{pins:List (Addr × Obj)}{s:Shared}{σ:St}{H:Hp}{x:Str}{u:Value}{pos:Pos}{Q:Value->Shared->Prop}(I:Inv X pins σ H s) (hg:Gl X x) (hm:X.mg x=none) (hv:bootBuiltins x=some u) (h:Q u s)
  (hn:x ≠ "__name__" := by decide) (hd:(x == ("__debug__" : Str))=false:=by decide):wpAny (model X.prog X.w) X.A (eval (.Name x pos) X.env) Q E s:=by
 obtain⟨mb,h1,h2⟩:=I.mod.blt;exact Calls.Name_function_global I.ok.kind hg (Calls.loadGlobal_builtin (by rw[I.ok.glob];exact I.mod.glob.keeps I.bk) hm (by rw[I.ok.blt];exact h1.keeps I.bk) ((h2 x hn).trans hv) h) hd
theorem aCk {x:Str}{v:V}{u:Value}{pos:Pos}(hg:Gl X x) (hm:X.mg x=none) (hv:bootBuiltins x=some u) (r:aT v u) (hn:x ≠ "__name__" := by decide) (hd:(x == ("__debug__" : Str))=false:=by decide):PE X (.Name x pos) (tC v):=
 fun _ _ _ H _ I h=>gN I hg hm hv ⟨v,H,I,r,h⟩ hn hd
def t2I (ta tb:TE) (k:Int->Int->Hp->Prop):St->Hp->Prop:=fun σ H=>ta σ H fun x H1=>tb σ H1 fun y H2=>∃ i j,x=.int i/\y=.int j/\k i j H2
variable {a b:Expr}{ta tb:TE}{pos:Pos}
def rS (p:Int->Int->Bool) (ta tb:TE):TE:=fun σ H Q=>t2I ta tb (fun i j H2=>Q (.bl (p i j)) H2) σ H
abbrev tLt:TE->TE->TE:=rS fun i j=>decide (i<j)
abbrev tLe:TE->TE->TE:=rS fun i j=>decide (i<=j)
abbrev tGt:TE->TE->TE:=rS fun i j=>decide (j<i)
abbrev tGe:TE->TE->TE:=rS fun i j=>decide (j<=i)
abbrev aGx:TE->TE->TE:=rS fun i j=>decide (i=j)
abbrev aGy:TE->TE->TE:=rS fun i j=>!decide (i=j)
def tB (t:TE):TT:=fun σ H Q=>t σ H fun x H1=>∃ c,x=.bl c/\Q c H1
variable {tA tB':TT}{rest:List Expr}
def aFf (t u:TT):TT:=fun σ H Q=>t σ H fun c H1=>if c=true then u σ H1 Q else Q false H1
def tOr (t u:TT):TT:=fun σ H Q=>t σ H fun c H1=>if c=true then Q true H1 else u σ H1 Q
def aFt (t:TT):TT:=fun σ H Q=>t σ H fun c H1=>Q (!c) H1
theorem aDm (ha:PT X a tA):PW X (.BoolOp .And [a] pos) tA:=by
 intro wh pins s σ H Q I h;refine isTrue_and (thn (ha pins s σ H Q I h) fun c s1 e=>?_);cases c with
 | true=>exact isTrue_and_nil e
 | false=>exact e
theorem aDo (ha:PT X a tA):PW X (.BoolOp .Or [a] pos) tA:=by
 intro wh pins s σ H Q I h;refine isTrue_or (thn (ha pins s σ H Q I h) fun c s1 e=>?_);cases c with
 | false=>exact isTrue_or_nil e
 | true=>exact e
theorem aDl (ha:PT X a tA) (hb:PW X (.BoolOp .And (b::rest) pos) tB'):PW X (.BoolOp .And (a::b::rest) pos) (aFf tA tB'):=by
 intro wh pins s σ H Q I h;refine isTrue_and (thn (ha pins s σ H _ I h) fun c s1 ⟨H1,I1,q1⟩=>?_);cases c with
 | true=>exact hb wh pins s1 σ H1 Q I1 q1
 | false=>exact⟨H1,I1,q1⟩
theorem aDn (ha:PT X a tA) (hb:PW X (.BoolOp .Or (b::rest) pos) tB'):PW X (.BoolOp .Or (a::b::rest) pos) (tOr tA tB'):=by
 intro wh pins s σ H Q I h;refine isTrue_or (thn (ha pins s σ H _ I h) fun c s1 ⟨H1,I1,q1⟩=>?_);cases c with
 | true=>exact⟨H1,I1,q1⟩
 | false=>exact hb wh pins s1 σ H1 Q I1 q1
theorem aDj (ha:PT X a tA):PT X (.UnaryOp .Not a pos) (aFt tA):=by
 intro pins s σ H Q I h;exact isTrue_not (ha pins s σ H (fun c H1=>Q (!c) H1) I h)
def aFg (ta tb:TE):TE:=fun σ H Q=>ta σ H fun x H1=>∃ c,x=.bl c/\if c=true then tb σ H1 Q else Q (.bl false) H1
def aFu (ta:TE):TE:=fun σ H Q=>ta σ H fun x H1=>∃ c,x=.bl c/\Q (.bl (!c)) H1
theorem aCt {op}{t:TE}(h:PE X a t):PE X (.BoolOp op [a] pos) t:=fun pins s σ H Q I hw=>BoolOp_one (h pins s σ H Q I hw)
theorem aCi (ha:PE X a ta) (hb:PE X (.BoolOp .And (b::rest) pos) tb):PE X (.BoolOp .And (a::b::rest) pos) (aFg ta tb):=by
 intro pins s σ H Q I h;refine BoolOp_and (thn (ha pins s σ H _ I h) fun v s1 ⟨x,H1,I1,r1,q1⟩=>?_);obtain⟨c,rfl,q1⟩:=q1;cases r1;refine wpAny_truthy_bool ?_;cases c with
 | true=>exact hb pins s1 σ H1 Q I1 q1
 | false=>exact⟨.bl false,H1,I1,rfl,q1⟩
theorem aCs (ha:PE X a ta):PE X (.UnaryOp .Not a pos) (aFu ta):=by
 intro pins s σ H Q I h;refine UnaryOp_ (thn (ha pins s σ H _ I h) fun v s1 ⟨x,H1,I1,r1,q1⟩=>?_);obtain⟨c,rfl,q1⟩:=q1;cases r1;exact not_of (wpAny_truthy_bool ⟨.bl (!c),H1,I1,rfl,q1⟩)
def tIf (t:TT) (ta tb:TE):TE:=fun σ H Q=>t σ H fun c H1=>if c=true then ta σ H1 Q else tb σ H1 Q
theorem aCm {c:Expr}(hc:PT X c tA) (ha:PE X a ta) (hb:PE X b tb):PE X (.IfExp c a b pos) (tIf tA ta tb):=by
 intro pins s σ H Q I h;refine wpAny_IfExp (thn (hc pins s σ H _ I h) fun d s1 ⟨H1,I1,q1⟩=>?_);cases d with
 | true=>exact ha pins s1 σ H1 Q I1 q1
 | false=>exact hb pins s1 σ H1 Q I1 q1
end
def SqL (K:PySem.W.Frag) (H:Hp) (a:Addr) (xs:List V):Prop:=
 Rd H a (.lst xs) \/
  ∃ (o:Obj) (its:Array Value) (n:Nat),K.lookup a=some o/\o.cls=.type "list" /\ o.dict=none/\o.data=.seq its n/\its.size<=sizeLine/\aI xs its.toList
def SqT (K:PySem.W.Frag) (H:Hp) (a:Addr) (xs:List V):Prop:=
 Rd H a (.tup xs) \/
  ∃ (o:Obj) (its:Array Value) (n:Nat),K.lookup a=some o/\o.cls=.type "tuple" /\ o.data=.seq its n/\its.size<=sizeLine/\aI xs its.toList
def RY:Value->Option V
 | .none=>some .non
 | .bool b=>some (.bl b)
 | .int i _=>some (.int i)
 | .str x _=>some (.str x)
 | .bytes b _=>some (.byt b)
 | .float b _=>some (.flt b)
 | .ref a=>some (.ref a)
 | .type n=>some (.ty n)
 | _=>none
theorem aT.abs {x:V}{u:Value}(r:aT x u):RY u=some x:=by
 cases x with
 | non=>cases r;rfl
 | bl _=>cases r;rfl
 | int _=>obtain⟨t,rfl⟩:=r;rfl
 | str _=>obtain⟨t,rfl⟩:=r;rfl
 | byt _=>obtain⟨t,rfl⟩:=r;rfl
 | flt _=>obtain⟨t,rfl⟩:=r;rfl
 | ref _=>cases r;rfl
 | ty _=>cases r;rfl
theorem aT.inj {x y:V}{u:Value}(r:aT x u) (q:aT y u):x=y:=aIz (r.abs.symm.trans q.abs)
theorem aI.inj:∀ {xs ys:List V}{us:List Value},aI xs us->aI ys us->xs=ys
 | _,_,_,.nil,.nil=>rfl
 | _,_,_,.cons r t,.cons r' t'=>by rw[r.inj r',aI.inj t t']
section
variable {X:Cx}{pins:List (Addr × Obj)}{σ:St}{H:Hp}{s:Shared}{a:Addr}{xs ys:List V}
theorem SqL.of {K:PySem.W.Frag}(h:H a=some (.lst xs)):SqL K H a xs:=.inl (.inl h)
theorem SqT.of {K:PySem.W.Frag}(h:H a=some (.tup xs)):SqT K H a xs:=.inl (.inl h)
theorem Inv.list (I:Inv X pins σ H s) (h:SqL X.K H a xs):∃ its:List Value,aI xs its/\PlainL s.heap a its.toArray/\xs.length<=sizeLine:=by
 rcases h with h | ⟨o,its,n,hk,hc,hd,hs,hz,r⟩
 ·obtain⟨z,its,n,r,e⟩:=h.ok I.hok
  exact⟨its,r,⟨_,n,e,rfl,rfl,rfl⟩,z⟩
 ·refine⟨its.toList,r,⟨o,n,I.kIn a o hk,hc,hd,by simpa using hs⟩,?_⟩
  have e:=r.length;simp only[Array.length_toList] at e;lia
theorem Inv.tuple (I:Inv X pins σ H s) (h:SqT X.K H a xs):∃ its:List Value,aI xs its/\IsTup s.heap a its.toArray/\xs.length<=sizeLine:=by
 rcases h with h | ⟨o,its,n,hk,hc,hs,hz,r⟩
 ·obtain⟨z,its,r,p⟩:=h.ok I.hok
  exact⟨its,r,p,z⟩
 ·refine⟨its.toList,r,⟨o,I.kIn a o hk,hc,n,by simpa using hs⟩,?_⟩
  have e:=r.length;simp only[Array.length_toList] at e;lia
theorem Inv.list_inj (I:Inv X pins σ H s) (h:SqL X.K H a xs) (h':SqL X.K H a ys):xs=ys:=by
 obtain⟨its,r,⟨o,n,e,_,_,d⟩,_⟩:=I.list h;obtain⟨its',r',⟨o',n',e',_,_,d'⟩,_⟩:=I.list h';rw[e] at e';cases e';rw[d] at d'
 injection d' with d1 _
 have:its=its':=by simpa using congrArg Array.toList d1
 subst this;exact r.inj r'
theorem Inv.tuple_inj (I:Inv X pins σ H s) (h:SqT X.K H a xs) (h':SqT X.K H a ys):xs=ys:=by
 obtain⟨its,r,⟨o,e,_,n,d⟩,_⟩:=I.tuple h;obtain⟨its',r',⟨o',e',_,n',d'⟩,_⟩:=I.tuple h';rw[e] at e';cases e';rw[d] at d'
 injection d' with d1 _
 have:its=its':=by simpa using congrArg Array.toList d1
 subst this;exact r.inj r'
end
abbrev Cx.wish (X:Cx) (E:Value->Shared->Prop):Cx:={ X with xe:=E }
abbrev Cx.nox (X:Cx):Cx:=X.wish fun _ _=>False
theorem Cx.Ok.wish {X:Cx}(ok:X.Ok) (E:Value->Shared->Prop):(X.wish E).Ok:=
 ⟨ok.mod,ok.kind,ok.glob,ok.blt,ok.above,ok.inj,ok.has,ok.cab,ok.hd,ok.frames,ok.stk,ok.exf,ok.bs,ok.bsz,ok.noex,ok.exfs,ok.funs,ok.frf⟩
theorem Cx.Ok.unwish {X:Cx}{E:Value->Shared->Prop}(ok:(X.wish E).Ok):X.Ok:=
 ⟨ok.mod,ok.kind,ok.glob,ok.blt,ok.above,ok.inj,ok.has,ok.cab,ok.hd,ok.frames,ok.stk,ok.exf,ok.bs,ok.bsz,ok.noex,ok.exfs,ok.funs,ok.frf⟩
section
variable {X:Cx}{pins:List (Addr × Obj)}{σ:St}{H:Hp}{s:Shared}{E:Value->Shared->Prop}
theorem Inv.wish (I:Inv X pins σ H s) (E:Value->Shared->Prop):Inv (X.wish E) pins σ H s:=⟨I.ok.wish E,I.os,I.bare,I.base,I.loc,I.cell,I.free,I.freeC,I.pin,I.hok,I.len⟩
theorem Inv.unwish (I:Inv (X.wish E) pins σ H s):Inv X pins σ H s:=⟨I.ok.unwish,I.os,I.bare,I.base,I.loc,I.cell,I.free,I.freeC,I.pin,I.hok,I.len⟩
theorem SP.unwish {D:Ends}{f:Flow}{s':Shared}(h:SP (X.wish E) pins D f s'):SP X pins D f s':=by
 cases f with
 | next=>obtain⟨σ',H',I,q⟩:=h;exact⟨σ',H',I.unwish,q⟩
 | brk=>obtain⟨σ',H',I,q⟩:=h;exact⟨σ',H',I.unwish,q⟩
 | cont=>obtain⟨σ',H',I,q⟩:=h;exact⟨σ',H',I.unwish,q⟩
 | ret u=>obtain⟨v,σ',H',I,r,q⟩:=h;exact⟨v,σ',H',I.unwish,r,q⟩
theorem PE.nox {e:Expr}{t:TE}(h:PE X.nox e t):PE X e t:=fun pins s σ H Q I hw=>
 wpAny_mono (h pins s σ H Q (I.wish _) hw) (fun _ _ ⟨v,H',I',r,q⟩=>⟨v,H',I'.unwish,r,q⟩) fun _ _ z=>False.elim z
theorem PT.nox {e:Expr}{t:TT}(h:PT X.nox e t):PT X e t:=fun pins s σ H Q I hw=>
 wpAny_mono (h pins s σ H Q (I.wish _) hw) (fun _ _ ⟨H',I',q⟩=>⟨H',I'.unwish,q⟩) fun _ _ z=>False.elim z
theorem PSs.nox {st:List Stmt}{t:TS}(h:PSs X.nox st t):PSs X st t:=fun pins s σ H D I hw=>
 wpAny_mono (h pins s σ H D (I.wish _) hw) (fun _ _ q=>q.unwish) fun _ _ z=>False.elim z
end
section
variable {X:Cx}{st:Stmt}{rest:List Stmt}{t u:TS}{e:Expr}{te:TE}{pos:Pos}
def aFq:TS:=fun D σ H=>D.nx σ H
def aFy (t u:TS):TS:=fun D σ H=>t { D with nx:=u D } σ H
theorem aDg:PSs X [] aFq:=fun _ _ σ H _ I h=>wpAny_execs_nil ⟨σ,H,I,h⟩
theorem aDf (h1:PS X st t) (h2:PSs X rest u):PSs X (st::rest) (aFy t u):=by
 intro pins s σ H D I h;refine wpAny_execs_cons (thn (h1 pins s σ H { D with nx:=u D } I h) fun f s1 q=>?_);cases f with
 | next=>
  obtain⟨σ',H',I',q⟩:=q;exact h2 pins s1 σ' H' D I' q
 | ret v=>exact q
 | brk=>exact q
 | cont=>exact q
theorem aDh (h1:PS X st t):PSs X [st] t:=by
 intro pins s σ H D I h;refine wpAny_execs_cons (thn (h1 pins s σ H D I h) fun f s1 q=>?_);cases f with
 | next=>exact wpAny_execs_nil q
 | ret v=>exact q
 | brk=>exact q
 | cont=>exact q
theorem Inv.quiet {pins:List (Addr × Obj)}{σ:St}{H:Hp}{s:Shared}(I:Inv X pins σ H s):interactive X.env=false:=by simp[interactive,I.ok.kind]
def aFk (te:TE):TS:=fun D σ H=>te σ H fun _ H1=>D.nx σ H1
theorem yD (he:PE X e te) (hs:swapsWith e none pos.line X.env=pure false:=by rfl):PS X (.Expr e pos) (aFk te):=by
 intro pins s σ H D I h;exact wpAny_Expr_any (thn (he pins s σ H _ I h) fun v s1 ⟨x,H1,I1,r1,q1⟩=>⟨σ,H1,I1,q1⟩) I.quiet hs
def aFw (te:TE):TS:=fun D σ H=>te σ H D.rt
theorem aDd (he:PE X e te):PS X (.Return (some e) pos) (aFw te):=by
 intro pins s σ H D I h;exact wpAny_Return_some (thn (he pins s σ H _ I h) fun v s1 ⟨x,H1,I1,r1,q1⟩=>⟨x,σ,H1,I1,r1,q1⟩)
def aFo (c:TT) (t u:TS):TS:=fun D σ H=>c σ H fun b H1=>if b=true then t D σ H1 else u D σ H1
theorem aDc {c:Expr}{a b:List Stmt}{tc:TT}(hc:PT X c tc) (ha:PSs X a t) (hb:PSs X b u):PS X (.If c a b pos) (aFo tc t u):=by
 intro pins s σ H D I h;refine wpAny_If (thn (hc pins s σ H _ I h) fun d s1 ⟨H1,I1,q1⟩=>?_);cases d with
 | true=>exact ha pins s1 σ H1 D I1 q1
 | false=>exact hb pins s1 σ H1 D I1 q1
end
abbrev TG:=V->St->Hp->(St->Hp->Prop)->Prop
abbrev TGs:=List V->St->Hp->(St->Hp->Prop)->Prop
def PG (X:Cx) (target:Expr) (t:TG):Prop:=
 ∀ (pins:List (Addr × Obj)) (s:Shared) (σ:St) (H:Hp) (v:V) (u:Value) (Q:St->Hp->Prop),Inv X pins σ H s->aT v u->t v σ H Q ->
  wpAny (model X.prog X.w) X.A (assign target X.env u) (fun _ s'=>∃ σ' H',Inv X pins σ' H' s'/\Q σ' H') X.xe s
def PGs (X:Cx) (ts:List Expr) (t:TGs):Prop:=
 ∀ (pins:List (Addr × Obj)) (s:Shared) (σ:St) (H:Hp) (vs:List V) (us:List Value) (Q:St->Hp->Prop),Inv X pins σ H s->aI vs us->t vs σ H Q ->
  wpAny (model X.prog X.w) X.A (assignInOrder ((assignEach ts X.env).map (·.2)) us) (fun _ s'=>∃ σ' H',Inv X pins σ' H' s'/\Q σ' H') X.xe s
abbrev zW:=V->V->V->Hp->(Hp->Prop)->Prop
def FH (X:Cx) (t:zW):Prop:=
 ∀ (pins:List (Addr × Obj)) (s:Shared) (σ:St) (H:Hp) (o i v:V) (ov iv u:Value) (Q:Hp->Prop),Inv X pins σ H s->aT o ov->aT i iv->aT v u->t o i v H Q ->
  wpAny (model X.prog X.w) X.A (setItem ov iv u) (fun _ s'=>∃ H',Inv X pins σ H' s'/\Q H') X.xe s
abbrev TIp:=V->V->Hp->VK->Prop
section
variable {X:Cx}{pos:Pos}
def jP (i:Nat):TG:=fun v σ H Q=>Q (σ.set i (some v)) H
theorem yC {i:Nat}{x:Str}(hN:X.N.Nodup) (hi:X.N[i]?=some x) (hx:Loc X.env.scope x) (hf:X.fn x=true\/X.env.scope.names.lookup x=some .local:=by first | exact .inl rfl | exact .inr rfl | assumption):PG X (.Name x pos) (jP i):=by
 intro pins s σ H v u Q I r h;exact wpAny_assign_Name (NJ I hN hi hx r (fun s' I'=>⟨_,H,I',h⟩) hf)
def WO:TGs:=fun vs σ H Q=>vs=[]/\Q σ H
def WM (t:TG) (u:TGs):TGs:=fun vs σ H Q=>∃ v r,vs=v::r/\t v σ H fun σ' H'=>u r σ' H' Q
theorem aD0:PGs X [] WO:=by
 intro pins s σ H vs us Q I r h;obtain⟨e,h⟩:=h;subst e;cases r;exact assignInOrder_nil ⟨σ,H,I,h⟩
theorem aCz {e:Expr}{es:List Expr}{t:TG}{u:TGs}(h1:PG X e t) (h2:PGs X es u)
  (hs:(assignEach (e::es) X.env).map (·.2)=assign e X.env::(assignEach es X.env).map (·.2):=by rfl):PGs X (e::es) (WM t u):=by
 intro pins s σ H vs us Q I r h;obtain⟨v,vr,e1,h⟩:=h;subst e1;cases r with
 | cons r rr=>
  rw[hs];refine assignInOrder_cons (thn (h1 pins s σ H _ _ _ I r h) fun _ s1 ⟨σ1,H1,I1,q1⟩=>?_);exact h2 pins s1 σ1 H1 _ _ Q I1 rr q1
def hU (K:PySem.W.Frag) (n:Nat) (t:TGs):TG:=fun v σ H Q=>∃ a xs,v=.ref a/\SqT K H a xs/\xs.length=n/\t xs σ H Q
theorem LU {es:List Expr}{k:Nat}{t:TGs}{n:Nat}(hc:X.calm=true) (h:PGs X es t)
  (hn:(assignEach es X.env).length=n:=by rfl) (hst:(assignEach es X.env).findIdx? (·.1)=none:=by rfl):PG X (.Tuple es k pos) (hU X.K n t):=by
 intro pins s σ H v u Q I r hw;obtain⟨a,xs,e1,hq,hl,hw⟩:=hw;subst e1;cases r;obtain⟨its,rv,ht,hz⟩:=I.tuple hq;refine assign_Tuple_tuple (I.ok.hd hc) ht (by simp[hn,<- hl,rv.length]) hst fun h' hx=>?_;have I1:Inv X pins σ H { s with heap:=h' }:=I.kept (t':=s.toks) fun b o e=>hx b o (aLh (aJj e)) e;exact h pins _ σ H xs _ Q I1 (by simpa using rv) hw
def WP (to ti:TE) (t:zW):TG:=fun v σ H Q=>to σ H fun o H1=>ti σ H1 fun i H2=>t o i v H2 fun H3=>Q σ H3
theorem aCy {o i:Expr}{to ti:TE}{t:zW}(ho:PE X o to) (hi:PE X i ti) (hs:FH X t)
  (ha:∀ v,assign (.Subscript o i pos) X.env v=(do
   let ov <- holding [v] (eval o X.env)
   let iv <- holding [v,ov] (eval i X.env)
   standAt pos
   holding [v,ov,iv] (setItem ov iv v)
   release [v,ov,iv] []):=by intro _;rfl):PG X (.Subscript o i pos) (WP to ti t):=by
 intro pins s σ H v u Q I r h;rw[ha];refine wpAny_bind (wpAny_holding (thn (ho pins s σ H _ I h) fun ov s1 ⟨x,H1,I1,r1,q1⟩=>?_));refine wpAny_bind (wpAny_holding (thn (hi pins s1 σ H1 _ I1 q1) fun iv s2 ⟨y,H2,I2,r2,q2⟩=>?_));refine wpAny_bind (wpAny_standAt (wpAny_bind (wpAny_holding (thn (hs pins s2 σ H2 x y v ov iv u _ I2 r1 r2 r q2) fun _ s3 ⟨H3,I3,q3⟩=>?_))));exact wpAny_release ⟨σ,H3,I3,q3⟩
def zM (te:TE) (g:TG):TS:=fun D σ H=>te σ H fun x H1=>g x σ H1 D.nx
theorem aDb {tg e:Expr}{te:TE}{g:TG}(he:PE X e te) (hg:PG X tg g) (hs:swapsWithSole [tg] e pos.line X.env=pure false:=by rfl) (hw:swappedStores [tg] e X.env=pure none:=by rfl)
  (h1:(assignEach [tg] X.env).map (·.2)=[assign tg X.env]:=by rfl):PS X (.Assign [tg] e pos) (zM te g):=by
 intro pins s σ H D I h;refine wpAny_Assign_stores (thn (he pins s σ H _ I h) fun v s1 ⟨x,H1,I1,r1,q1⟩=>?_) hs hw;rw[h1];exact thn (hg pins s1 σ H1 x v _ I1 r1 q1) fun _ s2 q=>q
theorem DB {i:Nat}{x:Str}{e:Expr}{te:TE}{pos':Pos}(hN:X.N.Nodup) (hi:X.N[i]?=some x) (hx:Loc X.env.scope x) (he:PE X e te) (hs:swapsWith e (some (.Name x pos')) pos.line X.env=pure false:=by rfl) (hf:X.fn x=true\/X.env.scope.names.lookup x=some .local:=by first | exact .inl rfl | exact .inr rfl | assumption):
  PS X (.Assign [.Name x pos'] e pos) (zM te (jP i)):=by
 intro pins s σ H D I h;refine wpAny_Assign_Name (thn (he pins s σ H _ I h) fun v s1 ⟨y,H1,I1,r1,q1⟩=>?_) hs;exact NJ I1 hN hi hx r1 (fun s2 I2=>⟨_,H1,I2,q1⟩) hf
end
section
variable {X:Cx}{pos:Pos}
def aG1 (c:TT) (tb:TS):TS:=fun D σ H=>∃ W:Nat->St->Hp->Prop,(∃ m,W m σ H)/\∀ m σ H,W m σ H ->
 c σ H fun b H1=>if b=true then ∃ N:St->Hp->Prop,(∀ σ' H',N σ' H'->∃ m',m'<m/\W m' σ' H')/\tb { D with nx:=N,ct:=N,bk:=D.nx } σ H1 else D.nx σ H1
theorem aDe {c:Expr}{body:List Stmt}{tc:TT}{tb:TS}(hp:PassesOwn (model X.prog X.w) X.A X.env X.xe) (hc:PT X c tc) (hb:PSs X body tb):PS X (.While c body [] pos) (aG1 tc tb):=by
 intro pins s σ H D I h;obtain⟨W,⟨m0,w0⟩,turn⟩:=h;refine wpAny_While (codeAny_whileLoop (fun n s'=>∃ σ' H',Inv X pins σ' H' s'/\W n σ' H') ?_ m0 ⟨σ,H,I,w0⟩);rintro n s1 ⟨σ1,H1,I1,w1⟩;refine wpAny_passesOwn hp (thn (hc pins s1 σ1 H1 _ I1 (turn n σ1 H1 w1)) fun b s2 ⟨H2,I2,q2⟩=>?_);cases b with
 | true=>
  obtain⟨N,hN,q2⟩:=q2;rw[if_pos rfl];refine wpAny_passesOwn hp (thn (hb pins s2 σ1 H2 _ I2 q2) fun f s3 q3=>?_);cases f with
  | next=>
   obtain⟨σ3,H3,I3,n3⟩:=q3;obtain⟨m',hm,w3⟩:=hN σ3 H3 n3;exact⟨m',hm,σ3,H3,I3,w3⟩
  | cont=>
   obtain⟨σ3,H3,I3,n3⟩:=q3;obtain⟨m',hm,w3⟩:=hN σ3 H3 n3;exact⟨m',hm,σ3,H3,I3,w3⟩
  | brk=>exact q3
  | ret v=>exact q3
 | false=>
  rw[if_neg aJg];exact wpAny_execs_nil ⟨σ1,H2,I2,q2⟩
end
structure It where
 go:Nat->Hp->Prop
 yld:Nat->Hp->V->Hp->Prop
 stop:Nat->Hp->Prop
def fA (X:Cx) (pins:List (Addr × Obj)) (H:Hp) (b:Addr):Prop:=
 H b=none/\b≠X.env.locals/\b ∉ X.fs/\(b∈X.ex\/X.s₀.heap.objs.size<=b)/\(∀ x c,X.env.cells.lookup x=some c->c≠b)/\∀ p∈X.pn++pins,p.1≠b
theorem Inv.fpOk {X:Cx}{pins:List (Addr × Obj)}{σ:St}{H H':Hp}{s:Shared}{b:Addr}(I:Inv X pins σ H s) (hb:s.heap.objs.size<=b) (hn:H' b=none):fA X pins H' b:=by
 refine⟨hn,aLg (aJ7 I.lt hb),I.nofs hb,.inr (aL9 I.sz hb),fun x c e z=>?_,fun p hp z=>?_⟩
 ·obtain⟨v,q⟩:=I.cell x c e
  exact absurd (aJ7 q.lt (by rw[z];exact hb)) (aLa _)
 ·exact absurd (aJ7 (aJj (I.pin p hp).1) (by rw[z];exact hb)) (aLa _)
structure Turn (P:Program) (w:World) (K:PySem.W.Frag) (tg:Expr) (J:It) (fp:List Addr) (it:Addr) (tn:Nat->Heap->Prop):Prop where
 mem:it∈fp
 obj:∀ i h,tn i h->∀ b∈fp,∃ o,h.get? b=some o/\∀ v,o.data≠.cell v
 keep:∀ i h h',tn i h->(∀ b∈fp,∀ o,h.get? b=some o->h'.get? b=some o)->tn i h'
 item:∀ (X:Cx),X.prog=P->X.w=w->X.K=K->X.calm=true->∀ (i:Nat) (pins:List (Addr × Obj)) (s:Shared) (σ:St) (H:Hp) (E:Value->Shared->Prop),Inv X pins σ H s->(∀ b∈fp,fA X pins H b)->tn i s.heap->J.go i H ->
  wpAny (model P w) X.A (pyNext (.ref it)) (fun r s1=>∃ u,r=some u /\
   wpAny (model P w) X.A (letOwnedTupleGo tg (.ref it) u) (fun _ s2=>∃ x H',Inv X pins σ H' s2/\aT x u/\J.yld i H x H'/\tn (i+1) s2.heap/\∀ b∈fp,H' b=none) E s1) E s
 done:∀ (X:Cx),X.prog=P->X.w=w->X.K=K->X.calm=true->∀ (i:Nat) (pins:List (Addr × Obj)) (s:Shared) (σ:St) (H:Hp) (E:Value->Shared->Prop),Inv X pins σ H s->(∀ b∈fp,fA X pins H b)->tn i s.heap->J.stop i H ->
  wpAny (model P w) X.A (pyNext (.ref it)) (fun r s1=>r=none/\Inv X pins σ H s1) E s
 self:∀ (A:Around) (i:Nat) (s:Shared) (Q:Value->Shared->Prop) (E:Value->Shared->Prop),tn i s.heap->Q (.ref it) s->wpAny (model P w) A (pyIter (.ref it)) Q E s
abbrev TI:=St->Hp->(It->Hp->Prop)->Prop
def PIE (X:Cx) (pins:List (Addr × Obj)) (σ:St) (tg:Expr) (R:It->Hp->Prop) (itv:Value) (s2:Shared):Prop:=
 ∃ (it:Addr) (fp:List Addr) (tn:Nat->Heap->Prop) (J:It) (H':Hp),itv=.ref it/\Inv X pins σ H' s2/\Turn X.prog X.w X.K tg J fp it tn/\tn 0 s2.heap/\(∀ b∈fp,fA X pins H' b)/\R J H'
def PI (X:Cx) (tg iter:Expr) (wi:TI):Prop:=
 ∀ (pins:List (Addr × Obj)) (s:Shared) (σ:St) (H:Hp) (R:It->Hp->Prop),Inv X pins σ H s->wi σ H R ->
  wpAny (model X.prog X.w) X.A (eval iter X.env) (fun v s1=>wpAny (model X.prog X.w) X.A (pyIter v) (PIE X pins σ tg R) X.xe s1) X.xe s
theorem IL {M:Model}{A:Around}{E:Value->Shared->Prop}{s:Shared}{tg:Expr}{it:Addr}{u:Value}{o:Obj}{n:String}{vs:Array Value}{Q:Unit->Shared->Prop}(ho:s.heap.get? it=some o) (hc:o.cls=.type n) (hd:o.data=.fields vs)
    (hn:["enumerate","zip","dict_itemiterator","dict_reverseitemiterator","odict_iterator","itertools.zip_longest","itertools.pairwise"].contains n=false) (hQ:Q () s):wpAny M A (letOwnedTupleGo tg (.ref it) u) Q E s:=by
  unfold letOwnedTupleGo;cases tg<;>first
    | exact wpAny_pure hQ
    | (cases u<;>first
        | exact wpAny_pure hQ
        | (refine wpAny_bind (wpAny_load ho ?_)
           rw[hc,hd];show wpAny M A (if (["enumerate","zip","dict_itemiterator","dict_reverseitemiterator","odict_iterator","itertools.zip_longest","itertools.pairwise"].contains n&&vs[0]? == some (rawInt _))=true then _ else _) Q E s;rw[if_neg (by intro h;rw[hn,Bool.false_and] at h;cases h)];exact wpAny_pure hQ))
def Itl (K:PySem.W.Frag) (a:Addr):It:=
 ⟨fun i H=>∃ xs x,SqL K H a xs/\xs[i]?=some x,fun i H x H'=>H'=H/\∀ xs,SqL K H a xs->xs[i]?=some x,fun i H=>∃ xs,SqL K H a xs/\xs.length<=i⟩
def Itr (lo:Int) (n:Nat):It:=⟨fun i _=>i<n,fun i H x H'=>H'=H/\x=.int (lo+i),fun i _=>n<=i⟩
theorem aGd {P:Program}{w:World}{K:PySem.W.Frag}{tg:Expr}(a it:Addr):Turn P w K tg (Itl K a) [it] it (fun i h=>h.IsListIter it a i) where
 mem:=by simp
 obj:=fun i h st b hb=>by
  have e:b=it:=by simpa using hb
  subst e;obtain⟨o,e,c,d⟩:=st;exact⟨o,e,fun v z=>by rw[d] at z;cases z⟩
 keep:=fun i h h' st k=>st.at fun o e=>k it (by simp) o e
 item:=by
  intro X hP hw hK hc i pins s σ H E I hf st hg;subst hP hw hK;obtain⟨xs,x,hq,hx⟩:=hg;obtain⟨its,rv,p,hz⟩:=I.list hq;obtain⟨u,hu,ru⟩:=rv.get hx;obtain⟨f0,f1,f2,f3,f4,f5⟩:=hf it (by simp);refine wpAny_pyNext_list_item st p.isList (x:=u) (by simpa using hu) fun h' st' sb=>?_;have I1:Inv X pins σ H { s with heap:=h' }:=I.turned (t':=s.toks) (fun b o hb e=>(sb.2 b hb).trans e) f0 f1 f3 f4 f5;obtain⟨o,e,c,d⟩:=id st';exact⟨u,rfl,IL (s:={ s with heap:=h' }) e c d (by decide) ⟨x,H,I1,ru,⟨rfl,fun ys hy=>by rw[I.list_inj hy hq];exact hx⟩,st',fun b hb=>(hf b hb).1⟩⟩
 done:=by
  intro X hP hw hK hc i pins s σ H E I hf st hg;subst hP hw hK;obtain⟨xs,hq,hx⟩:=hg;obtain⟨its,rv,p,hz⟩:=I.list hq;obtain⟨f0,f1,f2,f3,f4,f5⟩:=hf it (by simp);have hl:=rv.length;exact wpAny_pyNext_list_end (I.ok.hd hc) st p.isList (by simp;lia) fun h' eb=>⟨rfl,I.turned (t':=s.toks) (fun b o hb e=>eb b o hb e) f0 f1 f3 f4 f5⟩
 self:=fun _ _ _ _ _ st h=>wpAny_pyIter_listiter st h
theorem aGe {P:Program}{w:World}{K:PySem.W.Frag}{tg:Expr}(it:Addr) (lo:Int) (n:Nat):Turn P w K tg (Itr lo n) [it] it (fun i h=>IsRangeIter h it (lo+(i:Nat)*1) ((n:Int)-(i:Nat)) 1) where
 mem:=by simp
 obj:=fun i h st b hb=>by
  have e:b=it:=by simpa using hb
  subst e;exact⟨_,st,fun v z=>by
   have z':Data.fields _=Data.cell v:=z;cases z'⟩
 keep:=fun i h h' st k=>k it (by simp) _ st
 item:=by
  intro X hP hw hK hc i pins s σ H E I hf st hg;subst hP hw hK;obtain⟨f0,f1,f2,f3,f4,f5⟩:=hf it (by simp);have W:=Walks.range (prog:=X.prog) (w:=X.w) (I.ok.hd hc) it lo 1 n;refine W.item i s _ _ hg st fun v h' tk hv st' kk=>?_;obtain⟨t,rfl⟩:=hv;have I1:Inv X pins σ H { s with heap:=h',toks:=tk }:=I.turned (fun b o hb e=>kk b o (by simpa using hb) e) f0 f1 f3 f4 f5;refine⟨_,rfl,IL (s:={ s with heap:=h',toks:=tk }) (n := "range_iterator") st' rfl rfl (by decide) ⟨.int (lo+i),H,I1,⟨t,?_⟩,⟨rfl,rfl⟩,st',fun b hb=>(hf b hb).1⟩⟩;rw[Int.mul_one]
 done:=by
  intro X hP hw hK hc i pins s σ H E I hf st hg;subst hP hw hK;obtain⟨f0,f1,f2,f3,f4,f5⟩:=hf it (by simp);exact wpAny_pyNext_range_end (I.ok.hd hc) st (by have:n<=i:=hg;lia) fun h' eb=>⟨rfl,I.turned (t':=s.toks) (fun b o hb e=>eb b o hb e) f0 f1 f3 f4 f5⟩
 self:=fun _ _ _ _ _ st h=>wpAny_pyIter_rangeiter st h
section
variable {X:Cx}{tg:Expr}
theorem MD {pins:List (Addr × Obj)}{σ:St}{H:Hp}{s:Shared}{R:It->Hp->Prop}{E:Value->Shared->Prop}{lo hi:Int}{t u v:Tok}{tk:Nat}(I:Inv X pins σ H s) (h1 : -(2^62)<=lo) (h2:lo<2^62) (h3 : -(2^62)<=hi) (h4:hi<2^62)
  (q:R (Itr lo (hi-lo).toNat) H):wpAny (model X.prog X.w) X.A (pyIter (.ref s.heap.objs.size)) (PIE X pins σ tg R) E { s with heap:=s.heap.push { cls:=.type "range",data:=.fields #[.int lo t,.int hi u,.int 1 v] },toks:=tk }:=by
 refine wpAny_pyIter_range (IsRange.new ..) (small_one h1 h2 h3 h4) ?_;have I1:Inv X pins σ H { s with heap:=s.heap.push { cls:=.type "range",data:=.fields #[.int lo t,.int hi u,.int 1 v] },toks:=tk }:=I.kept fun b o e=>aJa _ e;refine⟨(s.heap.push { cls:=.type "range",data:=.fields #[.int lo t,.int hi u,.int 1 v] }).objs.size,[(s.heap.push { cls:=.type "range",data:=.fields #[.int lo t,.int hi u,.int 1 v] }).objs.size],_,_,H,rfl,
  I1.kept (t':=tk) fun b o e=>aJa _ e,aGe _ lo (hi-lo).toNat,?_,fun b hb=>?_,q⟩
 ·have e1:lo+((0:Nat):Int)*1=lo:=by simp
  have e2:(((hi-lo).toNat:Nat):Int)-((0:Nat):Int)=Builtin.Range.rangeSize lo hi 1:=by rw[rangeSize_one];split<;>lia
  show IsRangeIter _ _ (lo+((0:Nat):Int)*1) ((((hi-lo).toNat:Nat):Int)-((0:Nat):Int)) 1;rw[e1,e2];exact aJi _ rfl
 ·have e:b=(s.heap.push { cls:=.type "range",data:=.fields #[.int lo t,.int hi u,.int 1 v] }).objs.size:=by simpa using hb
  subst e;exact I1.fpOk (aL8 _) (I1.hok.fresh (aL8 _))
def YD (ta:TA):TI:=fun σ H R=>ta σ H fun vs H1=>∃ j:Int,vs=[.int j] /\ -(2^62)<=j/\j<2^62/\R (Itr 0 j.toNat) H1
def YE (ta:TA):TI:=fun σ H R=>ta σ H fun vs H1=>∃ i j:Int,vs=[.int i,.int j]/\(-(2^62)<=i/\i<2^62 /\ -(2^62)<=j/\j<2^62)/\R (Itr i (j-i).toNat) H1
theorem aD2 {a:Expr}{ta:TA}{p pos:Pos}(hg:Gl X "range") (hm:X.mg "range" = none) (ha:PA X [a] ta) (hs:starEach [a] X.env=[(false,eval a X.env)]:=by rfl):PI X tg (.Call (.Name "range" p) [a] [] pos) (YD ta):=by
 intro pins s σ H R I h;refine Call_ (gN I hg hm boot_range (aLu (thn (ha pos pins s σ H _ I h) fun us s1 ⟨vs,H1,I1,r1,q1⟩=>?_) hs rfl));obtain⟨j,e,q1,q2,q⟩:=q1;subst e;cases r1 with
 | cons r rr=>
  cases rr;obtain⟨t,rfl⟩:=r;exact call_range_1 (MD I1 (by lia) (by lia) q1 q2 (by simpa using q))
theorem aD3 {a b:Expr}{ta:TA}{p pos:Pos}(hg:Gl X "range") (hm:X.mg "range" = none) (ha:PA X [a,b] ta) (hs:starEach [a,b] X.env=[(false,eval a X.env),(false,eval b X.env)]:=by rfl) (hs2:starEach [b] X.env=[(false,eval b X.env)]:=by rfl):
  PI X tg (.Call (.Name "range" p) [a,b] [] pos) (YE ta):=by
 intro pins s σ H R I h;refine Call_ (gN I hg hm boot_range (aLu (thn (ha pos pins s σ H _ I h) fun us s1 ⟨vs,H1,I1,r1,q1⟩=>?_) (by rw[hs,hs2]) (by rw[hs2];rfl)));obtain⟨i,j,e,⟨q1,q2,q3,q4⟩,q⟩:=q1;subst e;cases r1 with
 | cons r rr=>
  cases rr with
  | cons r' rr=>
   cases rr;obtain⟨t,rfl⟩:=r;obtain⟨t',rfl⟩:=r';exact call_range_2 (MD I1 q1 q2 q3 q4 q)
def aFl (wi:TI) (g:TG) (tb:TS):TS:=fun D σ H=>wi σ H fun J H1=>∃ W:Nat->Nat->St->Hp->Prop,(∃ m,W 0 m σ H1)/\∀ i m σ H,W i m σ H ->
 (J.stop i H/\D.nx σ H)\/(J.go i H/\∃ N:St->Hp->Prop,(∀ σ' H',N σ' H'->∃ m',m'<m/\W (i+1) m' σ' H')/\∀ x H',J.yld i H x H'->g x σ H' fun σ2 H2=>tb { D with nx:=N,ct:=N,bk:=D.nx } σ2 H2)
def tR (fp:List Addr) (h:Heap):List (Addr × Obj):=fp.filterMap fun b=>(h.get? b).map fun o=>(b,o)
theorem xL {fp:List Addr}{h:Heap}{b:Addr}{o:Obj}(hb:b∈fp) (e:h.get? b=some o):(b,o)∈tR fp h:=List.mem_filterMap.mpr ⟨b,hb,by rw[e];rfl⟩
theorem aAl {fp:List Addr}{h:Heap}{p:Addr × Obj}(hp:p∈tR fp h):p.1∈fp/\h.get? p.1=some p.2:=by
 obtain⟨b,hb,e⟩:=List.mem_filterMap.mp hp;cases q:h.get? b with
 | none=>rw[q] at e;cases e
 | some o=>
  rw[q] at e;have e':(b,o)=p:=aIz e;subst e';exact⟨hb,q⟩
theorem Inv.pinned {pins:List (Addr × Obj)}{σ:St}{H:Hp}{s:Shared}{fp:List Addr}(I:Inv X pins σ H s) (hf:∀ b∈fp,fA X pins H b) (ho:∀ b∈fp,∃ o,s.heap.get? b=some o/\∀ v,o.data≠.cell v):Inv X (pins++tR fp s.heap) σ H s:=
 I.pins_of fun p hp=>(aKr.mp hp).elim (fun z=>I.pin p (aKt _ z)) fun z=>by
  obtain⟨hb,e⟩:=aAl z;obtain⟨f0,f1,f2,_⟩:=hf p.1 hb;obtain⟨o,e',d⟩:=ho p.1 hb;rw[e] at e';cases e';exact⟨e,f0,f1,f2,d⟩
theorem Inv.unpinned {pins pl:List (Addr × Obj)}{σ:St}{H:Hp}{s:Shared}(I:Inv X (pins++pl) σ H s):Inv X pins σ H s:=I.pins_of fun p hp=>I.pin p (aKt _ (List.mem_append_left _ hp))
theorem LX {iter : Expr} {body : List Stmt} {wi : TI} {g : TG} {tb : TS} {pos : Pos} (hp : PassesOwn (model X.prog X.w) X.A X.env X.xe) (hc : X.calm = true) (hi : PI X tg iter wi) (hg : PG X tg g) (hb : PSs X body tb)
  (hs : ∀ x, foldedSetIterable iter X.env x = pure x := by intro _; rfl) : PS X (.For tg iter body [] pos) (aFl wi g tb) := by
 intro pins s σ H D I h;refine wpAny_For (thn (hi pins s σ H _ I h) fun v s1 h1 => thn h1 fun itv s2 h2 => ?_) hs;obtain ⟨it, fp, tn, J, H2, e, I2, T, st2, f2, W, ⟨m0, w0⟩, turn⟩ := h2;subst e
 -- what stays true of the iterator's objects through the loop
 have stat : ∀ {H' : Hp}, (∀ b ∈ fp, H' b = none) -> ∀ b ∈ fp, fA X pins H' b := fun hn b hb => ⟨hn b hb, (f2 b hb).2⟩;refine codeAny_forLoop_any (fun n s' => ∃ i σ' H', Inv X pins σ' H' s' /\ tn i s'.heap /\ (∀ b ∈ fp, H' b = none) /\ W i n σ' H') ?_ m0 ⟨0, σ, H2, I2, st2, fun b hb => (f2 b hb).1, w0⟩;rintro n s3 ⟨i, σ3, H3, I3, st3, fr3, w3⟩;rcases turn i n σ3 H3 w3 with ⟨stop, qn⟩ | ⟨go, N, hN, step⟩
 ·refine wpAny_passesOwn hp (thn (T.done X rfl rfl rfl hc i pins s3 σ3 H3 X.xe I3 (stat fr3) st3 stop) fun r s4 ⟨hr, I4⟩ => ?_)
  subst hr;exact wpAny_execs_nil ⟨σ3, H3, I4, qn⟩
 ·refine wpAny_passesOwn hp (thn (T.item X rfl rfl rfl hc i pins s3 σ3 H3 X.xe I3 (stat fr3) st3 go) fun r s4 ⟨u, hr, h4⟩ => ?_)
  subst hr;refine wpAny_passesOwn hp (thn h4 fun _ s5 ⟨x, H5, I5, r5, y5, st5, fr5⟩ => ?_);have I5' := I5.pinned (stat fr5) (T.obj _ _ st5);refine wpAny_passesOwn hp (thn (hg _ s5 σ3 H5 x u _ I5' r5 (step x H5 y5)) fun _ s6 ⟨σ6, H6, I6, q6⟩ => ?_);refine wpAny_passesOwn hp (thn (hb _ s6 σ6 H6 _ I6 q6) fun f s7 q7 => ?_);have again : ∀ {σ7 : St} {H7 : Hp}, Inv X (pins ++ tR fp s5.heap) σ7 H7 s7 -> N σ7 H7 -> ∃ m, m < n /\ ∃ i σ' H', Inv X pins σ' H' s7 /\ tn i s7.heap /\ (∀ b ∈ fp, H' b = none) /\ W i m σ' H' := fun {σ7 H7} I7 n7 => by
   obtain ⟨m', hm, w7⟩ := hN σ7 H7 n7;refine ⟨m', hm, i + 1, σ7, H7, I7.unpinned, T.keep _ _ _ st5 fun b hb o e => (I7.pin (b, o) (aKt _ (aKt _ (xL hb e)))).1, fun b hb => ?_, w7⟩;obtain ⟨o, e, d⟩ := T.obj _ _ st5 b hb;exact (I7.pin (b, o) (aKt _ (aKt _ (xL hb e)))).2.1
  cases f with
  | next => obtain ⟨σ7, H7, I7, n7⟩ := q7; exact again I7 n7
  | cont => obtain ⟨σ7, H7, I7, n7⟩ := q7; exact again I7 n7
  | brk => obtain ⟨σ7, H7, I7, q7⟩ := q7; exact ⟨σ7, H7, I7.unpinned, q7⟩
  | ret v => obtain ⟨x7, σ7, H7, I7, r7, q7⟩ := q7; exact ⟨x7, σ7, H7, I7.unpinned, r7, q7⟩
end
abbrev R2:=V->V->Hp->VK->Prop
def OpR (X:Cx) (f:Value->Value->Sem Value) (r:R2):Prop:=
 ∀ (pins:List (Addr × Obj)) (s:Shared) (σ:St) (H:Hp) (x y:V) (v u:Value) (Q:VK),Inv X pins σ H s->aT x v->aT y u->r x y H Q ->
  wpAny (model X.prog X.w) X.A (f v u) (EP X pins σ Q) X.xe s
def UnR (X:Cx) (f:Value->Sem Value) (r:V->Hp->VK->Prop):Prop:=
 ∀ (pins:List (Addr × Obj)) (s:Shared) (σ:St) (H:Hp) (x:V) (v:Value) (Q:VK),Inv X pins σ H s->aT x v->r x H Q ->
  wpAny (model X.prog X.w) X.A (f v) (EP X pins σ Q) X.xe s
def eR (X:Cx) (f:Value) (r:List V->Hp->VK->Prop):Prop:=
 ∀ (pins:List (Addr × Obj)) (s:Shared) (σ:St) (H:Hp) (xs:List V) (us:List Value) (Q:VK),Inv X pins σ H s->aI xs us->r xs H Q ->
  wpAny (model X.prog X.w) X.A (call f us) (EP X pins σ Q) X.xe s
def RU (X:Cx) (r:V->Hp->(Bool->Hp->Prop)->Prop):Prop:=
 ∀ (pins:List (Addr × Obj)) (s:Shared) (σ:St) (H:Hp) (x:V) (v:Value) (Q:Bool->Hp->Prop),Inv X pins σ H s->aT x v->r x H Q ->
  wpAny (model X.prog X.w) X.A (truthy v) (TP X pins σ Q) X.xe s
def tOp (r:R2) (ta tb:TE):TE:=fun σ H Q=>ta σ H fun x H1=>tb σ H1 fun y H2=>r x y H2 Q
def tUn (r:V->Hp->VK->Prop) (ta:TE):TE:=fun σ H Q=>ta σ H fun x H1=>r x H1 Q
def rI (C:Int->Int->Prop) (g:Int->Int->V):R2:=fun x y H Q=>∃ i j,x=.int i/\y=.int j/\C i j/\Q (g i j) H
def rI0 (g:Int->Int->V):R2:=fun x y H Q=>∃ i j,x=.int i/\y=.int j/\Q (g i j) H
def rU (g:Int->V):V->Hp->VK->Prop:=fun x H Q=>∃ i,x=.int i/\Q (g i) H
section
variable {X:Cx}{a b c:Expr}{ta tb tc:TE}{pos:Pos}
theorem AB (ha:PE X a ta) (hb:PE X b tb) {pins:List (Addr × Obj)}{s:Shared}{σ:St}{H:Hp}{R:V->V->Hp->Prop}(I:Inv X pins σ H s)
  (h:ta σ H fun x H1=>tb σ H1 fun y H2=>R x y H2) {Q:Value->Shared->Prop} {f:Value->Value->Sem Value}
  (hf:∀ v u s2 x y H2,Inv X pins σ H2 s2->aT x v->aT y u->R x y H2->wpAny (model X.prog X.w) X.A (f v u) Q X.xe s2):
  wpAny (model X.prog X.w) X.A (eval a X.env) (fun v s₁=>wpAny (model X.prog X.w) X.A (eval b X.env) (fun u s₂=>wpAny (model X.prog X.w) X.A (f v u) Q X.xe s₂) X.xe s₁) X.xe s:=by
 refine thn (ha pins s σ H _ I h) fun v s1 ⟨x,H1,I1,r1,q1⟩=>?_;refine thn (hb pins s1 σ H1 _ I1 q1) fun u s2 ⟨y,H2,I2,r2,q2⟩=>?_;exact hf v u s2 x y H2 I2 r1 r2 q2
theorem DA {op:Operator}{r:R2}(ho:OpR X (binaryOp op) r) (ha:PE X a ta) (hb:PE X b tb):PE X (.BinOp a op b pos) (tOp r ta tb):=by
 intro pins s σ H Q I h;exact wpAny_BinOp (AB ha hb I h fun v u s2 x y H2 I2 rx ry q=>ho pins s2 σ H2 x y v u Q I2 rx ry q)
theorem aCv {op:UnaryOp}{r:V->Hp->VK->Prop}(ho:UnR X (unaryOp op) r) (ha:PE X a ta):PE X (.UnaryOp op a pos) (tUn r ta):=by
 intro pins s σ H Q I h;exact UnaryOp_ (thn (ha pins s σ H _ I h) fun v s1 ⟨x,H1,I1,r1,q1⟩=>ho pins s1 σ H1 x v Q I1 r1 q1)
theorem opI {f:Value->Value->Sem Value}{C:Int->Int->Prop}{g:Int->Int->Int}
  (rule:∀ (i j:Int) (t u:Tok) (s:Shared) (Q:Value->Shared->Prop) (E:Value->Shared->Prop),C i j->Q (.int (g i j) s.toks) { s with toks:=s.toks+1 }->wpAny (model X.prog X.w) X.A (f (.int i t) (.int j u)) Q E s):
  OpR X f (rI C fun i j=>.int (g i j)):=by
 intro pins s σ H x y v u Q I rx ry h;obtain⟨i,j,rfl,rfl,hc,q⟩:=h;obtain⟨t,rfl⟩:=rx;obtain⟨t',rfl⟩:=ry;exact rule i j t t' s _ _ hc ⟨.int (g i j),H,I.tok _,⟨_,rfl⟩,q⟩
theorem tK {f:Value->Value->Sem Value}{g:Int->Int->Int}
  (rule:∀ (i j:Int) (t u:Tok) (s:Shared) (Q:Value->Shared->Prop) (E:Value->Shared->Prop),Q (.int (g i j) s.toks) { s with toks:=s.toks+1 }->wpAny (model X.prog X.w) X.A (f (.int i t) (.int j u)) Q E s):
  OpR X f (rI0 fun i j=>.int (g i j)):=by
 intro pins s σ H x y v u Q I rx ry h;obtain⟨i,j,rfl,rfl,q⟩:=h;obtain⟨t,rfl⟩:=rx;obtain⟨t',rfl⟩:=ry;exact rule i j t t' s _ _ ⟨.int (g i j),H,I.tok _,⟨_,rfl⟩,q⟩
theorem CV {f:Value->Value->Sem Value}{g:Int->Int->Bool}
  (rule:∀ (i j:Int) (t u:Tok) (s:Shared) (Q:Value->Shared->Prop) (E:Value->Shared->Prop),Q (.bool (g i j)) s->wpAny (model X.prog X.w) X.A (f (.int i t) (.int j u)) Q E s):
  OpR X f (rI0 fun i j=>.bl (g i j)):=by
 intro pins s σ H x y v u Q I rx ry h;obtain⟨i,j,rfl,rfl,q⟩:=h;obtain⟨t,rfl⟩:=rx;obtain⟨t',rfl⟩:=ry;exact rule i j t t' s _ _ ⟨.bl (g i j),H,I,rfl,q⟩
def EL (i j:Int):Prop:=0<=j/\j<=1000000/\i.natAbs<2^64
def EK (i j:Int):Prop:=(-(2^64)<i/\i<2^64)\/(-(2^64)<j/\j<2^64)
theorem EK.ok {i j:Int}(h:EK i j):IntMulOk i j:=by
 rcases h with ⟨h1,h2⟩ | ⟨h1,h2⟩
 ·exact .of_left (intBits_le_64 h1 h2)
 ·exact .of_right (intBits_le_64 h1 h2)
theorem aGh (k:Nat):(0:Int)<=2^k:=by
 rw[two_pow_cast];exact Int.natCast_nonneg _
theorem aBz:OpR X (binaryOp .Add) (rI0 fun i j=>.int (i+j)):=tK fun _ _ _ _ _ _ _ q=>add_int q
theorem aCe:OpR X (binaryOp .Sub) (rI0 fun i j=>.int (i-j)):=tK fun _ _ _ _ _ _ _ q=>sub_int q
theorem aC5:OpR X (binaryOp .Mod) (rI (fun _ j=>0<j) fun i j=>.int (i%j)):=opI fun i j _ _ _ _ _ hc q=>by
 have h1:(0:Int)<j:=hc;exact mod_int' (by lia) (by rw[Int.fmod_eq_emod_of_nonneg i (by lia)];exact q)
theorem aCc:OpR X (binaryOp .LShift) (rI EL fun i j=>.int (i*2^j.toNat)):=opI fun _ _ _ _ _ _ _ hc q=>lshift_int_small hc.1 hc.2.1 hc.2.2 q
theorem aCd:OpR X (binaryOp .RShift) (rI (fun _ j=>0<=j) fun i j=>.int (i / 2^j.toNat)):=opI fun i j _ _ _ _ _ hc q=>
 rshift_int hc (by rw[Int.fdiv_eq_ediv_of_nonneg i (aGh _)];exact q)
theorem aC0:OpR X (binaryOp .BitAnd) (rI0 fun i j=>.int (Builtin.bitAnd i j)):=tK fun _ _ _ _ _ _ _ q=>and_int q
theorem aC9:OpR X (binaryOp .BitOr) (rI0 fun i j=>.int (Builtin.bitOr i j)):=tK fun _ _ _ _ _ _ _ q=>or_int q
theorem aCf:OpR X (binaryOp .BitXor) (rI0 fun i j=>.int (Builtin.bitXor i j)):=tK fun _ _ _ _ _ _ _ q=>xor_int q
theorem unI {f:Value->Sem Value}{g:Int->Int}
  (rule:∀ (i:Int) (t:Tok) (s:Shared) (Q:Value->Shared->Prop) (E:Value->Shared->Prop),Q (.int (g i) s.toks) { s with toks:=s.toks+1 }->wpAny (model X.prog X.w) X.A (f (.int i t)) Q E s):
  UnR X f (rU fun i=>.int (g i)):=by
 intro pins s σ H x v Q I rx h;obtain⟨i,rfl,q⟩:=h;obtain⟨t,rfl⟩:=rx;exact rule i t s _ _ ⟨.int (g i),H,I.tok _,⟨_,rfl⟩,q⟩
theorem aGi:UnR X (unaryOp .USub) (rU fun i=>.int (-i)):=unI fun _ _ _ _ _ q=>neg_int q
end
def scal:V->V->Bool
 | .non,.non=>true | .non,.int _=>true | .int _,.non=>true | .non,.bl _=>true | .bl _,.non=>true | .non,.str _=>true | .str _,.non=>true
 | .int _,.int _=>true | .bl _,.bl _=>true | .str _,.str _=>true | .byt _,.byt _=>true
 | .int _,.str _=>true | .str _,.int _=>true | .bl _,.str _=>true | .str _,.bl _=>true
 | _,_=>false
section
variable {X:Cx}{a b c:Expr}{ta tb tc:TE}{pos:Pos}
theorem AU {pins:List (Addr × Obj)}{σ:St}{H:Hp}{s:Shared}{Q:VK}{k k':Bool}(I:Inv X pins σ H s) (q:Q (.bl k) H) (e:k=k'):EP X pins σ Q (.bool k') s:=by
 subst e;exact⟨.bl k,H,I,rfl,q⟩
theorem LL:OpR X (compareOp .Lt) (rI0 fun i j=>.bl (decide (i<j))):=CV fun _ _ _ _ _ _ _ q=>lt_int q
theorem aC3:OpR X (compareOp .Gt) (rI0 fun i j=>.bl (decide (j<i))):=CV fun _ _ _ _ _ _ _ q=>gt_int q
theorem aC2:OpR X (compareOp .GtE) (rI0 fun i j=>.bl (decide (j<=i))):=CV fun _ _ _ _ _ _ _ q=>ge_int q
theorem LJ:OpR X (compareOp .Is) (fun x y H Q=>y=.non/\Q (.bl (decide (x=.non))) H):=by
 intro pins s σ H x y v u Q I rx ry h;obtain⟨rfl,q⟩:=h;cases ry;refine is_none_gen (AU I q ?_);cases x<;>first
  | (cases rx;rfl)
  | (obtain⟨t,rfl⟩:=rx;rfl)
theorem aC8:OpR X (compareOp .IsNot) (fun x y H Q=>y=.non/\Q (.bl (!decide (x=.non))) H):=by
 intro pins s σ H x y v u Q I rx ry h;obtain⟨rfl,q⟩:=h;cases ry;refine isnot_none_gen (AU I q ?_);cases x<;>first
  | (cases rx;rfl)
  | (obtain⟨t,rfl⟩:=rx;rfl)
theorem OpR.or {f:Value->Value->Sem Value}{r r':R2}(h:OpR X f r) (h':OpR X f r'):OpR X f (fun x y H Q=>r x y H Q\/r' x y H Q):=by
 intro pins s σ H x y v u Q I rx ry q;rcases q with q | q
 ·exact h pins s σ H x y v u Q I rx ry q
 ·exact h' pins s σ H x y v u Q I rx ry q
theorem gO (b:Expr) {op:CmpOp}(h:op≠.In:=by decide) (h2:op≠.NotIn:=by decide):behindInMarks op b=false:=by
 have e1:(op == CmpOp.In)=false:=by cases op<;>first | rfl | exact absurd rfl h
 have e2:(op == CmpOp.NotIn)=false:=by cases op<;>first | rfl | exact absurd rfl h2
 cases b<;>simp[behindInMarks,e1,e2]
theorem LP {op:CmpOp}{r:R2}(ho:OpR X (compareOp op) r) (ha:PE X a ta) (hb:PE X b tb) (hm:behindInMarks op b=false):PE X (.Compare a [op] [b] pos) (tOp r ta tb):=by
 intro pins s σ H Q I h;exact wpAny_Compare1 (AB ha hb I h fun v u s2 x y H2 I2 rx ry q=>ho pins s2 σ H2 x y v u Q I2 rx ry q) hm
def aFz (t:TE):TT:=fun σ H Q=>t σ H fun x H'=>∃ k,x=.bl k/\Q k H'
theorem aDi {op:CmpOp}{r:R2}(ho:OpR X (compareOp op) r) (ha:PE X a ta) (hb:PE X b tb) (hm:behindInMarks op b=false):PT X (.Compare a [op] [b] pos) (aFz (tOp r ta tb)):=by
 intro pins s σ H Q I h;refine wpAny_isTrue_Compare1 (thn (ha pins s σ H _ I h) fun v s1 ⟨x,H1,I1,r1,q1⟩=>thn (hb pins s1 σ H1 _ I1 q1) fun u s2 ⟨y,H2,I2,r2,q2⟩=>
  thn (ho pins s2 σ H2 x y v u _ I2 r1 r2 q2) fun c s3 ⟨z,H3,I3,r3,k,e,q3⟩=>?_) hm
 subst e;cases r3;exact wpAny_truthy_bool ⟨H3,I3,q3⟩
def zX (K:PySem.W.Frag) (x:V) (H:Hp) (k:Bool):Prop:=
 match x with
 | .non=>k=false
 | .bl b=>k=b
 | .int i=>k=(i != 0)
 | .str y=>y.length<=sizeLine/\k=((y.length:Int) != 0)
 | .byt y=>y.size<=sizeLine/\k=((y.size:Int) != 0)
 | .ref p=>(∃ xs,SqL K H p xs/\k=!xs.isEmpty)\/(∃ xs,SqT K H p xs/\k=!xs.isEmpty)\/∃ kvs,H p=some (.dK kvs)/\k=!kvs.isEmpty
 | _=>False
theorem YT {κ:Type}{kvs:List (κ × V)}{vs:List (κ × Value)}(r:KV kvs vs):(!vs.isEmpty)=!kvs.isEmpty:=by
 cases r<;>rfl
theorem JP {xs:List V}{its:List Value}(r:aI xs its):(!its.toArray.isEmpty)=!xs.isEmpty:=by
 cases r<;>simp
theorem qT:(sizeLine:Nat)<2^63:=by rw[sizeLine_eq];decide
theorem aGa:RU X (fun x H Q=>∃ k,zX X.K x H k/\Q k H):=by
 intro pins s σ H x v Q I rx h;obtain⟨k,e,q⟩:=h;have hl:=qT;have hs:sizeLine=16777216:=sizeLine_eq;cases x with
 | non=>
  cases rx;have e':k=false:=e;subst e';exact truthy_none ⟨H,I,q⟩
 | bl b=>
  cases rx;have e':k=b:=e;subst e';exact wpAny_truthy_bool ⟨H,I,q⟩
 | int i=>
  obtain⟨t,rfl⟩:=rx;have e':k=(i != 0):=e;subst e';exact PySem.P.truthy_int ⟨H,I,q⟩
 | str y=>
  obtain⟨t,rfl⟩:=rx;obtain⟨hy,e'⟩:y.length<=sizeLine/\k=((y.length:Int) != 0):=e;subst e';exact PySem.P.truthy_str (by lia) ⟨H,I.tok _,q⟩
 | byt y=>
  obtain⟨t,rfl⟩:=rx;obtain⟨hy,e'⟩:y.size<=sizeLine/\k=((y.size:Int) != 0):=e;subst e';exact PySem.W.truthy_bytes (by lia) ⟨H,I.tok _,q⟩
 | ref p=>
  cases rx;have e':(∃ xs,SqL X.K H p xs/\k=!xs.isEmpty)\/(∃ xs,SqT X.K H p xs/\k=!xs.isEmpty)\/∃ kvs,H p=some (.dK kvs)/\k=!kvs.isEmpty:=e;rcases e' with ⟨xs,hx,e'⟩ | ⟨xs,hx,e'⟩ | ⟨kvs,hx,e'⟩
  ·subst e'
   obtain⟨its,r,pl,hz⟩:=I.list hx;have hlen:=r.length;exact wpAny_truthy_list pl.isList (by simp only[aJ8];lia) ⟨H,I.tok _,by rw[JP r];exact q⟩
  ·subst e'
   obtain⟨its,r,pl,hz⟩:=I.tuple hx;have hlen:=r.length;exact truthy_tuple pl (by simp only[aJ8];lia) ⟨H,I.tok _,by rw[JP r];exact q⟩
  ·subst e'
   obtain⟨hz,hS,vs,r,m⟩:kvs.length<=sizeLine/\(p == sysModules)=false/\∃ vs,KV kvs vs/\s.heap.DictOf (sU X.prog X.w) p vs:=I.hok p _ hx;have hlen:kvs.length=vs.length:=Paired.length r;exact wpAny_truthy_dict hS m (by lia) ⟨H,I.tok _,by rw[YT r];exact q⟩
 | _=>exact (show False from e).elim
theorem aDk (ha:PE X a ta) (he:∀ whole,isTrue a X.env whole=(do let v <- whole;standAt a.pos;holding [v] (truthy v))):
  PT X a (fun σ H Q=>ta σ H fun x H'=>∃ k,zX X.K x H' k/\Q k H'):=by
 intro pins s σ H Q I h;exact isTrue_plain (thn (ha pins s σ H _ I h) fun v s1 ⟨x,H1,I1,r1,q1⟩=>aGa pins s1 σ H1 x v Q I1 r1 q1) (he _)
theorem rT {x:V}{us:List Value}(r:aI [x] us):∃ u,us=[u]/\aT x u:=by
 cases r with
 | cons r1 r2=>cases r2;exact⟨_,rfl,r1⟩
theorem OJ {x y:V}{us:List Value}(r:aI [x,y] us):∃ u w',us=[u,w']/\aT x u/\aT y w':=by
 cases r with
 | cons r1 r2=>
  cases r2 with
  | cons r3 r4=>cases r4;exact⟨_,_,rfl,r1,r3⟩
theorem SR (hc:X.calm=true):eR X (.builtin "min") (fun xs H Q=>∃ i j,xs=[.int i,.int j]/\Q (.int (if j<i then j else i)) H):=by
 intro pins s σ H xs us Q I r h;obtain⟨i,j,rfl,q⟩:=h;obtain⟨u,w',rfl,⟨t,rfl⟩,⟨t',rfl⟩⟩:=OJ r;refine min_two_ints (I.ok.hd hc) fun h' tk k=>⟨_,H,I.kept k,?_,q⟩
 by_cases hj:j<i
 ·rw[if_pos hj,if_pos hj];exact⟨_,rfl⟩
 ·rw[if_neg hj,if_neg hj];exact⟨_,rfl⟩
end
structure ObjM (h:Heap) (x dx C:Addr) (mA:Str->Option Value):Prop where
 obj:h.get? x=some (PySem.W.instObj C dx)
 ns:h.Ns1 dx mA
 ne:dx≠x
section
variable {prog:Program}{w:World}{A:Around}{E:Value->Shared->Prop}{s:Shared}{K:PySem.W.Frag}{x dx C f:Addr}{mA:Str->Option Value}{name:Str}{v:Value}
end
theorem gH.none_of {o:Option Value}(r:gH none o):o=none:=by
 cases o with
 | none=>rfl
 | some u=>exact (show False from r).elim
section
variable {P:Program}{w:World}{H H':Hp}{h h':Heap}{a C dx:Addr}{fs fs':List (Str × V)}
end
structure Cls (K:PySem.W.Frag) (C:Addr):Prop where
 pg:PySem.W.plainGet K C Str.empty=true
 hd:PySem.W.hasDictIn K C=true
 po:PySem.W.plainOver K C=true
 sa:PySem.W.findIn K (.ref C) "__setattr__" = some (some (.builtin "object.__setattr__"))
theorem Cls.get {K:PySem.W.Frag}{C:Addr}(c:Cls K C) (f:Str):PySem.W.plainGet K C f=true:=c.pg
structure Con (K:PySem.W.Frag) (C:Addr) (f:Str) (v:V) (u:Value):Prop where
 at_:PySem.W.findIn K (.ref C) f=some (some u)
 rel:aT v u
 get:PySem.W.specialIn K u "__get__" = some none
 cp:PySem.W.copiedNames.contains f=false
structure Meth (K:PySem.W.Frag) (C:Addr) (m:Str) (f:Addr):Prop where
 at_:PySem.W.findIn K (.ref C) m=some (some (.ref f))
 fn:PySem.W.isFn K (.ref f)=true
 kp:PySem.W.keepIn K (.ref f)=true
section
variable {X:Cx}{pins:List (Addr × Obj)}{σ:St}{H:Hp}{s:Shared}{a C dx:Addr}{fs:List (Str × V)}{f:Str}{v:V}{A:Around}{E:Value->Shared->Prop}
theorem Inv.made (I:Inv X pins σ H s):Inv X pins σ (upd (upd H s.heap.objs.size (.own (s.heap.objs.size+1))) (s.heap.objs.size+1) (.ins C s.heap.objs.size []))
  { s with heap:=(s.heap.push PySem.W.emptyDict).push (PySem.W.instObj C s.heap.objs.size) }:=by
 have e1:(s.heap.push PySem.W.emptyDict).get? s.heap.objs.size=some PySem.W.emptyDict:=aJi s.heap rfl;have e2:((s.heap.push PySem.W.emptyDict).push (PySem.W.instObj C s.heap.objs.size)).get? (s.heap.objs.size+1)=some (PySem.W.instObj C s.heap.objs.size):=by
  have:=aJi (s.heap.push PySem.W.emptyDict) (o:=PySem.W.instObj C s.heap.objs.size) rfl
  rwa [aJk] at this
 have e3:(s.heap.push PySem.W.emptyDict).Ns s.heap.objs.size (fun _=>none):=⟨PySem.W.emptyDict,#[],_,e1,rfl,(fun e he=>absurd he (by simp)),fun _=>rfl⟩;have I1:=I.laid (a:=s.heap.objs.size) (o:=.own (s.heap.objs.size+1)) (h':=s.heap.push PySem.W.emptyDict) (t':=s.toks) (fun b u q=>aJa _ q) (aL8 _) ⟨_,e1⟩;refine I1.laid (a:=s.heap.objs.size+1) (o:=.ins C s.heap.objs.size []) (t':=s.toks) (fun b u q=>aJa _ q) (aL6 (aJk _ _)) ?_;have ne:s.heap.objs.size≠s.heap.objs.size+1:=aLh (aLd _);refine⟨by rw[aV ne,dA],aLq _,ne,e2,fun _=>none,(Heap.Ns1.of_empty e3).at fun o q=>aJa _ q,fun _=>True.intro,fun y hy=>absurd rfl hy⟩
end
section
variable {X:Cx}{o e value:Expr}{f:Str}{pos pos' tpos:Pos}{ta tv:TE}
end
section
variable {X:Cx}{pins:List (Addr × Obj)}{σ:St}{H:Hp}{s:Shared}{A:Around}{E:Value->Shared->Prop}{Q:Value->Shared->Prop}{c:Value}{b:Bool}
inductive TyOf (K : PySem.W.Frag) (H : Hp) : V -> Value -> Prop where
 | non : TyOf K H .non (.type "NoneType")
 | bl (x : Bool) : TyOf K H (.bl x) (.type "bool")
 | int (i : Int) : TyOf K H (.int i) (.type "int")
 | str (x : Str) : TyOf K H (.str x) (.type "str")
 | flt (x : UInt64) : TyOf K H (.flt x) (.type "float")
 | lst {a : Addr} {xs : List V} (e : H a = some (.lst xs)) : TyOf K H (.ref a) (.type "list")
 | frz {a : Addr} {o : Obj} {xs : List V} (e : H a = some (.frz o (.lst xs))) : TyOf K H (.ref a) (.type "list")
 | tup {a : Addr} {xs : List V} (e : H a = some (.tup xs)) : TyOf K H (.ref a) (.type "tuple")
 | dK {a : Addr} {kvs : List (Key × V)} (e : H a = some (.dK kvs)) : TyOf K H (.ref a) (.type "dict")
 | dT {a : Addr} {kvs : List (List Key × V)} (e : H a = some (.dT kvs)) : TyOf K H (.ref a) (.type "dict")
 | ins {a C dx : Addr} {fs : List (Str × V)} (e : H a = some (.ins C dx fs)) (cl : Cls K C) (ha : PySem.W.findIn K (.ref C) "__class__" = some (some (.builtin "object.__class__")))
   (hn : PySem.W.specialIn K (.builtin "object.__class__") "__get__" = some (some (.builtin "getset_descriptor.__get__"))) (htk : PySem.W.takesIn K (.builtin "object.__class__") = some true)
   (hm : PySem.W.mroIn K C (.type "object") = some true) : TyOf K H (.ref a) (.ref C)
end
structure Room (k:Nat) (A:Around):Prop where
 hd:A.handled=none
 dp:A.depth+3*k+5<recursionLimit
 un:A.units+16*k+200<cLine
theorem Room.mono {j k:Nat}{A:Around}(r:Room k A) (h:j<=k):Room j A:=⟨r.hd,by have:=r.dp;lia,by have:=r.un;lia⟩
theorem Room.deeper {k:Nat}{A:Around}(r:Room (k+1) A) (env:Env):Room k (A.deeper env):=
 ⟨r.hd,by have:=r.dp;show A.depth+1+3*k+5<_;lia,by have:=r.un;show A.units+3+16*k+200<_;lia⟩
theorem Room.in1 {k:Nat}{A:Around}(r:Room (k+1) A):Room k A.in1:=
 ⟨r.hd,by have:=r.dp;show A.depth+3*k+5<_;lia,by have:=r.un;show A.units+1+16*k+200<_;lia⟩
theorem Room.depth {k:Nat}{A:Around}(r:Room k A):A.depth<recursionLimit:=by have:=r.dp;lia
theorem Room.units {k:Nat}{A:Around}(r:Room k A):A.units+64<cLine:=by have:=r.un;lia
def aFr:TA:=fun _ H Q=>Q [] H
def aFj (ta:TE) (tr:TA):TA:=fun σ H Q=>ta σ H fun x H1=>tr σ H1 fun xs H2=>Q (x::xs) H2
section
variable {X:Cx}{e:Expr}{es:List Expr}{te:TE}{t:TA}{pos:Pos}
theorem nD:PA X [] aFr:=fun _ _ _ _ H Q I h=>Calls.spliced_nil ⟨[],H,I,.nil,h⟩
theorem jF (ha:PE X e te) (hr:PA X es t) (hs:starEach (e::es) X.env=(false,eval e X.env)::starEach es X.env:=by rfl):PA X (e::es) (aFj te t):=by
 intro pos pins s σ H Q I h;rw[hs];show wpAny _ _ (spliced ((false,eval e X.env)::backTo pos (starEach es X.env))) _ _ s;refine Calls.spliced_cons (thn (ha pins s σ H _ I h) fun u s1 ⟨x,H1,I1,r1,q1⟩=>?_);exact thn (hr pos pins s1 σ H1 _ I1 q1) fun us s2 ⟨xs,H2,I2,r2,q2⟩=>⟨x::xs,H2,I2,.cons r1 r2,q2⟩
def aG0 (t:TA):TE:=fun σ H Q=>t σ H fun xs H1=>xs.length<=sizeLine/\∀ p,H1 p=none->Q (.ref p) (upd H1 p (.tup xs))
def aFp (t:TA):TE:=fun σ H Q=>t σ H fun xs H1=>xs.length<=sizeLine/\∀ p,H1 p=none->Q (.ref p) (upd H1 p (.lst xs))
theorem LR {x1}(h:PA X es t):PE X (.Tuple es x1 pos) (aG0 t):=by
 intro pins s σ H Q I hq;refine wpAny_Tuple_spliced (thn (h pos pins s σ H _ I hq) fun us s1 ⟨xs,H1,I1,r,z,q⟩=>⟨by rw[<- r.length];exact z,?_⟩);have hf:H1 s1.heap.objs.size=none:=I1.hok.fresh (aL8 _);refine⟨.ref s1.heap.objs.size,upd H1 s1.heap.objs.size (.tup xs),I1.laid (t':=s1.toks) (fun b u e=>aJa _ e) (aL8 _) ?_,rfl,q _ hf⟩;exact⟨z,us,r,⟨_,aJi _ rfl,rfl,_,rfl⟩⟩
theorem aCq (h:PA X es t):PE X (.List es pos) (aFp t):=by
 intro pins s σ H Q I hq;refine wpAny_List_spliced (thn (h pos pins s σ H _ I hq) fun us s1 ⟨xs,H1,I1,r,z,q⟩=>⟨by rw[<- r.length];exact z,?_⟩);have hf:H1 s1.heap.objs.size=none:=I1.hok.fresh (aL8 _);refine⟨.ref s1.heap.objs.size,upd H1 s1.heap.objs.size (.lst xs),I1.laid (t':=s1.toks) (fun b u e=>aJa _ e) (aL8 _) ?_,rfl,q _ hf⟩;exact⟨z,us,0,r,aJi _ rfl⟩
end
abbrev Sp:=List V->Hp->VK->XK->Prop
abbrev CXT:=List Env->Hp->Shared->XK->Value->Shared->Prop
structure Env0 (P:Program) (w:World) (K:PySem.W.Frag) (mg:Str->Option Value) (base:Heap) (A:Around) (outer:List Env) (s:Shared) (H:Hp):Prop where
 frames:A.frames=some outer
 mod:Mod K mg base
 bs:∀ b o,base.get? b=some o->s.heap.get? b=some o/\H b=none
 bsz:base.objs.size<=s.heap.objs.size
 funs:s.heap.FunFrames base outer
 frf:∀ b∈frs outer,H b=none
 hok:HOk P w H s.heap
 bare:AllBare s.gens
def CE (outer:List Env) (P:Program) (w:World) (H:Hp) (s:Shared) (Q:VK) (u:Value) (s':Shared):Prop:=
 ∃ v H',s'.os=s.os/\AllBare s'.gens/\Un (frs outer) [] H H' s.heap s'.heap/\HOk P w H' s'.heap/\aT v u/\Q v H'
def CR (CX:CXT) (outer:List Env) (P:Program) (w:World) (H:Hp) (s:Shared) (Q:VK) (E:XK) (r:Result) (s':Shared):Prop:=
 match r with
 | .ok (.ret u)=>CE outer P w H s Q u s'
 | .ok _=>False
 | .error e=>CX outer H s E e s'
structure FnOk (P:Program) (w:World) (K:PySem.W.Frag) (mg:Str->Option Value) (base:Heap) (CX:CXT) (k:Nat) (f:Addr) (fd:FuncData) (ps:List Str) (sp:Sp):Prop where
 len:∀ vs H Q E,sp vs H Q E->vs.length=ps.length
 run:∀ (A:Around) (outer:List Env) (s:Shared) (H:Hp) (args:Args) (us:List Value) (vs:List V) (Q:VK) (E:XK),Room k A->Env0 P w K mg base A outer s H->BindsTo s fd args (ps.zip us)->aI vs us->sp vs H Q E ->
  codeAny (model P w) A (.call (.ref f) args) (CR CX outer P w H s Q E) s
theorem FnOk.mono {P:Program}{w:World}{K:PySem.W.Frag}{mg:Str->Option Value}{base:Heap}{CX:CXT}{j k:Nat}{f:Addr}{fd:FuncData}{ps:List Str}{sp:Sp}(F:FnOk P w K mg base CX j f fd ps sp) (h:j<=k):
  FnOk P w K mg base CX k f fd ps sp:=⟨F.len,fun A outer s H args us vs Q E hr=>F.run A outer s H args us vs Q E (hr.mono h)⟩
theorem FnOk.imp {P:Program}{w:World}{K:PySem.W.Frag}{mg:Str->Option Value}{base:Heap}{CX:CXT}{k:Nat}{f:Addr}{fd:FuncData}{ps:List Str}{sp sp':Sp}(F:FnOk P w K mg base CX k f fd ps sp)
  (h:∀ vs H Q E,sp' vs H Q E->sp vs H Q E):FnOk P w K mg base CX k f fd ps sp':=
 ⟨fun vs H Q E q=>F.len vs H Q E (h _ _ _ _ q),fun A outer s H args us vs Q E hr he hb hv hs=>F.run A outer s H args us vs Q E hr he hb hv (h _ _ _ _ hs)⟩
theorem Env0.in1 {P:Program}{w:World}{K:PySem.W.Frag}{mg:Str->Option Value}{base:Heap}{A:Around}{outer:List Env}{s:Shared}{H:Hp}(e:Env0 P w K mg base A outer s H):
  Env0 P w K mg base A.in1 outer s H:=⟨e.frames,e.mod,e.bs,e.bsz,e.funs,e.frf,e.hok,e.bare⟩
section
variable {X:Cx}{pins:List (Addr × Obj)}{σ:St}{H:Hp}{s s':Shared}
theorem Inv.env0 (I:Inv X pins σ H s):Env0 X.prog X.w X.K X.mg X.base X.A X.stack s H:=
 ⟨I.ok.frames,I.ok.mod,I.bs,aL9 I.ok.bsz I.sz,I.stack,I.stkFree,I.hok,I.bare⟩
theorem Inv.after {Q:VK}{u:Value}(I:Inv X pins σ H s) (h:CE X.stack X.prog X.w H s Q u s'):EP X pins σ Q u s':=by
 obtain⟨v,H',os,bare,un,hok,r,q⟩:=h;obtain⟨hh,g,d,t,os'⟩:=s';obtain rfl:os'=s.os:=os;exact⟨v,H',I.call (h':=hh) (g':=g) (d':=d) (t':=t) (ch:=[]) un hok bare (fun b z=>absurd z (by simp)),r,q⟩
end
def aFi (sp:Sp) (dvs:List V) (E:XK) (t:TA):TE:=fun σ H Q=>t σ H fun vs H1=>sp (vs++dvs) H1 Q E
def eX (K:PySem.W.Frag) (fd:FuncData) (ps:List Str) (ds:List Value):Prop:=
 ∀ (s:Shared) (us:List Value),K.In s.heap->(us++ds).length=ps.length->BindsTo s fd ⟨us,[]⟩ (ps.zip (us++ds))
theorem eX.all {K:PySem.W.Frag}{fd:FuncData}{ps:List Str}(h:∀ us:List Value,us.length=ps.length->bindArgs fd ⟨us,[]⟩=pure (ps.zip us)):eX K fd ps []:=fun s us _ hl=>by
 rw[List.append_nil] at hl ⊢;exact .of_eq (h us hl)
def zU (CX:CXT) (X:Cx) (E:XK):Prop:=∀ (pins:List (Addr × Obj)) (σ:St) (H:Hp) (s:Shared) (e:Value) (s':Shared),Inv X pins σ H s->CX X.stack H s E e s'->X.xe e s'
section
variable {X:Cx}{CX:CXT}{k:Nat}{f C:Addr}{fd:FuncData}{ps:List Str}{sp:Sp}{dvs:List V}{ds:List Value}{E:XK}{x m:Str}{p pos apos:Pos}{e o:Expr}{es:List Expr}{ta:TE}{t:TA}
theorem aEh {pins:List (Addr × Obj)}{σ:St}{H:Hp}{s:Shared}{Q:VK}{us:List Value}{vs:List V}(F:FnOk X.prog X.w X.K X.mg X.base CX k f fd ps sp) (hr:Room k X.A) (hb:eX X.K fd ps ds) (hd:aI dvs ds) (hx:zU CX X E)
  (I:Inv X pins σ H s) (r:aI vs us) (h:sp (vs++dvs) H Q E):wpAny (model X.prog X.w) X.A (call (.ref f) us) (EP X pins σ Q) X.xe s:=by
 have r2:aI (vs++dvs) (us++ds):=r.append hd;have hl:(us++ds).length=ps.length:=by rw[<- r2.length];exact F.len _ _ _ _ h
 refine wpAny_call (codeAny_mono (F.run X.A X.stack s H ⟨us,[]⟩ (us++ds) (vs++dvs) Q E hr I.env0 (hb s us I.kIn hl) r2 h) fun r s' hq=>?_);cases r with
 | error e=>exact hx pins σ H s e s' I hq
 | ok fl=>
  cases fl with
  | ret u=>exact I.after hq
  | next=>exact False.elim hq
  | brk=>exact False.elim hq
  | cont=>exact False.elim hq
theorem LO (F:FnOk X.prog X.w X.K X.mg X.base CX k f fd ps sp) (hr:Room k X.A) (hg:Gl X x) (hm:X.mg x=some (.ref f)) (hk:PySem.W.keepIn X.K (.ref f)=true) (hb:eX X.K fd ps ds) (hd:aI dvs ds) (hx:zU CX X E)
  (ha:PA X (e::es) t) (hdb:(x == ("__debug__" : Str))=false:=by decide) (he:starEach (e::es) X.env=(false,eval e X.env)::starEach es X.env:=by rfl) (hpl:(backTo pos (starEach es X.env)).any (·.1)=false:=by rfl):
  PE X (.Call (.Name x p) (e::es) [] pos) (aFi sp dvs E t):=by
 intro pins s σ H Q I h;refine wpAny_Call_Name_kw (ZP I hg hm ?_ hdb);refine PySem.W.callWith_K (h₀:=X.base) I.ok.mod.kin hk (thn (ha pos pins s σ H _ I h) fun us s1 ⟨vs,H1,I1,r,q⟩=>⟨I1.kIn,?_⟩) he hpl;exact aEh F hr hb hd hx I1 r q
structure Mk (K:PySem.W.Frag) (C f:Addr):Prop where
 makes:PySem.W.makesIn K C=true
 init:PySem.W.findIn K (.ref C) "__init__" = some (some (.ref f))
 fn:PySem.W.isFn K (.ref f)=true
 kp:PySem.W.keepIn K (.ref C)=true
end
section
variable {X:Cx}{CX:CXT}{k:Nat}{f C:Addr}{fd:FuncData}{ps ks:List Str}{sp:Sp}{E:XK}{x m:Str}{p pos apos kpos:Pos}{e o:Expr}{es:List Expr}{kws:List Keyword}{te ta:TE}{t tk:TA}{nm:Option Str}
structure KBinds (K:PySem.W.Frag) (fd:FuncData) (ps ks:List Str) (g:List Value->List Value->List Value) (gV:List V->List V->List V):Prop where
 to:∀ (s:Shared) (us ws:List Value),K.In s.heap->(g us ws).length=ps.length->BindsTo s fd ⟨us,ks.zip ws⟩ (ps.zip (g us ws))
 rel:∀ {vs:List V} {us:List Value} {zs:List V} {ws:List Value},aI vs us->aI zs ws->aI (gV vs zs) (g us ws)
variable {g:List Value->List Value->List Value}{gV:List V->List V->List V}
end
structure FnScope (N P:List Str) (sc:Scope):Prop where
 kind:sc.kind=.function
 co:sc.isCoroutine=false
 gen:sc.isGenerator=false
 nd:N.Nodup
 pre:N.take P.length=P
 par:∀ x∈P,sc.names.lookup x=some .local\/sc.names.lookup x=some .cell
 nofree:∀ y∈sc.names,y.2≠.free
theorem FX {kindOf:Str->Option NameKind}{x:Str}:∀ {binds:List (Str × Value)}{m:Str->Option Value},(∀ v,(x,v) ∉ binds)->bindL kindOf binds m x=m x
 | [],_,_=>rfl
 | (n,v)::r,m,h=>by
  unfold bindL;rw[FX fun w hw=>h w (aJ2 _ hw)]
  split
  ·have:x≠n:=by rintro rfl;exact h v aJ3
   simp[this]
  ·rfl
theorem FV {kindOf:Str->Option NameKind}{x:Str}:∀ {binds:List (Str × Value)}{m:Str->Option Value},(∀ v,(x,v) ∉ binds)->bindC kindOf binds m x=m x
 | [],_,_=>rfl
 | (n,v)::r,m,h=>by
  unfold bindC;rw[FV fun w hw=>h w (aJ2 _ hw)]
  split
  ·rfl
  ·have:x≠n:=by rintro rfl;exact h v aJ3
   simp[this]
theorem FW {kindOf:Str->Option NameKind}{x:Str}{v:Value}:∀ {P:List Str}{vs:List Value}{i:Nat}{m:Str->Option Value},P.Nodup->P[i]?=some x->vs[i]?=some v->kindOf x=some .local ->
  bindL kindOf (P.zip vs) m x=some v
 | [],_,_,_,_,h,_,_=>by simp at h
 | _::_,[],_,_,_,_,h,_=>by simp at h
 | p::P,w::vs,0,m,nd,h1,h2,hk=>by
  simp at h1 h2;subst h1;subst h2;show bindL kindOf ((p,w)::P.zip vs) m p=_;unfold bindL;rw[FX fun v hv=>(aL1.mp nd).1 (List.of_mem_zip hv).1,if_pos hk];simp
 | p::P,w::vs,i+1,m,nd,h1,h2,hk=>by
  show bindL kindOf ((p,w)::P.zip vs) m x=_;unfold bindL;exact FW (i:=i) (aL1.mp nd).2 (by simpa using h1) (by simpa using h2) hk
theorem FU {kindOf:Str->Option NameKind}{x:Str}{v:Value}:∀ {P:List Str}{vs:List Value}{i:Nat}{m:Str->Option Value},P.Nodup->P[i]?=some x->vs[i]?=some v->kindOf x≠some .local ->
  bindC kindOf (P.zip vs) m x=some v
 | [],_,_,_,_,h,_,_=>by simp at h
 | _::_,[],_,_,_,_,h,_=>by simp at h
 | p::P,w::vs,0,m,nd,h1,h2,hk=>by
  simp at h1 h2;subst h1;subst h2;show bindC kindOf ((p,w)::P.zip vs) m p=_;unfold bindC;rw[FV fun v hv=>(aL1.mp nd).1 (List.of_mem_zip hv).1,if_neg hk];simp
 | p::P,w::vs,i+1,m,nd,h1,h2,hk=>by
  show bindC kindOf ((p,w)::P.zip vs) m x=_;unfold bindC;exact FU (i:=i) (aL1.mp nd).2 (by simpa using h1) (by simpa using h2) hk
def start (N:List Str) (vs:List V):St:=vs.map some++List.replicate (N.length-vs.length) none
def aW (CX:CXT) (P:Program) (w:World) (K:PySem.W.Frag) (mg:Str->Option Value) (base:Heap) (N:List Str) (qual:Str) (scope:Scope) (f:Addr) (cd:Value) (A:Around) (outer:List Env) (s:Shared) (H:Hp) (E:XK):Cx where
 prog:=P
 w:=w
 K:=K
 mg:=mg
 base:=base
 A:=A.deeper (envOfC qual scope s.heap.objs.size f cd)
 N:=N
 s₀:=s
 H₀:=H
 env:=envOfC qual scope s.heap.objs.size f cd
 outer:=outer
 stack:=envOfC qual scope s.heap.objs.size f cd::outer
 ex:=[]
 calm:=true
 fn:=fun _=>true
 pn:=[]
 xe:=fun e s'=>wpAny (model P w) (A.deeper (envOfC qual scope s.heap.objs.size f cd)) (leaving (envOfC qual scope s.heap.objs.size f cd) e) (fun _ s''=>CX outer H s E e s'') (fun e' s''=>CX outer H s E e' s'') s'
theorem GF {sc:Scope}{n:Nat}{x:Str}(h:sc.names.lookup x=some .cell):∃ c,(cellsFrom n sc.names []).lookup x=some c:=by
 have q:=PySem.W.cellsFrom_some sc.names n [] (.inl h);exact Option.isSome_iff_exists.mp q
theorem YS {CX:CXT}{P:Program}{w:World}{K:PySem.W.Frag}{mg:Str->Option Value}{base:Heap}{N ps:List Str}{qual:Str}{scope:Scope}{f:Addr}{cd:Value}{A:Around}{outer:List Env}{s s1:Shared}{H:Hp}{E:XK}{us:List Value}{vs:List V}
  (S:FnScope N ps scope) (hd:A.handled=none) (e0:Env0 P w K mg base A outer s H) (hl:vs.length=ps.length) (r:aI vs us)
  (x:InCallC s s.heap.objs.size (bindL (envOfC qual scope s.heap.objs.size f cd).kindOf (ps.zip us) fun _=>none) (cellsFrom (s.heap.objs.size+1) scope.names []) (bindC (envOfC qual scope s.heap.objs.size f cd).kindOf (ps.zip us) fun _=>none) s1):
  Inv (aW CX P w K mg base N qual scope f cd A outer s H E) [] (start N vs) H s1:=by
 have hpl:ps.length<=N.length:=by have:=congrArg List.length S.pre;rw[aKl] at this;lia
 obtain⟨h1,tk,rfl,hk⟩:=x.done;have noA:∀ b:Addr,b ∉ (aW CX P w K mg base N qual scope f cd A outer s H E).ex:=fun b z=>absurd (show b∈([]:List Addr) from z) (by simp);refine⟨⟨e0.mod,S.kind,rfl,rfl,aL8 _,fun y z c h1 h2=>?_,fun y hy=>?_,fun y c _ h=>?_,fun _=>hd,Around.frames_deeper e0.frames,.inr ⟨rfl,rfl⟩,fun b z=>absurd z (noA b),e0.bs,e0.bsz,fun b _ _=>noA b,fun b z=>absurd z (noA b),e0.funs,e0.frf⟩,
  rfl,e0.bare,Un.kept hk,⟨_,x.toInCall.ns,fun i y v h1 h2 h3=>?_⟩,fun y c h=>⟨_,x.cell y c h⟩,e0.hok.fresh (aL8 _),fun y c h=>?_,fun p hp=>absurd (show p∈([]:List (Addr × Obj)) from hp) (by simp),e0.hok.kept hk,?_⟩
 ·exact name_of_addr x.apart (PySem.mem_of_lookup h1) (PySem.mem_of_lookup h2)
 ·have hy:scope.names.lookup y=some .cell\/scope.names.lookup y=some .free:=hy
  rcases hy with hy | hy
  ·exact GF hy
  ·exact absurd rfl (S.nofree _ (PySem.mem_of_lookup hy))
 ·exact aL7 (x.above y c (PySem.mem_of_lookup h))
 ·have hi:i<vs.length:=by
   unfold start at h2
   by_cases hi:i<vs.length
   ·exact hi
   ·rw[List.getElem?_append_right (by simpa using hi)] at h2
    rw[List.getElem?_replicate] at h2;split at h2<;>cases h2
  have ha:vs[i]?=some v:=by
   unfold start at h2;rw[List.getElem?_append_left (by simpa using hi),aKa] at h2;cases e:vs[i]? with
   | none=>rw[e] at h2;cases h2
   | some a=>rw[e] at h2;cases h2;rfl
  obtain⟨u,hu,rv⟩:=r.get ha;have hp:ps[i]?=some y:=by
   rw[<- S.pre,List.getElem?_take_of_lt (by lia)];exact h1
  have ndP:ps.Nodup:=by rw[<- S.pre];exact S.nd.sublist (List.take_sublist _ _)
  refine⟨u,rv,?_⟩;rcases S.par y (aKy hp) with k | k
  ·exact .inl ⟨k,FW ndP hp hu k⟩
  ·obtain⟨c,e⟩:=GF (n:=s.heap.objs.size+1) k
   refine .inr ⟨.inl k,c,e,?_⟩;have q:=x.cell y c e;rw[FU ndP hp hu (by show scope.names.lookup y≠_;rw[k];decide)] at q;exact q
 ·exact e0.hok.fresh (aL7 (x.above y c (PySem.mem_of_lookup h)))
 ·unfold start
  show _=N.length;rw[aKd,aKg,List.length_replicate];lia
theorem AX {CX:CXT}{P:Program}{w:World}{K:PySem.W.Frag}{mg:Str->Option Value}{base:Heap}{k:Nat}{f:Addr}{name qual:Str}{params:Arguments}{body:List Stmt}{scope:Scope}{dV kV doc pm cdv ct oc:Value}{an od:Option Addr}
  {osl:Array (Option Value)} {N ps:List Str} {sp:Sp} (lk:K.lookup f=some ⟨oc,od,.func (PySem.W.fnOf name qual params body scope dV kV doc pm an cdv ct),osl⟩) (hcd:PySem.W.codeIn K cdv qual=true) (S:FnScope N ps scope)
  (len:∀ vs H Q E,sp vs H Q E->vs.length=ps.length)
  (hbody:∀ (A:Around) (outer:List Env) (s:Shared) (H:Hp) (vs:List V) (Q:VK) (E:XK),Room k (A.deeper (envOfC qual scope s.heap.objs.size f cdv))->sp vs H Q E ->
   ∃ t,PSs (aW CX P w K mg base N qual scope f cdv A outer s H E) body t/\t { nx:=fun _ H'=>Q .non H',rt:=Q } (start N vs) H):
  FnOk P w K mg base CX (k+1) f (PySem.W.fnOf name qual params body scope dV kV doc pm an cdv ct) ps sp:=by
 refine⟨len,fun A outer s H args us vs Q E hr e0 hb r hsp=>?_⟩;have hl:=len _ _ _ _ hsp;have KX:K.In s.heap:=e0.mod.kin.keeps fun b o e=>(e0.bs b o e).1;have lim:s.heap.NoLimit:=e0.mod.nolimit.keeps fun b o e=>(e0.bs b o e).1;have hkind:∀ y∈ps.zip us,scope.names.lookup y.1=some .local\/(scope.names.lookup y.1=some .cell/\((cellsFrom (s.heap.objs.size+1) scope.names []).lookup y.1).isSome=true):=fun ⟨n,v⟩ hy=>by
  rcases S.par n (List.of_mem_zip hy).1 with q | q
  ·exact .inl q
  ·exact .inr ⟨q,PySem.W.cellsFrom_some _ _ _ (.inl q)⟩
 refine codeAny_call_function hr.depth (KX _ _ lk) rfl S.co S.gen rfl (PySem.W.codeRec_of KX hcd) (hb _ _ _ _ ?_);refine wpAny_newFunctionEnv_cells S.kind hkind fun env he s1 x=>?_;subst he;refine⟨lim.keeps x.toInCall.keep,codeAny_func ?_⟩;obtain⟨t,ht,hq⟩:=hbody A outer s H vs Q E (hr.deeper _) hsp;have I:Inv (aW CX P w K mg base N qual scope f cdv A outer s H E) [] (start N vs) H s1:=YS S hr.hd e0 hl r x;refine wpAny_mono (ht [] s1 (start N vs) H _ I hq) (fun fl s' hs=>?_) fun e s' hs=>hs;have fin:∀ {σ':St} {H':Hp} {v:V} {u:Value},Inv (aW CX P w K mg base N qual scope f cdv A outer s H E) [] σ' H' s'->aT v u->Q v H'->CE outer P w H s Q u s':=
  fun {σ' H' v u} J rv q=>⟨v,H',J.os,J.bare,J.base,J.hok,rv,q⟩
 cases fl with
 | ret u=>
  obtain⟨v,σ',H',J,rv,q⟩:=hs;exact fin J rv q
 | next=>
  obtain⟨σ',H',J,q⟩:=hs;exact fin (v:=V.non) (u:=Value.none) J rfl q
 | brk=>
  obtain⟨_,_,_,q⟩:=hs;exact False.elim q
 | cont=>
  obtain⟨_,_,_,q⟩:=hs;exact False.elim q
section
variable {X:Cx}{x:Str}{p pos:Pos}{e:Expr}{es:List Expr}{t:TA}{id T:String}{r:List V->Hp->VK->Prop}
def tCB (r:List V->Hp->VK->Prop) (t:TA):TE:=fun σ H Q=>t σ H fun vs H1=>r vs H1 Q
theorem kD (hc:eR X (.builtin id) r) (hg:Gl X x) (hm:X.mg x=none) (hv:bootBuiltins x=some (.builtin id)) (ha:PA X (e::es) t) (hn:x ≠ "__name__" := by decide) (hdb:(x == ("__debug__" : Str))=false:=by decide)
  (he:starEach (e::es) X.env=(false,eval e X.env)::starEach es X.env:=by rfl) (hpl:(backTo pos (starEach es X.env)).any (·.1)=false:=by rfl):PE X (.Call (.Name x p) (e::es) [] pos) (tCB r t):=by
 intro pins s σ H Q I h;refine wpAny_Call_Name_kw (gN I hg hm hv ?_ hn hdb);exact PyProof.Rows.callWith_builtin1 (thn (ha pos pins s σ H _ I h) fun us s1 ⟨vs,H1,I1,r1,q1⟩=>hc pins s1 σ H1 vs us Q I1 r1 q1) he hpl
end
end L2
namespace HT
open PySem PyProof.Rows
section
open PySem.SeqAt
open PySem.AutoSeq1 (wpAny_loadPart')
open PySem.MeetsSeq PySem.MeetsSeq2 PySem.MeetsSeq3
end
section
variable {prog:Program}{w:World}{A:Around}{E:Value->Shared->Prop}{s:Shared}
end
end HT
namespace L2
open PySem PySem.Spec PyProof.Rows
abbrev TO:=St->Hp->(Option Int->Hp->Prop)->Prop
def PO (X:Cx) (e:Option Expr) (t:TO):Prop:=
 ∀ (pins:List (Addr × Obj)) (s:Shared) (σ:St) (H:Hp) (Q:Option Int->Hp->Prop),Inv X pins σ H s->t σ H Q ->
  wpAny (model X.prog X.w) X.A (evalPart e X.env) (fun u s'=>∃ o H',Inv X pins σ H' s'/\IsPart u o/\Q o H') X.xe s
def aFs:TO:=fun _ H Q=>Q none H
def aFv (t:TE):TO:=fun σ H Q=>t σ H fun x H1=>∃ i,x=.int i/\Q (some i) H1
section
variable {X:Cx}{e:Expr}{te:TE}{lo hi:Option Expr}{tl th:TO}{pos p2:Pos}
theorem aD7:PO X none aFs:=by
 intro pins s σ H Q I h;rw[evalPart_none];exact wpAny_pure ⟨none,H,I,.none,h⟩
theorem aD8 (h:PE X e te):PO X (some e) (aFv te):=by
 intro pins s σ H Q I hw;rw[evalPart_some];refine thn (h pins s σ H _ I hw) fun u s1 ⟨x,H1,I1,r1,q1⟩=>?_;obtain⟨i,rfl,q⟩:=q1;obtain⟨t,rfl⟩:=r1;exact⟨some i,H1,I1,.int i t,q⟩
def SlR (X:Cx) (r:V->Option Int->Option Int->Hp->VK->Prop):Prop:=
 ∀ (pins:List (Addr × Obj)) (s:Shared) (σ:St) (H:Hp) (x:V) (v vl vu:Value) (lo hi:Option Int) (sl:Addr) (Q:VK),Inv X pins σ H s->aT x v->s.heap.IsSliceOf sl vl vu .none->IsPart vl lo->IsPart vu hi->r x lo hi H Q ->
  ∃ T id,typeLookup (.type T) "__getitem__" = pure (some (.builtin id))/\s.TypeIs v T/\wpAny (model X.prog X.w) X.A (getItem v (.ref sl)) (EP X pins σ Q) X.xe s
theorem SlR.or {r r':V->Option Int->Option Int->Hp->VK->Prop}(h:SlR X r) (h':SlR X r'):SlR X (fun x lo hi H Q=>r x lo hi H Q\/r' x lo hi H Q):=by
 intro pins s σ H x v vl vu lo hi sl Q I rx hs pl pu q;rcases q with q | q
 ·exact h pins s σ H x v vl vu lo hi sl Q I rx hs pl pu q
 ·exact h' pins s σ H x v vl vu lo hi sl Q I rx hs pl pu q
end
def ixN (n:Nat) (i:Int):Option Nat:=if 0<=i then (if i<n then some i.toNat else none) else if -(n:Int)<=i then some (i+n).toNat else none
def atI {α:Type} (xs:List α) (i:Int):Option α:=(ixN xs.length i).bind fun j=>xs[j]?
theorem JR {n:Nat}{i:Int}{j:Nat}(h:ixN n i=some j):seqIndex? i n=some j/\j<n /\ -(n:Int)<=i/\i<n:=by
 unfold ixN at h
 by_cases h0:0<=i
 ·rw[if_pos h0] at h
  by_cases h1:i<n
  ·rw[if_pos h1] at h
   have e:i.toNat=j:=aIz h;exact⟨by rw[seqIndex_of h0 h1,e],by lia,by lia,h1⟩
  ·rw[if_neg h1] at h;cases h
 ·rw[if_neg h0] at h
  by_cases h1 : -(n:Int)<=i
  ·rw[if_pos h1] at h
   have e:(i+n).toNat=j:=aIz h;exact⟨by rw[seqIndex_neg (by lia) h1,e],by lia,h1,by lia⟩
  ·rw[if_neg h1] at h;cases h
theorem AA {α:Type}{xs:List α}{i:Int}{v:α}(h:atI xs i=some v):∃ j,seqIndex? i xs.length=some j/\xs[j]?=some v/\j<xs.length /\ -(xs.length:Int)<=i/\i<xs.length:=by
 unfold atI at h;cases e:ixN xs.length i with
 | none=>rw[e] at h;cases h
 | some j=>
  rw[e] at h;obtain⟨h1,h2,h3,h4⟩:=JR e;exact⟨j,h1,h,h2,h3,h4⟩
theorem FS {α:Type}{xs:List α}{j:Nat}{v:α}(h:xs[j]?=some v):atI xs (j:Int)=some v:=by
 have hj:j<xs.length:=(aJ4.mp h).1;have e:ixN xs.length (j:Int)=some j:=by
  unfold ixN;rw[if_pos (by lia),if_pos (by lia)];simp
 unfold atI;rw[e];exact h
theorem FR {α:Type}(xs:List α) (v:α):atI (xs++[v]) (-1)=some v:=by
 have hl:(xs++[v]).length=xs.length+1:=by simp
 have e:ixN (xs++[v]).length (-1)=some xs.length:=by
  unfold ixN;rw[hl,if_neg (by decide),if_pos (by lia)]
  congr 1
  lia
 unfold atI;rw[e];show (xs++[v])[xs.length]?=some v;simp
def FI (b:Expr):Prop:=∀ o i,subscripted b false o i=operate [o,i] (getItem o i)
def IxR (X:Cx) (r:R2):Prop:=
 ∀ (value slice:Expr) (pins:List (Addr × Obj)) (s:Shared) (σ:St) (H:Hp) (x y:V) (v u:Value) (Q:VK),Inv X pins σ H s->aT x v->aT y u->r x y H Q ->
  subscripted slice false v u=operate [v,u] (getItem v u)->wpAny (model X.prog X.w) X.A (subscriptTail value slice v u) (EP X pins σ Q) X.xe s
def MtR (X:Cx) (id:String) (r:V->List V->Hp->VK->Prop):Prop:=
 ∀ (pins:List (Addr × Obj)) (s:Shared) (σ:St) (H:Hp) (x:V) (xs:List V) (v:Value) (us:List Value) (Q:VK),Inv X pins σ H s->aT x v->aI xs us->r x xs H Q ->
  wpAny (model X.prog X.w) X.A (call (.builtin id) (v::us)) (EP X pins σ Q) X.xe s
section
variable {X:Cx}{a b:Expr}{ta tb:TE}{pos:Pos}
theorem IxR.or {r r':R2}(h:IxR X r) (h':IxR X r'):IxR X (fun x y H Q=>r x y H Q\/r' x y H Q):=by
 intro value slice pins s σ H x y v u Q I rx ry q hs;rcases q with q | q
 ·exact h value slice pins s σ H x y v u Q I rx ry q hs
 ·exact h' value slice pins s σ H x y v u Q I rx ry q hs
theorem MtR.or {id:String}{r r':V->List V->Hp->VK->Prop}(h:MtR X id r) (h':MtR X id r'):MtR X id (fun x xs H Q=>r x xs H Q\/r' x xs H Q):=by
 intro pins s σ H x xs v us Q I rx rs q;rcases q with q | q
 ·exact h pins s σ H x xs v us Q I rx rs q
 ·exact h' pins s σ H x xs v us Q I rx rs q
theorem aCo {r:R2}(hr:IxR X r) (ha:PE X a ta) (hb:PE X b tb) (hs:FI b):PE X (.Subscript a b pos) (tOp r ta tb):=by
 intro pins s σ H Q I h;exact Subscript_ (AB ha hb I h fun v u s2 x y H2 I2 rx ry q=>hr a b pins s2 σ H2 x y v u Q I2 rx ry q (hs _ _))
def MA (K:PySem.W.Frag):R2:=fun x y H Q=>∃ p xs i v,x=.ref p/\y=.int i/\SqL K H p xs/\atI xs i=some v/\Q v H
def MC (K:PySem.W.Frag):R2:=fun x y H Q=>∃ p xs i v,x=.ref p/\y=.int i/\SqT K H p xs/\atI xs i=some v/\Q v H
def MB:R2:=fun x y H Q=>∃ z i c,x=.str z/\y=.int i/\z.length<=sizeLine/\atI z.cps.toList i=some c/\Q (.str ⟨#[c]⟩) H
theorem YV:IxR X (MA X.K):=by
 intro value slice pins s σ H x y v u Q I rx ry h hs;obtain⟨p,xs,i,z,rfl,rfl,hq,he,q⟩:=h;cases rx;obtain⟨t,rfl⟩:=ry;obtain⟨its,r,pl,hz⟩:=I.list hq;obtain⟨j,h1,h2,h3,h4,h5⟩:=AA he;obtain⟨w,ew,rw'⟩:=r.get h2;have hl:=r.length;have hn:=qT;have fin:EP X pins σ Q w s:=⟨z,H,I,rw',q⟩
 by_cases h0:0<=i
 ·have hj:i.toNat=j:=by
   rw[seqIndex_of h0 h5] at h1;exact aIz h1
  exact item_listR pl.isList h0 (by lia) (by rw[hj];simpa using ew) fin hs
 ·have hj:(i+(its.toArray.size:Int)).toNat=j:=by
   rw[seqIndex_neg (by lia) h4] at h1;rw[aJ8,<- hl];exact aIz h1
  exact subscriptTail_builtinR (x:=w) pl.isList.typeIs slot_list_getitem.lookup
   (wpAny_getItem_list_neg (Q:=fun r s'=>r=w/\EP X pins σ Q r s') pl.isList (by lia) (by rw[aJ8]<;>lia) (by lia) (by rw[hj];simpa using ew) ⟨rfl,fin⟩) hs
theorem YY:IxR X (MC X.K):=by
 intro value slice pins s σ H x y v u Q I rx ry h hs;obtain⟨p,xs,i,z,rfl,rfl,hq,he,q⟩:=h;cases rx;obtain⟨t,rfl⟩:=ry;obtain⟨its,r,pl,hz⟩:=I.tuple hq;obtain⟨j,h1,h2,h3,h4,h5⟩:=AA he;obtain⟨w,ew,rw'⟩:=r.get h2;have hl:=r.length;have hn:=qT;have fin:EP X pins σ Q w s:=⟨z,H,I,rw',q⟩;exact subscriptTail_builtinR (x:=w) pl.typeIs slot_tuple_getitem.lookup
  (getItem_tuple (j:=j) (Q:=fun r s'=>r=w/\EP X pins σ Q r s') pl (by lia) (by lia) (by rw[aJ8,<- hl];exact h1) (by simpa using ew) ⟨rfl,fin⟩) hs
theorem YX:IxR X MB:=by
 intro value slice pins s σ H x y v u Q I rx ry h hs;obtain⟨z,i,c,rfl,rfl,hz,he,q⟩:=h;obtain⟨t,rfl⟩:=rx;obtain⟨t',rfl⟩:=ry;obtain⟨j,h1,h2,h3,h4,h5⟩:=AA he;have hl:z.cps.toList.length=z.length:=by simp[Str.length]
 rw[hl] at h1 h4 h5;have hn:=qT;exact tail_any (typeIs_str s z t) slot_str_getitem.lookup (getItem_str (c:=c) (by
  have e1:decide (i < -(2^63:Int))=false:=decide_eq_false (by lia);have e2:decide (i >= 2^63)=false:=decide_eq_false (by lia);rw[e1,e2,Bool.or_false]) (by rw[h1];simpa using h2) ⟨.str ⟨#[c]⟩,H,I.tok _,⟨_,rfl⟩,q⟩) hs
def rIx (K:PySem.W.Frag):R2:=fun x y H Q=>MA K x y H Q\/MC K x y H Q\/MB x y H Q
theorem YW:IxR X (rIx X.K):=YV.or (YY.or YX)
theorem ZW (its:List Value) (n j:Nat) (u:Value):Obj.mapSeq (·.setIfInBounds j u) { cls:=.type "list",data:=.seq its.toArray n }={ cls:=.type "list",data:=.seq (its.set j u).toArray n }:=by
 simp[Obj.mapSeq]
theorem Inv.lst {pins:List (Addr × Obj)}{σ:St}{H:Hp}{s:Shared}{p:Addr}{xs:List V}(I:Inv X pins σ H s) (h:H p=some (.lst xs)):
  ∃ (its:List Value) (n:Nat),aI xs its/\s.heap.get? p=some { cls:=.type "list",data:=.seq its.toArray n }/\xs.length<=sizeLine:=by
 obtain⟨z,its,n,r,e⟩:=I.hok p _ h;exact⟨its,n,r,e,z⟩
theorem Inv.lstUpd {pins:List (Addr × Obj)}{σ:St}{H:Hp}{s:Shared}{p:Addr}{xs ys:List V}{its its':List Value}{n n':Nat}{f:Obj->Obj}(I:Inv X pins σ H s) (h:H p=some (.lst xs))
  (ho:s.heap.get? p=some { cls:=.type "list",data:=.seq its.toArray n }) (hf:f { cls:=.type "list",data:=.seq its.toArray n }={ cls:=.type "list",data:=.seq its'.toArray n' }) (r:aI ys its') (hz:ys.length<=sizeLine) (t:Nat):
  Inv X pins σ (upd H p (.lst ys)) { s with heap:=s.heap.update p f,toks:=t }:=by
 have e:(s.heap.update p f).get? p=some { cls:=.type "list",data:=.seq its'.toArray n' }:=by
  rw[Heap.get?_update_self f ho (by rw[hf]<;>rfl),hf]
 refine I.write (x:=p) (e:=p) (by rw[h];trivial) (.inl rfl) (fun b u hb q=>(Heap.get?_update_other _ _ (Ne.symm hb)).trans q) ⟨_,e⟩ ?_;exact⟨hz,its',n',r,e⟩
def aE9:V->V->V->Hp->(Hp->Prop)->Prop:=fun o i v H Q=>∃ p xs k j,o=.ref p/\i=.int k/\H p=some (.lst xs)/\ixN xs.length k=some j/\Q (upd H p (.lst (xs.set j v)))
theorem aF6:FH X aE9:=by
 intro pins s σ H o i v ov iv u Q I ro ri rv h;obtain⟨p,xs,k,j,rfl,rfl,hp,hj,q⟩:=h;cases ro;obtain⟨t,rfl⟩:=ri;obtain⟨its,n,r,ho,hz⟩:=I.lst hp;obtain⟨h1,h2,h3,h4⟩:=JR hj;have hl:=r.length;have hn:=qT;have I':Inv X pins σ (upd H p (.lst (xs.set j v))) { s with heap:=s.heap.update p (Obj.mapSeq (·.setIfInBounds j u)) }:=
  I.lstUpd hp ho (ZW its n j u) (r.set rv j) (by rw[aKk];exact hz) s.toks
 by_cases h0:0<=k
 ·have hk:k.toNat=j:=by
   rw[seqIndex_of h0 h4] at h1;exact aIz h1
  exact PySem.W.ki_setAt ho h0 (by lia) (by rw[aJ8,<- hl];exact h4) (by rw[hk];exact⟨_,I',q⟩)
 ·have hk:(k+(its.toArray.size:Int)).toNat=j:=by
   rw[seqIndex_neg (by lia) h3] at h1;rw[aJ8,<- hl];exact aIz h1
  exact PySem.W.ki_setBack ho (by lia) (by rw[aJ8,<- hl];exact h3) (by lia) (by rw[hk];exact⟨_,I',q⟩)
def hJ:V->Bool
 | .non=>true
 | .bl _=>true
 | .int _=>true
 | .str _=>true
 | _=>false
def eqV:V->V->Bool
 | .non,.non=>true
 | .bl a,.bl b=>a == b
 | .bl a,.int b=>(if a then 1 else 0) == b
 | .int a,.bl b=>a == (if b then 1 else 0)
 | .int a,.int b=>a == b
 | .str a,.str b=>a == b
 | _,_=>false
theorem VS {A:Around}{s:Shared}{y x:V}{u v:Value}(ry:aT y u) (rx:aT x v) (fy:hJ y=true) (fx:hJ x=true):SeqAt.EqAt A s u v (eqV y x):=by
 cases y with
 | non=>
  cases ry;cases x with
  | non=>cases rx;exact SeqAt.EqAt.same _
  | bl b=>cases rx;exact SeqAt.EqAt.none_bool b
  | int b=>obtain⟨t,rfl⟩:=rx;exact SeqAt.EqAt.none_int b t
  | str b=>obtain⟨t,rfl⟩:=rx;exact SeqAt.EqAt.none_str b t
  | _=>exact absurd (show false=true from fx) aJg
 | bl a=>
  cases ry;cases x with
  | non=>cases rx;exact SeqAt.EqAt.bool_none a
  | bl b=>cases rx;exact SeqAt.EqAt.bool_bool a b
  | int b=>obtain⟨t,rfl⟩:=rx;exact SeqAt.EqAt.bool_int a b t
  | str b=>obtain⟨t,rfl⟩:=rx;exact SeqAt.EqAt.bool_str a b t
  | _=>exact absurd (show false=true from fx) aJg
 | int a=>
  obtain⟨t',rfl⟩:=ry;cases x with
  | non=>cases rx;exact SeqAt.EqAt.int_none a t'
  | bl b=>cases rx;exact SeqAt.EqAt.int_bool a t' b
  | int b=>obtain⟨t,rfl⟩:=rx;exact SeqAt.EqAt.int_int a t' b t
  | str b=>obtain⟨t,rfl⟩:=rx;exact SeqAt.EqAt.int_str a t' b t
  | _=>exact absurd (show false=true from fx) aJg
 | str a=>
  obtain⟨t',rfl⟩:=ry;cases x with
  | non=>cases rx;exact SeqAt.EqAt.str_none a t'
  | bl b=>cases rx;exact SeqAt.EqAt.str_bool a t' b
  | int b=>obtain⟨t,rfl⟩:=rx;exact SeqAt.EqAt.str_int a t' b t
  | str b=>obtain⟨t,rfl⟩:=rx;exact SeqAt.EqAt.str_str a t' b t
  | _=>exact absurd (show false=true from fx) aJg
 | _=>exact absurd (show false=true from fy) aJg
def eqU (x:V) (u:Value):Bool:=match u with
 | .none=>eqV .non x
 | .bool b=>eqV (.bl b) x
 | .int i _=>eqV (.int i) x
 | .str z _=>eqV (.str z) x
 | _=>false
theorem HF {x y:V}{u:Value}(r:aT y u) (f:hJ y=true):eqU x u=eqV y x:=by
 cases y with
 | non=>cases r;rfl
 | bl b=>cases r;rfl
 | int i=>obtain⟨t,rfl⟩:=r;rfl
 | str z=>obtain⟨t,rfl⟩:=r;rfl
 | _=>exact absurd (show false=true from f) aJg
theorem zZ {x:V}:∀ {xs:List V}{us:List Value},aI xs us->xs.all hJ=true->us.any (eqU x)=xs.any fun y=>eqV y x
 | _,_,.nil,_=>rfl
 | y::xs,u::us,.cons r t,f=>by
  rw[List.all_cons,aJc] at f;rw[aJw,aJw,HF r f.1,zZ t f.2]
theorem CN {A:Around}{s:Shared}{x:V}{v:Value}(rx:aT x v) (fx:hJ x=true):∀ {xs:List V}{us:List Value},aI xs us->xs.all hJ=true->∀ u∈us,SeqAt.EqAt A s u v (eqU x u)
 | _,_,.nil,_=>fun u hu=>by cases hu
 | y::xs,u::us,.cons r t,f=>fun u' hu=>by
  rw[List.all_cons,aJc] at f;rcases aJb.mp hu with rfl | hu
  ·rw[HF r f.1];exact VS r rx f.1 fx
  ·exact CN rx fx t f.2 u' hu
def inV (x:V) (xs:List V):Bool:=xs.any fun y=>eqV y x
def rIn (K:PySem.W.Frag) (neg:Bool):R2:=fun x y H Q=>∃ p xs,y=.ref p/\(SqL K H p xs\/SqT K H p xs)/\hJ x=true/\xs.all hJ=true/\Q (.bl (if neg then !inV x xs else inV x xs)) H
theorem aC7:OpR X (compareOp .NotIn) (rIn X.K true):=by
 intro pins s σ H x y v u Q I rx ry h;obtain⟨p,xs,rfl,hq,fx,fs,q⟩:=h;cases ry;rcases hq with hq | hq
 ·obtain⟨its,r,pl,hz⟩:=I.list hq
  refine SeqAt.notIn_listAt (eqU x) pl.isList (fun w hw=>CN rx fx r fs w (by simpa using hw)) ⟨.bl _,H,I,rfl,?_⟩;rw[show its.toArray.any (eqU x)=its.any (eqU x) by simp,zZ r fs];exact q
 ·obtain⟨its,r,pl,hz⟩:=I.tuple hq
  refine SeqAt.notIn_tupleAt (eqU x) pl (fun w hw=>CN rx fx r fs w (by simpa using hw)) ⟨.bl _,H,I,rfl,?_⟩;rw[show its.toArray.any (eqU x)=its.any (eqU x) by simp,zZ r fs];exact q
theorem SQ:eR X (.builtin "len") (fun xs H Q=>∃ p ys,xs=[.ref p]/\(SqL X.K H p ys\/SqT X.K H p ys)/\Q (.int ys.length) H):=by
 intro pins s σ H xs us Q I r h;obtain⟨p,ys,rfl,hq,q⟩:=h;obtain⟨u,rfl,rx⟩:=rT r;cases rx;have hn:=qT;rcases hq with hq | hq
 ·obtain⟨its,r',pl,hz⟩:=I.list hq
  have hlen:=r'.length;exact Calls.call_len_list pl.isList (by simp only[aJ8]<;>lia) ⟨.int ys.length,H,I.tok _,⟨s.toks+1,by rw[aJ8,hlen]⟩,q⟩
 ·obtain⟨its,r',pl,hz⟩:=I.tuple hq
  have hlen:=r'.length;exact len_tuple pl (by simp only[aJ8]<;>lia) ⟨.int ys.length,H,I.tok _,⟨s.toks+1,by rw[aJ8,hlen]⟩,q⟩
theorem eR.or {f:Value}{r r':List V->Hp->VK->Prop}(h:eR X f r) (h':eR X f r'):eR X f (fun xs H Q=>r xs H Q\/r' xs H Q):=by
 intro pins s σ H xs us Q I rs q;rcases q with q | q
 ·exact h pins s σ H xs us Q I rs q
 ·exact h' pins s σ H xs us Q I rs q
def tyV (K : PySem.W.Frag) (T : String) (x : V) (H : Hp) : Prop := match x with
 | .str _ => T = "str"
 | .int _ => T = "int"
 | .ref p => (T = "list" /\ ∃ xs, SqL K H p xs) \/ (T = "tuple" /\ ∃ o, K.lookup p = some o /\ o.cls = .type "tuple" /\ o.dict = none) \/
   (T = "dict" /\ ((∃ kvs, H p = some (.dK kvs)) \/ ∃ kvs, H p = some (.dT kvs))) \/ (T = "set" /\ ∃ S n, H p = some (.set S n))
 | _ => False
theorem OG {pins:List (Addr × Obj)}{σ:St}{H:Hp}{s:Shared}{T:String}{x:V}{v:Value}(I:Inv X pins σ H s) (r:aT x v) (ty:tyV X.K T x H):
  s.TypeIs v T/\∀ a,v=.ref a->∃ ob,s.heap.get? a=some ob/\ob.dict=none:=by
 cases x with
 | str z=>
  obtain⟨t,rfl⟩:=r;cases (show T = "str" from ty);exact⟨typeIs_str s z t,fun _ e=>nomatch e⟩
 | int i=>
  obtain⟨t,rfl⟩:=r;cases (show T = "int" from ty);exact⟨typeIs_int s i t,fun _ e=>nomatch e⟩
 | ref p=>
  cases r;rcases ty with ⟨rfl,xs,hq⟩ | ⟨rfl,o,hk,hc,hd⟩ | ⟨rfl,hk⟩ | ⟨rfl,S,n,hk⟩
  ·obtain⟨its,_,pl,_⟩:=I.list hq
   refine⟨pl.isList.typeIs,fun a e=>?_⟩;cases e;obtain⟨o,n,e,c,hd,_⟩:=pl;exact⟨o,e,hd⟩
  ·refine⟨⟨o,I.kIn p o hk,hc⟩,fun a e=>?_⟩
   cases e;exact⟨o,I.kIn _ o hk,hd⟩
  ·have z:∃ o,s.heap.get? p=some o/\o.ExactDict:=by
    rcases hk with ⟨kvs,hk⟩ | ⟨kvs,hk⟩
    ·obtain⟨_,_,_,_,o,_,_,e,ex,_⟩:=I.hok p _ hk
     exact⟨o,e,ex⟩
    ·obtain⟨_,_,_,_,o,_,_,e,ex,_⟩:=I.hok p _ hk
     exact⟨o,e,ex⟩
   obtain⟨o,e,ex⟩:=z;refine⟨⟨o,e,ex.1⟩,fun a e2=>?_⟩;cases e2;exact⟨o,e,ex.2.1⟩
  ·obtain⟨o,_,_,_,e,ex,_⟩:=I.hok p _ hk
   refine⟨⟨o,e,ex.1⟩,fun a e2=>?_⟩;cases e2;exact⟨o,e,ex.2.1⟩
 | _=>exact False.elim ty
def aFh (K:PySem.W.Frag) (T:String) (r:V->List V->Hp->VK->Prop) (to:TE):TE:=fun σ H Q=>to σ H fun x H1=>tyV K T x H1/\r x [] H1 Q
def tBM (K:PySem.W.Frag) (T:String) (r:V->List V->Hp->VK->Prop) (to:TE) (t:TA):TE:=fun σ H Q=>to σ H fun x H1=>tyV K T x H1/\t σ H1 fun xs H2=>r x xs H2 Q
variable {o e:Expr}{es:List Expr}{to:TE}{t:TA}{name:Str}{apos cpos:Pos}{T id:String}{r:V->List V->Hp->VK->Prop}
theorem aCl (pa:PlainAttrs T) (slot:Slot T name id) (hty:typeOf (.builtin id)=pure (.type "method_descriptor")) (hm:MtR X id r) (ho:PE X o to)
  (hbase:attributeBase o name X.env (eval o X.env)=eval o X.env:=by rfl) (hline:(apos.endLine == cpos.line)=true:=by rfl):PE X (.Call (.Attribute o name apos) [] [] cpos) (aFh X.K T r to):=by
 intro pins s σ H Q I h;refine wpAny_Call_method0_late hbase hline (thn (ho pins s σ H _ I h) fun v s1 ⟨x,H1,I1,r1,ty,q1⟩=>?_);obtain⟨h1,h2⟩:=OG I1 r1 ty;exact⟨T,id,pa,slot,hty,h1,h2,Calls.callWith_builtin rfl (PySem.evalArgs_none (hm pins s1 σ H1 x [] v [] Q I1 r1 .nil q1))⟩
theorem yA (pa:PlainAttrs T) (slot:Slot T name id) (hty:typeOf (.builtin id)=pure (.type "method_descriptor")) (hm:MtR X id r) (ho:PE X o to) (ha:PA X (e::es) t)
  (hbase:attributeBase o name X.env (eval o X.env)=eval o X.env:=by rfl)
  (hfew:((backTo cpos (starEach (e::es) X.env)).all (fun x=>!x.1)&&(backToKw cpos (keywordEach [] X.env)).all (fun x=>x.1.isSome)
   && decide ((e::es).length+([]:List Keyword).length+(if ([]:List Keyword).isEmpty then 0 else 1)<30))=true:=by rfl)
  (hline:(apos.endLine == cpos.line)=true:=by rfl) (hs:starEach (e::es) X.env=(false,eval e X.env)::starEach es X.env:=by rfl) (hplain:(backTo cpos (starEach es X.env)).any (·.1)=false:=by rfl):
  PE X (.Call (.Attribute o name apos) (e::es) [] cpos) (tBM X.K T r to t):=by
 intro pins s σ H Q I h;refine wpAny_Call_method_late hbase hfew hline rfl (thn (ho pins s σ H _ I h) fun v s1 ⟨x,H1,I1,r1,ty,q1⟩=>?_);obtain⟨h1,h2⟩:=OG I1 r1 ty;refine⟨T,id,pa,slot,hty,h1,h2,?_⟩;have hA:=ha cpos pins s1 σ H1 _ I1 q1;rw[hs] at hA ⊢;refine Calls.callWith_builtin (by show (false||(backTo cpos (starEach es X.env)).any (·.1))=false;rw[hplain]<;>rfl) (Calls.evalArgs_plain ?_)
 exact thn hA fun us s2 ⟨vs,H2,I2,r2,q2⟩=>hm pins s2 σ H2 x vs v us Q I2 r1 r2 q2
end
def MtM (X:Cx) (id:String) (r:V->List V->Hp->VK->Prop):Prop:=
 ∀ (pins:List (Addr × Obj)) (s:Shared) (σ:St) (H:Hp) (x:V) (xs:List V) (v:Value) (us:List Value) (Q:VK),Inv X pins σ H s->aT x v->aI xs us->r x xs H Q ->
  wpAny (model X.prog X.w) X.A (call (.builtin id) (v::us)) (EP X pins σ Q) X.xe s
theorem aI.one:∀ {x:V}{us:List Value},aI [x] us->∃ u,us=[u]/\aT x u
 | _,_,.cons r .nil=>⟨_,rfl,r⟩
theorem aI.two:∀ {x y:V}{us:List Value},aI [x,y] us->∃ u v,us=[u,v]/\aT x u/\aT y v
 | _,_,_,.cons r (.cons q .nil)=>⟨_,_,rfl,r,q⟩
theorem aI.zero:∀ {us:List Value},aI [] us->us=[]
 | _,.nil=>rfl
theorem aI.dropLast {xs:List V}{us:List Value}(h:aI xs us):aI xs.dropLast us.dropLast:=by
 induction h with
 | nil=>exact .nil
 | cons r t ih=>
  cases t with
  | nil=>exact .nil
  | cons q t'=>exact .cons r ih
theorem aI.reverse {xs:List V}{us:List Value}(h:aI xs us):aI xs.reverse us.reverse:=by
 induction h with
 | nil=>exact .nil
 | cons r t ih=>rw[List.reverse_cons,List.reverse_cons];exact aI.append ih (.cons r .nil)
theorem aI.rep {xs:List V}{us:List Value}(h:aI xs us):∀ k:Nat,aI (List.replicate k xs).flatten (List.replicate k us).flatten
 | 0=>.nil
 | k+1=>by
  rw[aL4,aL4,List.flatten_cons,List.flatten_cons];exact aI.append h (aI.rep h k)
theorem HP (its:List Value):∀ (k:Nat) (acc:List Value),
  List.foldl (fun x1 x2=>x1++x2) acc.toArray (List.replicate k its.toArray)=(acc++(List.replicate k its).flatten).toArray
 | 0,acc=>by simp
 | k+1,acc=>by
  have e:acc.toArray++its.toArray=(acc++its).toArray:=by simp
  have e2:(acc++its)++(List.replicate k its).flatten=acc++(List.replicate (k+1) its).flatten:=by
   rw[aL4,List.flatten_cons,List.append_assoc]
  rw[<- e2,<- HP its k (acc++its),<- e,aL4,aK5]
section
variable {X:Cx}{pins:List (Addr × Obj)}{σ:St}{H:Hp}{s:Shared}{l b:Addr}{xs ys zs:List V}
theorem Inv.lset {its its':List Value}{n:Nat}{f:Array Value->Array Value}{t':Nat}(I:Inv X pins σ H s) (hH:H l=some (.lst xs))
  (e:s.heap.get? l=some { cls:=.type "list",data:=.seq its.toArray n }) (hf:f its.toArray=its'.toArray) (hv:aI ys its') (hz:ys.length<=sizeLine):
  Inv X pins σ (upd H l (.lst ys)) { s with heap:=s.heap.update l (Obj.mapSeq f),toks:=t' }:=by
 have q:=PySem.IsL.update e f;rw[hf] at q;refine I.write (x:=l) (e:=l) (by rw[hH];exact trivial) (.inl rfl) (fun b' u hb hu=>(Heap.get?_update_other s.heap (Obj.mapSeq f) (Ne.symm hb)).trans hu) ⟨_,q⟩ ?_;exact⟨hz,its',_,hv,q⟩
theorem Inv.lnew {its:List Value}{t':Nat}(I:Inv X pins σ H s) (hv:aI ys its) (hz:ys.length<=sizeLine):
  Inv X pins σ (upd H s.heap.objs.size (.lst ys)) { s with heap:=s.heap.push { cls:=.type "list",data:=.seq its.toArray },toks:=t' }:=
 I.laid (fun _ _ q=>aJa _ q) (aL8 _) ⟨hz,its,0,hv,aJi _ rfl⟩
theorem Inv.fresh (I:Inv X pins σ H s):H s.heap.objs.size=none:=I.hok.fresh (aL8 _)
theorem Inv.lstM (I:Inv X pins σ H s) (hH:H l=some (.lst xs)):xs.length<=sizeLine/\∃ (its:List Value) (n:Nat),aI xs its/\xs.length=its.length/\s.heap.get? l=some { cls:=.type "list",data:=.seq its.toArray n }:=by
 obtain⟨z,its,n,r,e⟩:=I.hok l _ hH;exact⟨z,its,n,r,r.length,e⟩
theorem KY {n:Nat}(h:n<=sizeLine):Builtin.List.listTooLong n=false:=by
 unfold Builtin.List.listTooLong;exact decide_eq_false (by lia)
end
section
variable {X:Cx}
def aDs:V->List V->Hp->VK->Prop:=fun x vs H Q=>∃ l xs y,x=.ref l/\vs=[y]/\H l=some (.lst xs)/\xs.length<sizeLine/\Q .non (upd H l (.lst (xs++[y])))
theorem KS:MtM X "list.append" aDs:=by
 intro pins s σ H x vs v us Q I rx rv h;obtain⟨l,xs,y,rfl,rfl,hH,hz,q⟩:=h;cases rx;obtain⟨u,rfl,ru⟩:=rv.one;obtain⟨z,its,n,r,hl,e⟩:=I.lstM hH;refine call_meets F.slot_list_append ⟨_,e,rfl⟩ F.entry_list_append (F.args_list_append_2 _ _) (PySem.list_append l its.toArray n u (by rw[aJ8];lia)) ⟨e,?_⟩;refine⟨.non,_,I.lset (its':=its++[u]) hH e (by simp) (r.append (.cons ru .nil)) ?_,rfl,q⟩;rw[aKd,List.length_singleton];lia
def aDv:V->List V->Hp->VK->Prop:=fun x vs H Q=>∃ l b xs zs,x=.ref l/\vs=[.ref b]/\H l=some (.lst xs)/\H b=some (.lst zs)/\xs.length+zs.length<=sizeLine/\Q .non (upd H l (.lst (xs++zs)))
theorem aA2:MtM X "list.extend" aDv:=by
 intro pins s σ H x vs v us Q I rx rv h;obtain⟨l,b,xs,zs,rfl,rfl,hH,hB,hz,q⟩:=h;cases rx;obtain⟨u,rfl,ru⟩:=rv.one;cases ru;obtain⟨z,its,n,r,hl,e⟩:=I.lstM hH;obtain⟨z2,its2,n2,r2,hl2,e2⟩:=I.lstM hB;have hsz:its.toArray.size+its2.toArray.size<=sizeLine:=by rw[aJ8,aJ8];lia
 have hlong:¬ (!its.toArray.isEmpty&&Builtin.List.listTooLong (its.toArray.size+its2.toArray.size))=true:=by
  rw[KY hsz,Bool.and_false];exact aJg
 refine call_meets F.slot_list_extend ⟨_,e,rfl⟩ F.entry_list_extend (F.args_list_extend_2 _ _)
  (AutoSeq1.list_extend_list_list_0 l its.toArray n b its2.toArray n2 hlong (by rw[aJ8];lia) (by lia)) ⟨e,e2,?_⟩
 refine⟨.non,_,I.lset (its':=its++its2) hH e (by simp) (r.append r2) ?_,rfl,q⟩;rw[aKd];lia
def aE2:R2:=fun x y H Q=>∃ l k xs,x=.ref l/\y=.int k/\H l=some (.lst xs) /\ -(2^63)<=k/\k<2^63/\xs.length*k.toNat<=sizeLine /\
 ∀ p,H p=none->Q (.ref p) (upd H p (.lst (List.replicate k.toNat xs).flatten))
theorem ZR {α:Type}(xs:List α) (k:Nat):(List.replicate k xs).flatten.length=k*xs.length:=by
 induction k with
 | zero=>simp
 | succ k ih=>rw[aL4,List.flatten_cons,aKd,ih,Nat.succ_mul,Nat.add_comm]
theorem aCa:OpR X (binaryOp .Mult) aE2:=by
 intro pins s σ H x y v u Q I rx ry h;obtain⟨l,k,xs,rfl,rfl,hH,h1,h2,hz,q⟩:=h;cases rx;obtain⟨t,rfl⟩:=ry;obtain⟨z,its,n,r,hl,e⟩:=I.lstM hH;have hlen:its.toArray.size*k.toNat<=sizeLine:=by rw[aJ8,<- hl];exact hz
 have hcap:¬ its.toArray.size*k.toNat > (2^63-1) / 8:=by
  have:(sizeLine:Nat)<=(2^63-1) / 8:=by decide
  lia
 have hfit:¬ (!Builtin.List.listFitsIndex k)=true:=by
  rw[fitsIndex_both h1 h2];exact aJg
 have hlong:¬ Builtin.List.listTooLong (its.toArray.size*k.toNat)=true:=by
  rw[KY hlen];exact aJg
 have hnew:List.foldl (fun x1 x2=>x1++x2) #[] (List.replicate (if its.toArray.isEmpty=true then 0 else k.toNat) its.toArray)=(List.replicate k.toNat its).flatten.toArray:=by
  have f0:∀ m:Nat,List.foldl (fun x1 x2=>x1++x2) #[] (List.replicate m its.toArray)=(List.replicate m its).flatten.toArray:=fun m=>by
   have:=HP its m [];rw[List.nil_append] at this;exact this
  rw[f0];cases its with
  | nil=>simp
  | cons a r'=>rw[if_neg (by simp)]
 refine wpAny_binaryOp_repeat_ref (T := "list") (U := "int") (by decide) ⟨_,e,rfl⟩ (fun s'=>typeIs_int s' k t) noFill_list_mul F.fills_int_mul F.slot_int_rmul repeat_list F.slot_int_index.lookup
  (call_meets F.slot_int_rmul (typeIs_int s k t) F.entry_int_rmul (F.args_int_rmul_2 _ _) (int___rmul___int_list k t l its.toArray n)
   ⟨e,rfl,⟨_,e,rfl⟩,call_meets F.slot_list_mul ⟨_,e,rfl⟩ F.entry_list_mul (F.args_list_mul_2 _ _) (AutoListH.list___mul___list_int_3 l its.toArray n k t hfit hcap hlong) ⟨e,?_⟩⟩)
 rw[hnew];exact⟨.ref _,_,I.lnew (t':=s.toks) (r.rep k.toNat) (by rw[ZR,Nat.mul_comm];exact hz),rfl,q _ I.fresh⟩
end
section
variable {prog:Program}{w:World}{A:Around}{E:Value->Shared->Prop}{s:Shared}
set_option maxRecDepth 100000 in
end
section
variable {X:Cx}
end
end L2
namespace Att
open PySem PySem.W PySem.Calls PyProof.Rows
theorem YO {P:Params}{h:Heap}:∀ (ns:List Int) (vs:List Value),WellAll P h vs (ns.map WData.int)->IntsAre vs ns:=by
 intro ns
 induction ns with
 | nil=>
  intro vs w;rw[aKq] at w;cases w;exact .nil
 | cons n ns ih=>
  intro vs w;rw[aKo] at w;cases w with
  | cons a b=>
   cases a;exact .cons _ _ (ih _ b)
theorem aF5 {l:OpenLaw}{n:Nat}(hn:l.most=some n) {P:Params}{h:Heap}{args:List WData}{vals:List Value}
  (hpre:l.row.toRowW.claim.pre args=true) (hwl:WellAll P h vals args):
  ∃ a vs ns,vals=[Value.ref a]/\args=[WData.list (ns.map WData.int)]/\h.get? a=some { cls:=.type "list",data:=.seq vs.toArray }/\IntsAre vs ns/\ns.length<=n:=by
 have hsh:WShape.hasAll [] args [.list .int]=true:=(pre_splitW hpre).1;have hc:l.pre.holds [] { args:=args }=true:=(pre_splitW hpre).2;obtain⟨d,r,rfl,h1,h2⟩:=hasAllW_cons hsh;obtain rfl:=hasAllW_nil h2;obtain⟨xs,rfl,h3⟩:=hasW_list h1;obtain⟨ns,rfl⟩:=items_int h3;have hlen:ns.length<=n:=by
  unfold OpenLaw.pre at hc;have h4:(WTm.not (.lt (.lit (.int (n:Int))) (.len (.arg 0)))).holds [] { args:=[.list (ns.map .int)] }=true:=by
   have h4:=(holds_andW hc).1;rw[hn] at h4;exact h4
  have h5:=condW_of h4 (w_not (w_lt w_lit (w_len_list (w_arg rfl))));rw[aKg] at h5;refine Nat.le_of_not_lt fun q=>?_;have q':(n:Int)<((ns.length:Nat):Int):=by lia
  first
   | (rw[decide_eq_true q'] at h5;exact absurd h5 (by decide))
   | (simp at h5;lia)
 cases hwl with
 | cons w1 w2=>
  cases w2;cases w1 with
  | list ho hall=>exact⟨_,_,ns,rfl,rfl,ho,YO ns _ hall,hlen⟩
theorem aD9 (l:OpenLaw) (args:List WData):l.row.toRowW.claim.post args (.bool true) args=true:=
 postW_of (r:=l.row.toRowW) (X:=(true == true))
  (show WShape.has [] (.bool true) .bool=true by first | rfl | decide | simp[WShape.has,WShape.arms,WShape.armsAll])
  (show (WTm.eq .res (.lit (.bool true))).value [] { args:=args,res:=some (.bool true),after:=args }=some (.bool (true == true)) from w_eq_bool (w_res rfl) w_lit) rfl
theorem attach_call {l:OpenLaw}{n:Nat}{q:Program}{loose:List Str}{XP:(Str->Option Value)->Heap->Prop}{YP:World->Heap->Prop}{d:DefRec}
  (hn:l.most=some n) (hdf:d.params.defaults=[])
  (call:∀ (w:World) (s₀ s₁:Shared) (mg mb:Str->Option Value) (fa:Addr) (o:Obj) (pm cd doc:Value) (a:Addr) (vs:List Value) (ns:List Int),
   Ground q loose [] XP w s₀ mg mb s₁.heap->YP w s₁.heap ->
   s₁.heap.get? fa=some o->o.data=.func (docDef d.name d.params d.body d.scope pm cd doc)->s₁.heap.CodeRec cd d.name->mg d.name=some (.ref fa) ->
   s₁.heap.get? a=some { cls:=.type "list",data:=.seq vs.toArray }->IntsAre vs ns->ns.length<=n->s₁.gens=#[] ->
   codeAny (model l.prog w) callerA (.call (.ref fa) ⟨[.ref a],[]⟩) (fun r s'=>r=.ok (.ret (.bool true))/\OldK s₁.heap s'.heap/\s'.os=s₁.os/\AllBare s'.gens) s₁):
  WalkO q loose XP YP l.row.toRowW d [] (fun f vs=>PySem.call f vs):=by
 intro w s₀ s₁ mg mb G Y fa o pm cd doc dV kV ho hd hcd hD hmg hg args vals as hpre hlay hrd hwl hlo;obtain rfl:dV=.none:=Dflts.none hD hdf;obtain rfl:kV=.none:=Dflts.noKw hD;obtain⟨a,vs,ns,rfl,rfl,hobj,hints,hlen⟩:=aF5 hn hpre hwl;refine enter_call (codeAny_mono (call w s₀ s₁ mg mb fa o pm cd doc a vs ns G Y ho (fd_plain hd) hcd hmg hobj hints hlen hg) fun r s' hq=>?_);obtain⟨rfl,h2,h3,h4⟩:=hq;exact⟨.inl ⟨.bool true,.bool true,[],rfl,fun _=>rfl,.bool true,aD9 l _,fun _=>⟨List.Pairwise.nil,fun _ hm=>(nomatch hm)⟩⟩,h2,h3,h4⟩
section
variable {prog:Program}{w:World}{A:Around}{E:Value->Shared->Prop}{s:Shared}{K:Frag}
def aGv (h:Heap) (L d:Addr):List (Addr × Obj):=(List.range h.objs.size).filterMap fun a=>if a=L\/a=d then none else (h.get? a).map fun o=>(a,o)
end
end Att
namespace L2
open PySem PySem.Spec PyProof.Rows
theorem wG:∀ {vs:List Value}{ns:List Int},IntsAre vs ns->aI (ns.map V.int) vs
 | _,_,.nil=>.nil
 | _,_,.cons n t h=>.cons ⟨t,rfl⟩ (wG h)
def zT (H:Hp):Prop:=∀ b,H b=none\/∃ o xs,H b=some (.frz o (.lst xs))
theorem ZL {P : Program} {w : World} {K : PySem.W.Frag} {mg mb : Str -> Option Value} {CX : CXT} {k : Nat} {fa a : Addr} {fd : FuncData} {x : Str} {sp : Sp} {s₁ : Shared} {vs : List Value} {ns : List Int}
  (KX : K.In s₁.heap) (hns : s₁.heap.Ns mainGlobals mg) (hb : s₁.heap.Ns builtinsNs mb) (hbb : ∀ x : Str, x ≠ "__name__" -> mb x = bootBuiltins x) (hlim : s₁.heap.NoLimit) (hdig : s₁.heap.NoDigits) (hg : s₁.gens = #[])
  (ha : s₁.heap.get? a = some { cls := .type "list", data := .seq vs.toArray }) (hi : IntsAre vs ns) (hl : ns.length <= sizeLine) (hr : Room k callerA)
  (F : ∀ base : Heap, K.In base -> base.Ns mainGlobals mg -> FnOk P w K mg base CX k fa fd [x] sp) (hbind : ∀ (s : Shared) (u : Value), BindsTo s fd ⟨[u], []⟩ [(x, u)])
  (hsp : ∀ H : Hp, zT H -> SqL K H a (ns.map V.int) -> sp [.ref a] H (fun v _ => v = .bl true) fun _ _ _ => False)
  (hCX : ∀ H e s', CX [] H s₁ (fun _ _ _ => False) e s' -> False) :
  codeAny (model P w) callerA (.call (.ref fa) ⟨[.ref a], []⟩) (fun r s' => r = .ok (.ret (.bool true)) /\ OldK s₁.heap s'.heap /\ s'.os = s₁.os /\ AllBare s'.gens) s₁ := by
 have rv := wG hi;have lenV := hi.length
 -- from an abstract heap in which nothing but the script may be tracked
 have core : ∀ H : Hp, zT H -> SqL K H a (ns.map V.int) -> HOk P w H s₁.heap -> (∀ b, H b ≠ none -> b = a) -> (H a ≠ none -> K.lookup a = none) ->
   codeAny (model P w) callerA (.call (.ref fa) ⟨[.ref a], []⟩) (fun r s' => r = .ok (.ret (.bool true)) /\ OldK s₁.heap s'.heap /\ s'.os = s₁.os /\ AllBare s'.gens) s₁ := by
  intro H hO hS hok hA hK;have base_of : ∀ {b : Addr} {o : Obj}, s₁.heap.get? b = some o -> H b = none -> (eO s₁.heap H).get? b = some o := fun e n => JG e n;have noA : ∀ {b : Addr} {o : Obj} {es : Array DictEntry} {ep : Nat}, s₁.heap.get? b = some o -> o.data = .dict es ep -> H b = none := fun {b o es ep} e d => by
   cases q : H b with
   | none => rfl
   | some u =>
    have e' : b = a := hA b (by rw [q]; simp);subst e';rw [ha] at e; cases e;have d' : Data.seq vs.toArray _ = Data.dict es ep := d;cases d'
  have nsK : ∀ {b : Addr} {m : Str -> Option Value}, s₁.heap.Ns b m -> (eO s₁.heap H).Ns b m := fun {b m} ⟨o, es, ep, e, d, r⟩ => ⟨o, es, ep, base_of e (noA e d), d, r⟩;have hKb : K.In (eO s₁.heap H) := fun b o e => base_of (KX b o e) (by
   cases q : H b with
   | none => rfl
   | some u =>
    have e' : b = a := hA b (by rw [q]; simp);subst e';rw [hK (by rw [q]; simp)] at e; cases e)
  have hM : Mod K mg (eO s₁.heap H) := ⟨hKb, nsK hns, ⟨mb, nsK hb, hbb⟩, let ⟨mc, h1, h2⟩ := hlim; ⟨mc, nsK h1, h2⟩, let ⟨mc, h1, h2⟩ := hdig; ⟨mc, nsK h1, h2⟩⟩;have e0 : Env0 P w K mg (eO s₁.heap H) callerA [] s₁ H := ⟨rfl, hM, fun b o e => LE e, aL6 (JH _ _), trivial, fun b hb => absurd (show b ∈ ([] : List Addr) from hb) (by simp), hok, .of_eq hg⟩;refine codeAny_mono ((F _ hKb (nsK hns)).run callerA [] s₁ H ⟨[.ref a], []⟩ [.ref a] [.ref a] _ _ hr e0 (hbind s₁ (.ref a)) (.cons rfl .nil) (hsp H hO hS)) fun r s' h => ?_;cases r with
  | error e => exact (hCX H e s' h).elim
  | ok fl =>
   cases fl with
   | next => exact False.elim h
   | brk => exact False.elim h
   | cont => exact False.elim h
   | ret u =>
    obtain ⟨v, H', os, bare, un, hok', r', q⟩ := h;have q' : v = .bl true := q;subst q';obtain rfl : u = Value.bool true := r';refine ⟨rfl, OldK.of_keep fun b o e => ?_, os, bare⟩;cases q : H b with
    | none => exact un.keep b o e q (by intro z; exact absurd (show b ∈ ([] : List Addr) from z) (by simp)) (by simp)
    | some u =>
     rcases hO b with z | ⟨ob, xs, z⟩
     ·rw [q] at z; cases z
     ·have z2 := un.frzs b ob _ z
      obtain ⟨e1, _⟩ := hok b _ z;obtain ⟨e2, _⟩ := hok' b _ z2;rw [e] at e1; cases e1;exact e2
 cases hk : K.lookup a with
 | some o =>
  -- the script is one of the module's own objects
  have e := KX a o hk;rw [ha] at e;cases e;refine core (fun _ => none) (fun _ => .inl rfl) (.inr ⟨_, vs.toArray, _, hk, rfl, rfl, rfl, by rw [aJ8, lenV]; exact hl, by simpa using rv⟩) (fun b u z => by have z' : (none : Option HO) = some u := z; cases z') (fun b z => absurd rfl z) fun z => absurd rfl z
 | none =>
  refine core (fun b => if b = a then some (.frz { cls := .type "list", data := .seq vs.toArray } (.lst (ns.map V.int))) else none) (fun b => ?_) (.inl (.inr ⟨{ cls := .type "list", data := .seq vs.toArray }, if_pos rfl⟩)) (fun b u z => ?_) (fun b z => ?_) fun _ => hk
  ·by_cases hb : b = a
   ·exact .inr ⟨_, _, if_pos hb⟩
   ·exact .inl (if_neg hb)
  ·by_cases hb : b = a
   ·have z' := (if_pos hb).symm.trans z
    cases z';subst hb;exact ⟨ha, by rw [aKg]; exact hl, vs, _, rv, ha⟩
   ·have z' := (if_neg hb).symm.trans z
    cases z'
  ·by_cases hb : b = a
   ·exact hb
   ·exact absurd (if_neg hb) z
abbrev KOf {K:PySem.W.Frag}{h:Heap} (_:K.In h):PySem.W.Frag:=K
theorem aH0 {l:PySem.W.OpenLaw}{n k:Nat}{q:Program}{loose:List Str}{XP:(Str->Option Value)->Heap->Prop}{YP:World->Heap->Prop}{d:DefRec}{K:Params->PySem.W.Frag}{CX:World->CXT}{sp:World->Sp}{x:Str}
  (hn:l.most=some n) (hn2:n<=sizeLine) (hdf:d.params.defaults=[]) (hr:Room k callerA)
  (hY:∀ (w:World) (h:Heap),YP w h->(K w.params).In h)
  (F:∀ (w:World) (mg:Str->Option Value) (fa:Addr) (h:Heap),(K w.params).In h->h.Ns mainGlobals mg->mg d.name=some (.ref fa) ->
   ∃ fd:FuncData,(∀ (s:Shared) (u:Value),BindsTo s fd ⟨[u],[]⟩ [(x,u)]) /\
    ∀ base:Heap,(K w.params).In base->base.Ns mainGlobals mg->FnOk l.prog w (K w.params) mg base (CX w) k fa fd [x] (sp w))
  (hsp:∀ (w:World) (H:Hp) (a:Addr) (ns:List Int),ns.length<=n->zT H->SqL (K w.params) H a (ns.map V.int)->sp w [.ref a] H (fun v _=>v=.bl true) fun _ _ _=>False)
  (hCX:∀ (w:World) (H:Hp) (s:Shared) (e:Value) (s':Shared),CX w [] H s (fun _ _ _=>False) e s'->False):
  PySem.W.WalkO q loose XP YP l.row.toRowW d [] (fun f vs=>PySem.call f vs):=by
 refine Att.attach_call hn hdf fun w s₀ s₁ mg mb fa o pm cd doc a vs ns G Y ho hd hcd hmg hobj hints hlen hg=>?_;have KX:=hY w _ Y;obtain⟨fd,hb,hF⟩:=F w mg fa _ KX G.T.g hmg;exact ZL KX G.T.g G.T.b G.T.builtins G.T.nolimit G.T.nodigits hg hobj hints (aL9 hlen hn2) hr hF hb (fun H hO hS=>hsp w H a ns hlen hO hS) fun H e s'=>hCX w H s₁ e s'
def defArgs (s:Stmt):Arguments:=match s with
 | .FunctionDef _ a _ _ _ _ _ _ _ _=>a
 | _=>{ posonlyargs:=[],args:=[],vararg:=none,kwonlyargs:=[],kw_defaults:=[],kwarg:=none,defaults:=[] }
def defBody (s:Stmt):List Stmt:=match s with
 | .FunctionDef _ _ b _ _ _ _ _ _ _=>b
 | _=>[]
def defScope (s:Stmt):Scope:=match s with
 | .FunctionDef _ _ _ _ _ _ sc _ _ _=>sc
 | _=>{ kind:=.function,names:=[],isGenerator:=false,isCoroutine:=false }
abbrev CX0:CXT:=fun _ _ _ _ _ _=>False
abbrev E0:XK:=fun _ _ _=>False
theorem LN {X:Cx}:zU CX0 X E0:=fun _ _ _ _ _ _ _ h=>h.elim
structure Fun (K:PySem.W.Frag) (x qual:Str) (st:Stmt) (f:Addr) (fd:FuncData):Prop where
 ex:∃ (oc:Value) (od:Option Addr) (kV doc pm:Value) (an:Option Addr) (cdv ct:Value) (osl:Array (Option Value)),
  fd=PySem.W.fnOf x qual (defArgs st) (defBody st) (defScope st) .none kV doc pm an cdv ct/\K.lookup f=some ⟨oc,od,.func fd,osl⟩/\PySem.W.codeIn K cdv qual=true
 kp:PySem.W.keepIn K (.ref f)=true
section
variable {P:Program}{w:World}{K:PySem.W.Frag}{mg:Str->Option Value}{base:Heap}
theorem Fun.ok {x qual:Str}{st:Stmt}{f:Addr}{fd:FuncData}{N ps:List Str}{k:Nat}{sp:Sp}(F:Fun K x qual st f fd) (S:FnScope N ps (defScope st)) (len:∀ vs H Q E,sp vs H Q E->vs.length=ps.length)
  (hbody:∀ (cdv:Value) (A:Around) (outer:List Env) (s:Shared) (H:Hp) (vs:List V) (Q:VK) (E:XK),Room k (A.deeper (envOfC qual (defScope st) s.heap.objs.size f cdv))->sp vs H Q E ->
   ∃ t,PSs (aW CX0 P w K mg base N qual (defScope st) f cdv A outer s H E).nox (defBody st) t/\t { nx:=fun _ H'=>Q .non H',rt:=Q } (start N vs) H):FnOk P w K mg base CX0 (k+1) f fd ps sp:=by
 obtain⟨oc,od,kV,doc,pm,an,cdv,ct,osl,rfl,lk,hcd⟩:=F.ex;refine AX lk hcd S len fun A outer s H vs Q E hr hsp=>?_;obtain⟨t,h,q⟩:=hbody cdv A outer s H vs Q E hr hsp;exact⟨t,h.nox,q⟩
theorem Fun.binds {x qual:Str}{st:Stmt}{f:Addr}{fd:FuncData}{ps:List Str}(F:Fun K x qual st f fd)
  (h:∀ (kV doc pm:Value) (an:Option Addr) (cdv ct:Value) (us:List Value),us.length=ps.length->bindArgs (PySem.W.fnOf x qual (defArgs st) (defBody st) (defScope st) .none kV doc pm an cdv ct) ⟨us,[]⟩=pure (ps.zip us)):eX K fd ps []:=by
 obtain⟨oc,od,kV,doc,pm,an,cdv,ct,osl,rfl,lk,hcd⟩:=F.ex;exact .all (h kV doc pm an cdv ct)
theorem bD {x qual:Str}{st:Stmt}{f:Addr}{oc:Value}{od an:Option Addr}{osl:Array (Option Value)}{kV doc pm cdv ct:Value}(l:K.lookup f=some ⟨oc,od,.func (PySem.W.fnOf x qual (defArgs st) (defBody st) (defScope st) .none kV doc pm an cdv ct),osl⟩)
  (c:PySem.W.codeIn K cdv qual=true) (k:PySem.W.keepIn K (.ref f)=true):Fun K x qual st f (PySem.W.fnOf x qual (defArgs st) (defBody st) (defScope st) .none kV doc pm an cdv ct):=⟨⟨oc,od,kV,doc,pm,an,cdv,ct,osl,rfl,l,c⟩,k⟩
end
section
variable {X:Cx}
theorem pv (i:Nat) {x:Str}{pos:Pos}(hN:X.N[i]?=some x:=by rfl) (hv:Vis X.env.scope x:=by first | exact Or.inl rfl | exact Or.inr (Or.inl rfl) | exact Or.inr (Or.inr rfl)) (hd:(x == ("__debug__" : Str))=false:=by decide)
  (hcd:(x == ("__classdict__" : Str))=false:=by decide):PE X (.Name x pos) (NQ i):=aCw hN hv hd hcd
end
theorem jY {A B:Prop}(h:B):if false=true then A else B:=by
 rw[if_neg aJg];exact h
theorem jZ {A B:Prop}(h:A):if true=true then A else B:=by
 rw[if_pos rfl];exact h
def aO (H H':Hp):Prop:=∀ b o,H b=some o->H' b=some o
theorem aO.refl (H:Hp):aO H H:=fun _ _ h=>h
theorem aO.trans {H H1 H2:Hp}(a:aO H H1) (b:aO H1 H2):aO H H2:=fun c o h=>b c o (a c o h)
theorem aO.free {H H':Hp}(e:aO H H') {l:Addr}(h:H' l=Option.none):H l=Option.none:=by
 cases q:H l with
 | none=>rfl
 | some o=>
  rw[e l o q] at h;cases h
theorem aO.seq {K:PySem.W.Frag}{H H':Hp}{a:Addr}{xs:List V}(e:aO H H') (h:SqL K H a xs):SqL K H' a xs:=by
 rcases h with (h | ⟨o,h⟩) | h
 ·exact .inl (.inl (e _ _ h))
 ·exact .inl (.inr ⟨o,e _ _ h⟩)
 ·exact .inr h
section
variable {κ:Type} [DecidableEq κ]
def fQ (kvs:List (κ × V)) (k:κ):Option V:=(kvs.find? fun kv=>decide (kv.1=k)).map (·.2)
def kF (kvs:List (κ × V)) (k:κ) (v:V):List (κ × V):=
 if (kvs.any fun kv=>decide (kv.1=k))=true then kvs.map (fun kv=>if kv.1=k then (kv.1,v) else kv) else kvs++[(k,v)]
def HA (kvs:List (κ × V)) (k:κ):List (κ × V):=kvs.filter fun kv=>decide (kv.1≠k)
theorem EI {p:κ × V}{r:List (κ × V)}{k:κ}(e:p.1=k):fQ (p::r) k=some p.2:=by simp[fQ,aK2,e]
theorem EH {p:κ × V}{r:List (κ × V)}{k:κ}(e:¬ p.1=k):fQ (p::r) k=fQ r k:=by simp[fQ,aK2,e]
theorem OI (k:κ):∀ kvs:List (κ × V),(kvs.any fun kv=>decide (kv.1=k))=(fQ kvs k).isSome
 | []=>rfl
 | p::r=>by
  rw[aJw]
  by_cases e:p.1=k
  ·simp only[EI e,decide_eq_true e,Bool.true_or,Option.isSome_some]
  ·rw[EH e,decide_eq_false e,Bool.false_or];exact OI k r
theorem gH.isSome_eq {o:Option V}{u:Option Value}(r:gH o u):o.isSome=u.isSome:=by
 cases o with
 | none=>cases u with
  | none=>rfl
  | some _=>exact (show False from r).elim
 | some _=>cases u with
  | none=>exact (show False from r).elim
  | some _=>rfl
theorem gH.getD {o:Option V}{u:Option Value}{d:V}{d':Value}(r:gH o u) (rd:aT d d'):aT (o.getD d) (u.getD d'):=by
 cases o with
 | none=>cases u with
  | none=>exact rd
  | some _=>exact (show False from r).elim
 | some _=>cases u with
  | none=>exact (show False from r).elim
  | some _=>exact r
theorem KV.val {kvs:List (κ × V)}{vs:List (κ × Value)}(r:KV kvs vs) (k:κ):gH (fQ kvs k) (valueAt vs k):=by
 unfold KV at r
 induction r with
 | nil=>exact True.intro
 | @cons p q ps qs h t ih=>
  obtain⟨h1,h2⟩:=h
  by_cases e:p.1=k
  ·have e':q.1=k:=h1.symm.trans e
   have b:valueAt (q::qs) k=some q.2:=by simp[valueAt,aK2,e']
   rw[EI e,b];exact h2
  ·have e':¬ q.1=k:=fun z=>e (h1.trans z)
   have b:valueAt (q::qs) k=valueAt qs k:=by simp[valueAt,aK2,e']
   rw[EH e,b];exact ih
theorem KV.any {kvs:List (κ × V)}{vs:List (κ × Value)}(r:KV kvs vs) (k:κ):(kvs.any fun kv=>decide (kv.1=k))=vs.any fun kv=>decide (kv.1=k):=by
 unfold KV at r
 induction r with
 | nil=>rfl
 | cons h t ih=>rw[aJw,aJw,ih,h.1]
theorem KV.repl {kvs:List (κ × V)}{vs:List (κ × Value)}(r:KV kvs vs) (k:κ) {y:V}{u:Value}(ry:aT y u):
  KV (kvs.map fun kv=>if kv.1=k then (kv.1,y) else kv) (vs.map fun kv=>if kv.1=k then (kv.1,u) else kv):=by
 unfold KV at r ⊢
 induction r with
 | nil=>exact .nil
 | @cons p q ps qs h t ih=>
  rw[aKo,aKo];refine .cons ?_ ih;obtain⟨h1,h2⟩:=h
  by_cases e:p.1=k
  ·rw[if_pos e,if_pos (h1.symm.trans e)];exact⟨h1,ry⟩
  ·rw[if_neg e,if_neg (fun z=>e (h1.trans z))];exact⟨h1,h2⟩
theorem KV.put {kvs:List (κ × V)}{vs:List (κ × Value)}(r:KV kvs vs) (k:κ) {y:V}{u:Value}(ry:aT y u):KV (kF kvs k y) (stored vs k u):=by
 unfold kF stored;rw[r.any k]
 by_cases e:(vs.any fun kv=>decide (kv.1=k))=true
 ·rw[if_pos e,if_pos e];exact r.repl k ry
 ·rw[if_neg e,if_neg e];exact Paired.snoc r ⟨rfl,ry⟩
theorem KV.drop {kvs:List (κ × V)}{vs:List (κ × Value)}(r:KV kvs vs) (k:κ):KV (HA kvs k) (without vs k):=by
 unfold KV at r ⊢;unfold HA without
 induction r with
 | nil=>exact .nil
 | @cons p q ps qs h t ih=>
  obtain⟨h1,h2⟩:=h;rw[aK1,aK1]
  by_cases e:p.1=k
  ·have a:¬ decide (p.1≠k)=true:=by simp[e]
   have b:¬ decide (q.1≠k)=true:=by simp[h1.symm.trans e]
   rw[if_neg a,if_neg b];exact ih
  ·have e':¬ q.1=k:=fun z=>e (h1.trans z)
   have a:decide (p.1≠k)=true:=by simp[e]
   have b:decide (q.1≠k)=true:=by simp[e']
   rw[if_pos a,if_pos b];exact .cons ⟨h1,h2⟩ ih
theorem KV.keys {kvs:List (κ × V)}{vs:List (κ × Value)}(r:KV kvs vs):kvs.map (·.1)=vs.map (·.1):=by
 unfold KV at r
 induction r with
 | nil=>rfl
 | cons h t ih=>rw[aKo,aKo,ih,h.1]
theorem KV.length {kvs:List (κ × V)}{vs:List (κ × Value)}(r:KV kvs vs):kvs.length=vs.length:=Paired.length r
end
abbrev KT (H:Hp):List (List Key × V)->List (List Key × Addr × Value)->Prop:=Paired fun p q=>p.1=q.1/\H q.2.1=some (.tup (p.1.map kV))/\aT p.2 q.2.2
theorem KT.val {H:Hp}{kvs:List (List Key × V)}{xs:List (List Key × Addr × Value)}(r:KT H kvs xs) (k:List Key):gH (fQ kvs k) ((atKey xs k).map (·.2)):=by
 induction r with
 | nil=>exact True.intro
 | @cons p q ps qs h t ih=>
  obtain⟨h1,_,h2⟩:=h
  by_cases e:p.1=k
  ·have e':q.1=k:=h1.symm.trans e
   have b:atKey (q::qs) k=some q.2:=by simp[atKey,aK2,e']
   rw[EI e,b];exact h2
  ·have e':¬ q.1=k:=fun z=>e (h1.trans z)
   have b:atKey (q::qs) k=atKey qs k:=by simp[atKey,aK2,e']
   rw[EH e,b];exact ih
theorem KT.repl {H:Hp}{kvs:List (List Key × V)}{xs:List (List Key × Addr × Value)}(r:KT H kvs xs) (k:List Key) {y:V}{u:Value}(ry:aT y u):
  KT H (kvs.map fun kv=>if kv.1=k then (kv.1,y) else kv) (xs.map (putAt k u)):=by
 induction r with
 | nil=>exact .nil
 | @cons p q ps qs h t ih=>
  rw[aKo,aKo];refine .cons ?_ ih;obtain⟨h1,h2,h3⟩:=h;unfold putAt
  by_cases e:p.1=k
  ·rw[if_pos e,if_pos (h1.symm.trans e)];exact⟨h1,h2,ry⟩
  ·rw[if_neg e,if_neg (fun z=>e (h1.trans z))];exact⟨h1,h2,h3⟩
theorem KT.put {H:Hp}{kvs:List (List Key × V)}{xs:List (List Key × Addr × Value)}(r:KT H kvs xs) (k:List Key) {b:Addr}{y:V}{u:Value}(hb:H b=some (.tup (k.map kV))) (ry:aT y u):
  KT H (kF kvs k y) (storedH xs k b u):=by
 have e:(kvs.any fun kv=>decide (kv.1=k))=(atKey xs k).isSome:=by
  rw[OI,(r.val k).isSome_eq,Option.isSome_map]
 unfold kF storedH;rw[e]
 by_cases q:(atKey xs k).isSome=true
 ·rw[if_pos q,if_pos q];exact r.repl k ry
 ·rw[if_neg q,if_neg q];exact Paired.snoc r ⟨rfl,hb,ry⟩
theorem KT.keeps {H H':Hp}{kvs:List (List Key × V)}{xs:List (List Key × Addr × Value)}(r:KT H kvs xs) (ht:∀ b ys,H b=some (.tup ys)->H' b=some (.tup ys)):KT H' kvs xs:=
 Paired.mapP r fun _ _ z=>⟨z.1,ht _ _ z.2.1,z.2.2⟩
section
variable {P:Program}{w:World}{H:Hp}{h:Heap}{a:Addr}
theorem aEc {u:HO}(ok:HOk P w H h) (e:Rd H a u):dB P w H h a u:=e.ok ok
theorem VQ {kvs:List (Key × V)}(ok:HOk P w H h) (e:Rd H a (.dK kvs)):kvs.length<=sizeLine/\(a == sysModules)=false/\∃ vs,KV kvs vs/\h.DictOf (sU P w) a vs:=
 show dB P w H h a (.dK kvs) from aEc ok e
theorem VP {kvs:List (Key × V)}(ok:HOk P w H h) (e:H a=some (.dK kvs)):kvs.length<=sizeLine/\(a == sysModules)=false/\∃ vs,KV kvs vs/\h.DictOf (sU P w) a vs:=VQ ok (.inl e)
end
def wH (H:Hp) (a:Addr) (y:V) (r:Option V):Prop:=
 (∃ kvs k,Rd H a (.dK kvs)/\y=kV k/\r=fQ kvs k)\/∃ kvs k b,Rd H a (.dT kvs)/\y=.ref b/\H b=some (.tup (k.map kV))/\r=fQ kvs k
def wI (H:Hp) (a:Addr) (y v:V) (H':Hp):Prop:=
 (∃ kvs k,H a=some (.dK kvs)/\y=kV k/\kvs.length<sizeLine/\H'=upd H a (.dK (kF kvs k v))) \/
 ∃ kvs k b,H a=some (.dT kvs)/\y=.ref b/\H b=some (.tup (k.map kV))/\kvs.length<sizeLine/\H'=upd H a (.dT (kF kvs k v))
theorem wH.k {H:Hp}{a:Addr}{kvs:List (Key × V)}{k:Key}(e:H a=some (.dK kvs)):wH H a (kV k) (fQ kvs k):=.inl ⟨kvs,k,.inl e,rfl,rfl⟩
theorem wH.t {H:Hp}{a b:Addr}{kvs:List (List Key × V)}{k:List Key}(e:H a=some (.dT kvs)) (eb:H b=some (.tup (k.map kV))):wH H a (.ref b) (fQ kvs k):=.inr ⟨kvs,k,b,.inl e,rfl,eb,rfl⟩
theorem wI.k {H:Hp}{a:Addr}{kvs:List (Key × V)}{k:Key}{v:V}(e:H a=some (.dK kvs)) (hl:kvs.length<sizeLine):wI H a (kV k) v (upd H a (.dK (kF kvs k v))):=.inl ⟨kvs,k,e,rfl,hl,rfl⟩
theorem wI.t {H:Hp}{a b:Addr}{kvs:List (List Key × V)}{k:List Key}{v:V}(e:H a=some (.dT kvs)) (eb:H b=some (.tup (k.map kV))) (hl:kvs.length<sizeLine):
  wI H a (.ref b) v (upd H a (.dT (kF kvs k v))):=.inr ⟨kvs,k,b,e,rfl,eb,hl,rfl⟩
section
variable {X:Cx}{pins:List (Addr × Obj)}{σ:St}{H:Hp}{s:Shared}{a:Addr}{y v:V}{u r:Value}{o:Option V}{A:Around}{E:Value->Shared->Prop}
end
section
variable {X:Cx}{pins:List (Addr × Obj)}{σ:St}{H:Hp}{s:Shared}{a:Addr}{kvs:List (Key × V)}{k:Key}{u:Value}{A:Around}{E:Value->Shared->Prop}
end
section
variable {X:Cx}{o i e value:Expr}{pos pos' tpos:Pos}{td ty tv:TE}
end
section
variable {X:Cx}{pos:Pos}
end
abbrev VV:List (V × V)->List (Value × Value)->Prop:=Paired fun p q=>aT p.1 q.1/\aT p.2 q.2
structure M1 (X:Cx) (o:Expr) (m:Str) (apos:Pos) (e:Expr) (cpos:Pos):Prop where
 base:attributeBase o m X.env (eval o X.env)=eval o X.env
 few:((backTo cpos (starEach [e] X.env)).all (fun x=>!x.1)&&(backToKw cpos (keywordEach [] X.env)).all (fun x=>x.1.isSome)
  && decide (([e]:List Expr).length+([]:List Keyword).length+(if ([]:List Keyword).isEmpty then 0 else 1)<30))=true
 line:(apos.endLine == cpos.line)=true
 trees:backTo cpos (starEach [e] X.env)=[(false,eval e X.env)]
structure M2 (X:Cx) (o:Expr) (m:Str) (apos:Pos) (e f:Expr) (cpos:Pos):Prop where
 base:attributeBase o m X.env (eval o X.env)=eval o X.env
 few:((backTo cpos (starEach [e,f] X.env)).all (fun x=>!x.1)&&(backToKw cpos (keywordEach [] X.env)).all (fun x=>x.1.isSome)
  && decide (([e,f]:List Expr).length+([]:List Keyword).length+(if ([]:List Keyword).isEmpty then 0 else 1)<30))=true
 line:(apos.endLine == cpos.line)=true
 trees:backTo cpos (starEach [e,f] X.env)=[(false,eval e X.env),(false,eval f X.env)]
section
variable {X:Cx}{pins:List (Addr × Obj)}{σ:St}{H:Hp}{s:Shared}{a:Addr}{y d:V}{u r:Value}{o:Option V}{A:Around}{E:Value->Shared->Prop}
end
section
variable {X:Cx}{o e f:Expr}{apos cpos:Pos}{td ty tx:TE}
end
section
variable {X:Cx}{pins:List (Addr × Obj)}{σ:St}{H:Hp}{s:Shared}{a:Addr}{kvs:List (Key × V)}{A:Around}{E:Value->Shared->Prop}
end
section
variable {X:Cx}{pins:List (Addr × Obj)}{σ:St}{H:Hp}{s:Shared}{a:Addr}{y:V}{u:Value}{A:Around}{E:Value->Shared->Prop}
end
end L2
set_option maxHeartbeats 4000000
namespace L2
open PySem PySem.Spec PyProof.Rows
def AR (a:Addr) (cls:Value):HO:=.ext fun h=>∃ oe vs,h.get? a=some oe/\oe.cls=cls/\oe.data=.fields vs
end L2
namespace G
open PySem PySem.Spec PyProof.Rows L2
abbrev St:=L2.St
inductive T where
 | non | bl (b : Bool) | int (i : Int) | str (x : Str) | lst (xs : List T) | tup (xs : List T)
 /-- an exception, by its class's name -/
 | exc (nm : Str)
 /-- a dict of ints, all of them to True -/
 | dct (ks : List Int)
 /-- a list that one name alone has, with all that lies in it (only in a slot that changes) -/
 | own (ts : List T)
abbrev Rho:=List (Option T)
def KL (K:PySem.W.Frag) (a:Addr) (xs:List V):Prop:=
 ∃ (o:Obj) (its:Array Value) (n:Nat),K.lookup a=some o/\o.cls=.type "list" /\ o.dict=none/\o.data=.seq its n/\its.size<=sizeLine/\aI xs its.toList
def KT (K:PySem.W.Frag) (a:Addr) (xs:List V):Prop:=
 ∃ (o:Obj) (its:Array Value) (n:Nat),K.lookup a=some o/\o.cls=.type "tuple" /\ o.data=.seq its n/\its.size<=sizeLine/\aI xs its.toList
def EN (K:PySem.W.Frag) (nm:Str) (C:Addr):Prop:=
 PySem.W.nsIn K mainGlobals nm=some (some (.ref C))/\(∀ a:Addr,PySem.W.KitX K (.ref a) (.ref C) (fun h=>∃ oe,h.get? a=some oe/\oe.cls=.ref C)) /\
 ∀ c∈(["int","bool","list","tuple","str"]:List String),PySem.W.kitOne K (.ref C) (.type c)=some false
def dkv (ks:List Int):List (Key × V):=ks.map fun k=>(.inl k,.bl true)
mutual
def Rep (K:PySem.W.Frag) (H:Hp) (A:Addr->Prop):T->V->Prop
 | .non,v=>v=.non
 | .bl b,v=>v=.bl b
 | .int i,v=>v=.int i
 | .str x,v=>v=.str x
 | .lst ts,v=>∃ a xs,v=.ref a/\((A a/\Rd H a (.lst xs))\/KL K a xs)/\RepL K H A ts xs
 | .tup ts,v=>∃ a xs,v=.ref a/\(Rd H a (.tup xs)\/KT K a xs)/\RepL K H A ts xs
 | .exc nm,v=>∃ (a C:Addr),v=.ref a/\EN K nm C/\Rd H a (AR a (.ref C))
 | .dct ks,v=>∃ a,v=.ref a/\A a/\H a=some (.dK (dkv ks))
 | .own ts,v=>∃ a xs,v=.ref a/\A a/\H a=some (.lst xs)/\RepL K H A ts xs
def RepL (K:PySem.W.Frag) (H:Hp) (A:Addr->Prop):List T->List V->Prop
 | [],xs=>xs=[]
 | t::ts,xs=>∃ x r,xs=x::r/\Rep K H A t x/\RepL K H A ts r
end
theorem fO {H H':Hp}{a:Addr}{u:HO}(k:∀ o,H a=some o->H' a=some o) (h:Rd H a u):Rd H' a u:=by
 rcases h with h | ⟨o,h⟩
 ·exact .inl (k _ h)
 ·exact .inr ⟨o,k _ h⟩
abbrev Fix:={ u:HO // (∀ ys,u≠.lst ys)/\∀ ys,u≠.dK ys }
theorem gR {H:Hp}{a b:Addr}{xs ys:List V}{u:Fix}(ha:H a=some (.lst xs)) (h:Rd H b u.1):Rd (upd H a (.lst ys)) b u.1:=
 fO (fun o q=>by
  have:b≠a:=fun z=>by
   subst z;rcases h with h | ⟨o',h⟩<;>rw[ha] at h
   ·exact u.2.1 xs (aIz h).symm
   ·cases h
  rw[aV this];exact q) h
theorem yH {H:Hp}{a:Addr}{u:HO}(h:Rd H a u):H a≠none:=by
 rcases h with h | ⟨o,h⟩<;>rw[h]<;>simp
section
variable {K:PySem.W.Frag}{H H':Hp}{A A':Addr->Prop}
mutual
theorem Rep.keep (kt:∀ b (u:Fix),Rd H b u.1->Rd H' b u.1) (k:∀ b o,A b->H b=some o->H' b=some o) (hA:∀ b,A b->H b≠none->A' b):∀ (t:T) {v:V},Rep K H A t v->Rep K H' A' t v
 | .non,_,h=>h
 | .bl _,_,h=>h
 | .int _,_,h=>h
 | .str _,_,h=>h
 | .lst ts,_,h=>by
  obtain⟨a,xs,e,c,r⟩:=h;refine⟨a,xs,e,?_,RepL.keep kt k hA ts r⟩;rcases c with ⟨c1,c2⟩ | c
  ·exact .inl ⟨hA a c1 (yH c2),fO (fun o e=>k a o c1 e) c2⟩
  ·exact .inr c
 | .tup ts,_,h=>by
  obtain⟨a,xs,e,c,r⟩:=h;refine⟨a,xs,e,?_,RepL.keep kt k hA ts r⟩;rcases c with c | c
  ·exact .inl (kt a ⟨.tup xs,(fun _ z=>by cases z),fun _ z=>by cases z⟩ c)
  ·exact .inr c
 | .exc _,_,h=>by
  obtain⟨a,C,e,c,r⟩:=h;exact⟨a,C,e,c,kt a ⟨AR a (.ref C),(fun _ z=>by cases z),fun _ z=>by cases z⟩ r⟩
 | .dct _,_,h=>by
  obtain⟨a,e,c,r⟩:=h;exact⟨a,e,hA a c (by rw[r];simp),k a _ c r⟩
 | .own ts,_,h=>by
  obtain⟨a,xs,e,c,r,q⟩:=h;exact⟨a,xs,e,hA a c (by rw[r];simp),k a _ c r,RepL.keep kt k hA ts q⟩
theorem RepL.keep (kt:∀ b (u:Fix),Rd H b u.1->Rd H' b u.1) (k:∀ b o,A b->H b=some o->H' b=some o) (hA:∀ b,A b->H b≠none->A' b):∀ (ts:List T) {xs:List V},RepL K H A ts xs->RepL K H' A' ts xs
 | [],_,h=>h
 | t::ts,_,h=>by
  obtain⟨x,r,e,h1,h2⟩:=h;exact⟨x,r,e,Rep.keep kt k hA t h1,RepL.keep kt k hA ts h2⟩
end
theorem Rep.grow {t:T}{v:V}(s:aO H H') (h:Rep K H A t v):Rep K H' A t v:=Rep.keep (fun b _ e=>fO (fun o q=>s b o q) e) (fun b o _ e=>s b o e) (fun _ x _=>x) t h
theorem RepL.grow {ts:List T}{xs:List V}(s:aO H H') (h:RepL K H A ts xs):RepL K H' A ts xs:=RepL.keep (fun b _ e=>fO (fun o q=>s b o q) e) (fun b o _ e=>s b o e) (fun _ x _=>x) ts h
theorem Rep.weak {t:T}{v:V}(f:∀ b,A b->A' b) (h:Rep K H A t v):Rep K H A' t v:=Rep.keep (fun _ _ e=>e) (fun _ _ _ e=>e) (fun b x _=>f b x) t h
theorem RepL.weak {ts:List T}{xs:List V}(f:∀ b,A b->A' b) (h:RepL K H A ts xs):RepL K H A' ts xs:=RepL.keep (fun _ _ e=>e) (fun _ _ _ e=>e) (fun b x _=>f b x) ts h
theorem RepL.avoid {ts:List T}{xs:List V}{a:Addr}(n:H a=none) (h:RepL K H A ts xs):RepL K H (fun b=>A b/\b≠a) ts xs:=
 RepL.keep (fun _ _ e=>e) (fun _ _ _ e=>e) (fun b x y=>⟨x,fun z=>y (z ▸ n)⟩) ts h
theorem RepL.length:∀ {ts:List T}{xs:List V},RepL K H A ts xs->ts.length=xs.length
 | [],_,h=>by cases (show _=[] from h);rfl
 | _::ts,_,h=>by
  obtain⟨x,r,e,_,h2⟩:=h;subst e;simp[RepL.length h2]
theorem RepL.get:∀ {ts:List T}{xs:List V}{i:Nat}{t:T},RepL K H A ts xs->ts[i]?=some t->∃ x,xs[i]?=some x/\Rep K H A t x
 | [],_,_,_,_,e=>by simp at e
 | _::ts,_,0,_,h,e=>by
  obtain⟨x,r,e1,h1,_⟩:=h;subst e1;simp at e;subst e;exact⟨x,rfl,h1⟩
 | _::ts,_,i+1,_,h,e=>by
  obtain⟨x,r,e1,_,h2⟩:=h;subst e1;obtain⟨y,q,h3⟩:=RepL.get (i:=i) h2 (by simpa using e);exact⟨y,by simpa using q,h3⟩
theorem RepL.app:∀ {ts us:List T}{xs ys:List V},RepL K H A ts xs->RepL K H A us ys->RepL K H A (ts++us) (xs++ys)
 | [],_,_,_,h,q=>by cases (show _=[] from h);exact q
 | _::ts,_,_,_,h,q=>by
  obtain⟨x,r,e,h1,h2⟩:=h;subst e;exact⟨x,r++_,rfl,h1,RepL.app h2 q⟩
theorem RepL.one {t:T}{x:V}(h:Rep K H A t x):RepL K H A [t] [x]:=⟨x,[],rfl,h,rfl⟩
theorem RepL.take:∀ {ts:List T}{xs:List V}(n:Nat),RepL K H A ts xs->RepL K H A (ts.take n) (xs.take n)
 | _,_,0,_=>by simp[RepL]
 | [],_,_+1,h=>by cases (show _=[] from h);simp[RepL]
 | _::ts,_,n+1,h=>by
  obtain⟨x,r,e,h1,h2⟩:=h;subst e;exact⟨x,r.take n,rfl,h1,RepL.take n h2⟩
theorem RepL.drop:∀ {ts:List T}{xs:List V}(n:Nat),RepL K H A ts xs->RepL K H A (ts.drop n) (xs.drop n)
 | _,_,0,h=>by simpa using h
 | [],_,_+1,h=>by cases (show _=[] from h);simp[RepL]
 | _::ts,_,n+1,h=>by
  obtain⟨x,r,e,h1,h2⟩:=h;subst e
  simpa using RepL.drop n h2
theorem RepL.set:∀ {ts:List T}{xs:List V}{t:T}{x:V}(n:Nat),Rep K H A t x->RepL K H A ts xs->RepL K H A (ts.set n t) (xs.set n x)
 | [],_,_,_,n,_,h=>by cases (show _=[] from h);simp[RepL]
 | _::ts,_,_,_,0,q,h=>by
  obtain⟨x,r,e,h1,h2⟩:=h;subst e;exact⟨_,r,rfl,q,h2⟩
 | _::ts,_,_,_,n+1,q,h=>by
  obtain⟨x,r,e,h1,h2⟩:=h;subst e;exact⟨x,_,rfl,h1,RepL.set n q h2⟩
theorem Rep.sqL {ts:List T}{v:V}(h:Rep K H A (.lst ts) v):∃ a xs,v=.ref a/\SqL K H a xs/\RepL K H A ts xs:=by
 obtain⟨a,xs,e,c,r⟩:=h;refine⟨a,xs,e,?_,r⟩;rcases c with ⟨_,c⟩ | c
 ·exact .inl c
 ·exact .inr c
theorem Rep.sqT {ts:List T}{v:V}(h:Rep K H A (.tup ts) v):∃ a xs,v=.ref a/\SqT K H a xs/\RepL K H A ts xs:=by
 obtain⟨a,xs,e,c,r⟩:=h;exact⟨a,xs,e,c,r⟩
end
def scal:T->Bool
 | .lst _=>false
 | .tup _=>false
 | .exc _=>false
 | .dct _=>false
 | .own _=>false
 | _=>true
def tv:T->V
 | .non=>.non
 | .bl b=>.bl b
 | .int i=>.int i
 | .str x=>.str x
 | _=>.non
theorem ML {K:PySem.W.Frag}{H:Hp}{A:Addr->Prop}{t:T}{v:V}(h:scal t=true):Rep K H A t v ↔ v=tv t:=by
 cases t<;>first | exact Iff.rfl | (simp[scal] at h)
mutual
def im:T->Bool
 | .lst _=>false
 | .dct _=>false
 | .own _=>false
 | .tup ts=>imL ts
 | _=>true
def imL:List T->Bool
 | []=>true
 | t::ts=>im t&&imL ts
end
section
variable {K:PySem.W.Frag}{H H':Hp}{A A':Addr->Prop}
mutual
theorem yJ (kt:∀ b (u:Fix),Rd H b u.1->Rd H' b u.1):∀ (t:T) {v:V},im t=true->Rep K H A t v->Rep K H' A' t v
 | .non,_,_,h=>h
 | .bl _,_,_,h=>h
 | .int _,_,_,h=>h
 | .str _,_,_,h=>h
 | .lst _,_,e,_=>by simp[im] at e
 | .tup ts,_,e,h=>by
  obtain⟨a,xs,e1,c,r⟩:=h;refine⟨a,xs,e1,?_,repL_imk kt ts (by simpa [im] using e) r⟩;rcases c with c | c
  ·exact .inl (kt a ⟨.tup xs,(fun _ z=>by cases z),fun _ z=>by cases z⟩ c)
  ·exact .inr c
 | .exc _,_,_,h=>by
  obtain⟨a,C,e,c,r⟩:=h;exact⟨a,C,e,c,kt a ⟨AR a (.ref C),(fun _ z=>by cases z),fun _ z=>by cases z⟩ r⟩
 | .dct _,_,e,_=>by simp[im] at e
 | .own _,_,e,_=>by simp[im] at e
theorem repL_imk (kt:∀ b (u:Fix),Rd H b u.1->Rd H' b u.1):∀ (ts:List T) {xs:List V},imL ts=true->RepL K H A ts xs->RepL K H' A' ts xs
 | [],_,_,h=>h
 | t::ts,_,e,h=>by
  obtain⟨x,r,e1,h1,h2⟩:=h;have e':im t=true/\imL ts=true:=by simpa [imL] using e
  exact⟨x,r,e1,yJ kt t e'.1 h1,repL_imk kt ts e'.2 h2⟩
end
theorem rE (t:T) {v:V}(h:im t=true) (r:Rep K H A t v):Rep K H A' t v:=yJ (fun _ _ e=>e) t h r
end
def bU (ts:List T):Bool:=ts.all im
theorem yI {K:PySem.W.Frag}{H:Hp}{A A':Addr->Prop}:∀ {ts:List T}{xs:List V},bU ts=true->RepL K H A ts xs->RepL K H A' ts xs
 | [],_,_,h=>h
 | t::ts,_,f,h=>by
  obtain⟨x,r,e,h1,h2⟩:=h;have f':im t=true/\bU ts=true:=by simpa [bU] using f
  exact⟨x,r,e,rE t f'.1 h1,yI f'.2 h2⟩
theorem HL:∀ {ts:List T},bU ts=true->imL ts=true
 | [],_=>rfl
 | t::ts,f=>by
  have f':im t=true/\bU ts=true:=by simpa [bU] using f
  simp[imL,f'.1,HL f'.2]
def Ad (B H:Hp) (M:List Addr) (l:Nat) (a:Addr):Prop:=(1<=l->a ∉ M)/\(2<=l->B a=none)/\(3<=l->H a=none)
theorem Ad.le {B H:Hp}{M:List Addr}{l l':Nat}{a:Addr}(h:Ad B H M l a) (k:l'<=l):Ad B H M l' a:=
 ⟨fun z=>h.1 (by lia),fun z=>h.2.1 (by lia),fun z=>h.2.2 (by lia)⟩
theorem Ad.zero {B H:Hp}{M:List Addr}{a:Addr}:Ad B H M 0 a:=⟨fun z=>by lia,fun z=>by lia,fun z=>by lia⟩
def aN (K:PySem.W.Frag) (B H:Hp) (M:List Addr) (H':Hp):Bool->Nat->T->V->Prop
 | true,l,.lst ts,v=>∃ a xs,v=.ref a/\H a=none/\H' a=some (.lst xs)/\RepL K H' (fun b=>Ad B H M l b/\b≠a) ts xs
 | _,l,t,v=>Rep K H' (Ad B H M l) t v
def dJ:T->Nat->List T->Prop
 | .lst ts,c,us=>c=0/\us=ts
 | .tup ts,c,us=>ts[c]?=some (.lst us)
 | .dct _,c,us=>c=0/\us=[]
 | .own ts,c,us=>us=[]/\c<=ts.length
 | _,_,_=>False
def jX:T->Bool
 | .own _=>true
 | _=>false
def dL (H:Hp):T->Addr->List V->Prop
 | .dct ks,a,_=>H a=some (.dK (dkv ks))
 | .own _,a,_=>H a≠none
 | _,a,xs=>H a=some (.lst xs)
theorem dL.keep {H H':Hp}{t:T}{a:Addr}{xs:List V}(k:∀ o,H a=some o->H' a=some o) (h:dL H t a xs):dL H' t a xs:=by
 cases t with
 | own ts=>
  cases e:H a with
  | none=>exact absurd e h
  | some o=>show H' a≠none;rw[k o e];simp
 | _=>exact k _ h
theorem dL.some {H:Hp}{t:T}{a:Addr}{xs:List V}(h:dL H t a xs):H a≠none:=by
 cases t with
 | own ts=>exact h
 | dct ks=>rw[show H a=Option.some (.dK (dkv ks)) from h];simp
 | _=>rw[show H a=Option.some (.lst xs) from h];simp
theorem dL.ex {H:Hp}{t:T}{a:Addr}{xs:List V}(h:dL H t a xs):∃ o,H a=Option.some o:=by
 cases e:H a with
 | none=>exact absurd e h.some
 | some o=>exact⟨o,rfl⟩
theorem dL.like {H:Hp}{t t':T}{a:Addr}{xs:List V}(e:∀ H a xs,dL H t a xs=dL H t' a xs) (h:dL H t a xs):dL H t' a xs:=by rw[<- e];exact h
def fD (K:PySem.W.Frag) (H:Hp):T->V->(Nat->Addr)->Prop
 | .lst _,v,ga=>v=.ref (ga 0)
 | .dct _,v,ga=>v=.ref (ga 0)
 | .own ts,v,ga=>v=.ref (ga 0)/\∃ xs,H (ga 0)=some (.lst xs)/\ts.length=xs.length/\∀ (d:Nat) (t:T),ts[d]?=some t->ga (d+1)≠ga 0/\xs[d]?=some (.ref (ga (d+1)))/\∃ us ys,t=.lst us/\bU us=true/\H (ga (d+1))=some (.lst ys)/\RepL K H (fun _=>True) us ys
 | .tup ts,v,ga=>∃ p vs,v=.ref p/\Rd H p (.tup vs)/\ts.length=vs.length/\∀ (c:Nat) (t:T),ts[c]?=some t->(∃ us,t=.lst us/\vs[c]?=some (.ref (ga c)))\/(im t=true/\∃ w,vs[c]?=some w/\Rep K H (fun _=>True) t w)
 | _,_,_=>False
theorem fD.keep {K:PySem.W.Frag}{H H':Hp}{t:T}{v:V}{ga:Nat->Addr}(kt:∀ b (u:Fix),Rd H b u.1->Rd H' b u.1) (ko:jX t=true->∀ c o,dJ t c []->H (ga c)=some o->H' (ga c)=some o) (h:fD K H t v ga):fD K H' t v ga:=by
 cases t with
 | tup ts=>
  obtain⟨p,vs,h1,h2,h3,h4⟩:=h;refine⟨p,vs,h1,kt p ⟨.tup _,(fun _ z=>by cases z),fun _ z=>by cases z⟩ h2,h3,fun c u e=>?_⟩;rcases h4 c u e with h | ⟨hi,w,e1,r⟩
  ·exact .inl h
  ·exact .inr ⟨hi,w,e1,yJ kt u hi r⟩
 | own ts=>
  obtain⟨h1,xs,h2,h3,h4⟩:=h;refine⟨h1,xs,ko rfl 0 _ ⟨rfl,aLq _⟩ h2,h3,fun d t e=>?_⟩;obtain⟨k1,k2,us,ys,k3,k4,k5,k6⟩:=h4 d t e;refine⟨k1,k2,us,ys,k3,k4,ko rfl (d+1) _ ⟨rfl,(aJ4.mp e).1⟩ k5,repL_imk kt us ?_ k6⟩;exact HL k4
 | _=>exact h
theorem fD.grow {K:PySem.W.Frag}{H H':Hp}{t:T}{v:V}{ga:Nat->Addr}(s:aO H H') (h:fD K H t v ga):fD K H' t v ga:=h.keep (fun b _ e=>fO (fun o q=>s b o q) e) fun _ c o _ e=>s _ o e
theorem DK {K:PySem.W.Frag}{H:Hp}{A:Addr->Prop}:∀ {ts:List T}{vs:List V},ts.length=vs.length->(∀ (c:Nat) (t:T) (w:V),ts[c]?=some t->vs[c]?=some w->Rep K H A t w)->RepL K H A ts vs
 | [],[],_,_=>rfl
 | [],_::_,h,_=>by cases h
 | _::_,[],h,_=>by cases h
 | t::ts,v::vs,h,k=>⟨v,vs,rfl,k 0 t v rfl rfl,DK (by simpa using h) fun c u w e e'=>k (c+1) u w (by simpa using e) (by simpa using e')⟩
theorem fD.rep {K:PySem.W.Frag}{H:Hp}{A:Addr->Prop}{t:T}{v:V}{ga:Nat->Addr}(hA:∀ b,A b) (h:fD K H t v ga) (r:∀ c us,dJ t c us->∃ xs,dL H t (ga c) xs/\RepL K H A us xs):Rep K H A t v:=by
 cases t with
 | lst ts=>
  obtain⟨xs,e,r⟩:=r 0 ts ⟨rfl,rfl⟩;exact⟨ga 0,xs,h,.inl ⟨hA _,.inl e⟩,r⟩
 | tup ts=>
  obtain⟨p,vs,h1,h2,h3,h4⟩:=h;refine⟨p,vs,h1,.inl h2,DK h3 fun c u w e e'=>?_⟩;rcases h4 c u e with ⟨us,rfl,e1⟩ | ⟨hi,w',e1,q⟩
  ·obtain⟨xs,e2,r⟩:=r c us e
   rw[e'] at e1;exact⟨ga c,xs,aIz e1,.inl ⟨hA _,.inl e2⟩,r⟩
  ·rw[e'] at e1
   cases (aIz e1);exact rE u hi q
 | non=>exact h.elim
 | bl _=>exact h.elim
 | int _=>exact h.elim
 | str _=>exact h.elim
 | exc _=>exact h.elim
 | dct ks=>
  obtain⟨xs,e,_⟩:=r 0 [] ⟨rfl,rfl⟩;exact⟨ga 0,h,hA _,e⟩
 | own ts=>
  obtain⟨h1,xs,h2,h3,h4⟩:=h;refine⟨ga 0,xs,h1,hA _,h2,DK h3 fun d t w e e'=>?_⟩;obtain⟨_,k2,us,ys,rfl,k4,k5,k6⟩:=h4 d t e;rw[k2] at e';exact⟨ga (d+1),ys,(aIz e').symm,.inl ⟨hA _,.inl k5⟩,k6.weak fun b _=>hA b⟩
def lc (fl:List Nat):Nat:=if fl.contains 3 then 1 else 2
theorem jB (fl:List Nat):lc fl<=2:=by unfold lc;split<;>decide
theorem fK (fl:List Nat):1<=lc fl:=by unfold lc;split<;>decide
theorem ZO {fl fl':List Nat}(h:3∈fl->3∈fl'):lc fl'<=lc fl:=by
 unfold lc
 by_cases k:3∈fl
 ·rw[if_pos (aJx.mpr k),if_pos (aJx.mpr (h k))];exact aL8 _
 ·rw[if_neg (fun z=>k (aJx.mp z))];split<;>decide
theorem KC {fl:List Nat}{i n:Nat}(h:fl.getD i 1≠3):lc (fl.set i n)<=lc fl:=ZO fun k=>by
 obtain⟨j,hj,e⟩:=aKv.mp k;have hji:j≠i:=fun z=>by
  subst z;rw[aJ0,aJ1 hj] at h;exact h e
 exact aKv.mpr ⟨j,by rw[aKk];exact hj,by rw[List.getElem_set_ne (Ne.symm hji)];exact e⟩
def FG (K:PySem.W.Frag) (B:Hp) (lv:Nat) (M:List Addr) (H:Hp) (t:T) (v:V) (ga:Nat->Addr):Prop:=
 fD K H t v ga/\∀ c us,dJ t c us->∃ xs,dL H t (ga c) xs/\RepL K H (Ad B H M lv) us xs/\ga c∈M
theorem sO {t:T}{c:Nat}{us:List T}(h:dJ t c us):im t=false:=by
 cases t with
 | lst _=>rfl
 | dct _=>rfl
 | own _=>rfl
 | tup ts=>
  show imL ts=false;have:ts[c]?=some (.lst us):=h
  clear h
  induction ts generalizing c with
  | nil=>cases this
  | cons a r ih=>
   cases c with
   | zero=>cases (aIz (show some a=some (T.lst us) from this));simp[imL,im]
   | succ c=>simp[imL,ih (show r[c]?=some (T.lst us) from this)]
 | _=>exact h.elim
structure Sl (K:PySem.W.Frag) (B:Hp) (fl:List Nat) (Ex:List (T × V)) (σ:St) (ρ:Rho) (M:List Addr) (H:Hp):Prop where
 same:aO B H
 slot:∀ i t,ρ[i]?=some (some t)->(1<=fl.getD i 1\/im t=true)->∃ v,σ[i]?=some (some v)/\Rep K H (Ad B H M (min (fl.getD i 1) 2)) t v
 mu:∃ g:Nat->Nat->Addr,(∀ i t,ρ[i]?=some (some t)->fl.getD i 1=0->im t=false->∃ v,σ[i]?=some (some v)/\FG K B (lc fl) M H t v (g i)) /\
  ∀ i j c d t u us ws,(i≠j\/c≠d/\jX t=false)->ρ[i]?=some (some t)->ρ[j]?=some (some u)->fl.getD i 1=0->fl.getD j 1=0->dJ t c us->dJ u d ws->g i c≠g j d
 ex:∀ p∈Ex,Rep K H (Ad B H M 1) p.1 p.2
 mB:∀ a∈M,B a=none/\H a≠none
 len:fl.length<=σ.length
section
variable {K:PySem.W.Frag}{B H H' H1:Hp}{fl:List Nat}{Ex:List (T × V)}{σ:St}{ρ:Rho}{M:List Addr}{n:Bool}{l l':Nat}{t:T}{v:V}
theorem Ad.any {a:Addr}(h:Ad B H M l a) (k:l<=2):Ad B H1 M l a:=⟨h.1,h.2.1,fun z=>by lia⟩
theorem Sl.grow (S:Sl K B fl Ex σ ρ M H) (s:aO H H'):Sl K B fl Ex σ ρ M H' where
 same:=S.same.trans s
 slot:=fun i t e k=>by
  obtain⟨v,e1,r⟩:=S.slot i t e k;exact⟨v,e1,(r.grow s).weak fun b x=>x.any (by lia)⟩
 mu:=by
  obtain⟨g,hg,ap⟩:=S.mu;refine⟨g,fun i t e k hm=>?_,ap⟩;obtain⟨v,e1,e2,e3⟩:=hg i t e k hm;refine⟨v,e1,e2.grow s,fun c us h=>?_⟩;obtain⟨xs,q1,q2,q3⟩:=e3 c us h;exact⟨xs,q1.keep (s _),(q2.grow s).weak fun b x=>x.any (jB fl),q3⟩
 ex:=fun p hp=>((S.ex p hp).grow s).weak fun b x=>x.any (by lia)
 mB:=fun a ha=>⟨(S.mB a ha).1,fun z=>(S.mB a ha).2 (s.free z)⟩
 len:=S.len
theorem Sl.muL (S:Sl K B fl Ex σ ρ M H) (i:Nat) (us:List T) (e:ρ[i]?=some (some (.lst us))) (k:fl.getD i 1=0):∃ a ts xs,T.lst us=.lst ts/\σ[i]?=some (some (.ref a))/\H a=some (.lst xs)/\RepL K H (Ad B H M (lc fl)) ts xs/\a∈M:=by
 obtain⟨g,hg,_⟩:=S.mu;obtain⟨v,e1,e2,e3⟩:=hg i _ e k rfl;obtain⟨xs,q1,q2,q3⟩:=e3 0 us ⟨rfl,rfl⟩;cases (show v=.ref (g i 0) from e2);exact⟨g i 0,us,xs,rfl,e1,q1,q2,q3⟩
theorem Sl.apart (S:Sl K B fl Ex σ ρ M H) (i j:Nat) (ts us:List T) (a:Addr) (hij:i≠j) (e:ρ[i]?=some (some (.lst ts))) (e':ρ[j]?=some (some (.lst us))) (k:fl.getD i 1=0) (k':fl.getD j 1=0) (h:σ[i]?=some (some (.ref a))):σ[j]?≠some (some (.ref a)):=by
 obtain⟨g,hg,ap⟩:=S.mu;obtain⟨v,e1,e2,_⟩:=hg i _ e k rfl;obtain⟨v',e1',e2',_⟩:=hg j _ e' k' rfl;cases (show v=.ref (g i 0) from e2);cases (show v'=.ref (g j 0) from e2');intro z;rw[e1] at h;rw[e1'] at z;have h1:g i 0=a:=V.ref.inj (aIz (aIz h));have h2:g j 0=a:=V.ref.inj (aIz (aIz z));exact ap i j 0 0 _ _ ts us (.inl hij) e e' k k' ⟨rfl,rfl⟩ ⟨rfl,rfl⟩ (h1.trans h2.symm)
theorem aN.rep (S:Sl K B fl Ex σ ρ M H) (h:aN K B H M H' n l t v):Rep K H' (Ad B H M l) t v:=by
 cases n with
 | false=>cases t<;>exact h
 | true=>
  cases t with
  | lst ts=>
   obtain⟨a,xs,e,h1,h2,r⟩:=h;exact⟨a,xs,e,.inl ⟨⟨fun _ z=>(S.mB a z).2 h1,fun _=>S.same.free h1,fun _=>h1⟩,.inl h2⟩,r.weak fun b x=>x.1⟩
  | non=>exact h
  | bl _=>exact h
  | int _=>exact h
  | str _=>exact h
  | tup _=>exact h
  | exc _=>exact h
  | dct _=>exact h
  | own _=>exact h
theorem aN.le (k:l'<=l) (h:aN K B H M H' n l t v):aN K B H M H' n l' t v:=by
 cases n with
 | false=>cases t<;>exact Rep.weak (fun b x=>Ad.le x k) h
 | true=>
  cases t with
  | lst ts=>
   obtain⟨a,xs,e,h1,h2,r⟩:=h;exact⟨a,xs,e,h1,h2,r.weak fun b x=>⟨x.1.le k,x.2⟩⟩
  | non=>exact h
  | bl _=>exact h
  | int _=>exact h
  | str _=>exact h
  | tup _=>exact Rep.weak (fun b x=>Ad.le x k) h
  | exc _=>exact h
  | dct _=>exact Rep.weak (fun b x=>Ad.le x k) h
  | own _=>exact Rep.weak (fun b x=>Ad.le x k) h
theorem Ad.since {a:Addr}(s:aO H H1) (h:Ad B H1 M l a):Ad B H M l a:=⟨h.1,h.2.1,fun z=>s.free (h.2.2 z)⟩
theorem aN.since (s:aO H H1) (h:aN K B H1 M H' n l t v):aN K B H M H' n l t v:=by
 cases n with
 | false=>cases t<;>exact Rep.weak (fun b x=>Ad.since s x) h
 | true=>
  cases t with
  | lst ts=>
   obtain⟨a,xs,e,h1,h2,r⟩:=h;exact⟨a,xs,e,s.free h1,h2,r.weak fun b x=>⟨x.1.since s,x.2⟩⟩
  | non=>exact h
  | bl _=>exact h
  | int _=>exact h
  | str _=>exact h
  | tup _=>exact Rep.weak (fun b x=>Ad.since s x) h
  | exc _=>exact h
  | dct _=>exact Rep.weak (fun b x=>Ad.since s x) h
  | own _=>exact Rep.weak (fun b x=>Ad.since s x) h
theorem aN.scal (h:scal t=true):aN K B H M H' n l t v ↔ v=tv t:=by
 cases n<;>cases t<;>first | exact Iff.rfl | (simp[G.scal] at h)
theorem aN.grow (s:aO H' H1) (h:aN K B H M H' n l t v):aN K B H M H1 n l t v:=by
 cases n with
 | false=>cases t<;>exact Rep.grow s h
 | true=>
  cases t with
  | lst ts=>
   obtain⟨a,xs,e,h1,h2,r⟩:=h;exact⟨a,xs,e,h1,s _ _ h2,r.grow s⟩
  | non=>exact h
  | bl _=>exact h
  | int _=>exact h
  | str _=>exact h
  | tup _=>exact Rep.grow s h
  | exc _=>exact Rep.grow s h
  | dct _=>exact Rep.grow s h
  | own _=>exact Rep.grow s h
theorem aN.laid {ts:List T}{xs:List V}{p:Addr}(s:aO H H1) (hp:H1 p=none) (r:RepL K H1 (Ad B H M l) ts xs):aN K B H M (upd H1 p (.lst xs)) true l (.lst ts) (.ref p):=by
 refine⟨p,xs,rfl,s.free hp,dA,?_⟩;exact (r.avoid hp).keep (fun b ys e=>fO (fun o q=>by rw[aV (fun z=>by rw[z,hp] at q;cases q)];exact q) e) (fun b o x e=>by rw[aV x.2];exact e) (fun b x _=>x) ts
end
theorem dZ {H:Hp}{p:Addr}(h:H p=none) (o:HO):aO H (upd H p o):=fun b u q=>by rw[aV (gA q h)];exact q
def tG (K:PySem.W.Frag) (B:Hp) (fl:List Nat) (f:Rho->Option T) (n:Bool) (l:Nat):TE:=fun σ H Q=>
 ∃ Ex ρ M t,Sl K B fl Ex σ ρ M H/\f ρ=some t/\∀ v H',aO H H'->aN K B H M H' n l t v->Q v H'
def GE (X:Cx) (B:Hp) (fl:List Nat) (e:Expr) (f:Rho->Option T) (n:Bool) (l:Nat):Prop:=PE X e (tG X.K B fl f n l)
def tGT (K:PySem.W.Frag) (B:Hp) (fl:List Nat) (f:Rho->Option Bool):TT:=fun σ H Q=>
 ∃ Ex ρ M b,Sl K B fl Ex σ ρ M H/\f ρ=some b/\∀ H',aO H H'->Q b H'
def GT (X:Cx) (B:Hp) (fl:List Nat) (e:Expr) (f:Rho->Option Bool):Prop:=PT X e (tGT X.K B fl f)
def GW (X:Cx) (B:Hp) (fl:List Nat) (e:Expr) (f:Rho->Option Bool):Prop:=PW X e (tGT X.K B fl f)
def tGA (K:PySem.W.Frag) (B:Hp) (fl:List Nat) (f:Rho->Option (List T)) (l:Nat):TA:=fun σ H Q=>
 ∃ Ex ρ M ts,Sl K B fl Ex σ ρ M H/\f ρ=some ts/\∀ vs H',aO H H'->RepL K H' (Ad B H M l) ts vs->Q vs H'
def GA (X:Cx) (B:Hp) (fl:List Nat) (es:List Expr) (f:Rho->Option (List T)) (l:Nat):Prop:=PA X es (tGA X.K B fl f l)
theorem bI {X:Cx}{e:Expr}{t t':TE}(h:PE X e t) (k:∀ σ H Q,t' σ H Q->t σ H Q):PE X e t':=fun pins s σ H Q I q=>h pins s σ H Q I (k σ H Q q)
theorem DD {X:Cx}{e:Expr}{t t':TT}(h:PT X e t) (k:∀ σ H Q,t' σ H Q->t σ H Q):PT X e t':=fun pins s σ H Q I q=>h pins s σ H Q I (k σ H Q q)
theorem LZ {X:Cx}{e:Expr}{t t':TT}(h:PW X e t) (k:∀ σ H Q,t' σ H Q->t σ H Q):PW X e t':=fun wh pins s σ H Q I q=>h wh pins s σ H Q I (k σ H Q q)
theorem tM {X:Cx}{es:List Expr}{t t':TA}(h:PA X es t) (k:∀ σ H Q,t' σ H Q->t σ H Q):PA X es t':=fun pos pins s σ H Q I q=>h pos pins s σ H Q I (k σ H Q q)
theorem dP {X:Cx}{st:Stmt}{t t':TS}(h:PS X st t) (k:∀ D σ H,t' D σ H->t D σ H):PS X st t':=fun pins s σ H D I q=>h pins s σ H D I (k D σ H q)
theorem LY {X:Cx}{st:List Stmt}{t t':TS}(h:PSs X st t) (k:∀ D σ H,t' D σ H->t D σ H):PSs X st t':=fun pins s σ H D I q=>h pins s σ H D I (k D σ H q)
def aA (i:Nat):Rho->Option T:=fun ρ=>(ρ[i]?).join
def fC (t:T):Rho->Option T:=fun _=>some t
def f1 (f:Rho->Option T) (F:T->Option T):Rho->Option T:=fun ρ=>(f ρ).bind F
def f2 (f g:Rho->Option T) (F:T->T->Option T):Rho->Option T:=fun ρ=>(f ρ).bind fun x=>(g ρ).bind fun y=>F x y
def aE:Rho->Option (List T):=fun _=>some []
def aC (f:Rho->Option T) (g:Rho->Option (List T)):Rho->Option (List T):=fun ρ=>(f ρ).bind fun x=>(g ρ).bind fun y=>some (x::y)
def aZ:T->Option T:=fun t=>if im t then some t else none
def sI:T->Option T
 | .lst ts=>if bU ts then some (.lst ts) else none
 | .tup _=>none
 | .dct _=>none
 | .own _=>none
 | t=>some t
theorem bind_some {α β:Type}{o:Option α}{f:α->Option β}{y:β}(h:o.bind f=some y):∃ x,o=some x/\f x=some y:=by
 cases o with
 | none=>cases h
 | some x=>exact⟨x,rfl,h⟩
section
variable {X:Cx}{B:Hp}{fl:List Nat}{a b e:Expr}{f g:Rho->Option T}{n n':Bool}{l l':Nat}{pos:Pos}
theorem GE.weak (h:GE X B fl e f n l) (k:l'<=l):GE X B fl e f n l':=
 bI h fun σ H Q ⟨Ex,ρ,M,t,S,hf,q⟩=>⟨Ex,ρ,M,t,S,hf,fun v H' s r=>q v H' s (r.le k)⟩
theorem GE.old (h:GE X B fl e f n l):GE X B fl e f false l:=
 bI h fun σ H Q ⟨Ex,ρ,M,t,S,hf,q⟩=>⟨Ex,ρ,M,t,S,hf,fun v H' s r=>q v H' s (by cases t<;>exact r.rep S)⟩
theorem GE.sc (h:GE X B fl e f n l):GE X B fl e (f1 f aZ) true 3:=by
 refine bI h ?_;rintro σ H Q ⟨Ex,ρ,M,t,S,hf,q⟩;obtain⟨x,hx,hg⟩:=bind_some hf;unfold aZ at hg;split at hg
 ·rename_i hs
  have e:=aIz hg;subst e;refine⟨Ex,ρ,M,x,S,hx,fun v H' s r=>q v H' s ?_⟩;have r':=rE (A':=Ad B H M 3) x hs (r.rep S);cases x<;>first | exact r' | (simp[im] at hs)
 ·cases hg
theorem GE.flt (h:GE X B fl e f true l):GE X B fl e (f1 f sI) true 3:=by
 refine bI h ?_;rintro σ H Q ⟨Ex,ρ,M,t,S,hf,q⟩;obtain⟨x,hx,hg⟩:=bind_some hf;refine⟨Ex,ρ,M,x,S,hx,fun v H' s r=>q v H' s ?_⟩;cases x with
 | lst ts=>
  unfold sI at hg;dsimp only at hg;split at hg
  ·rename_i hs
   cases hg;obtain⟨a,xs,e,h1,h2,r⟩:=r;exact⟨a,xs,e,h1,h2,yI hs r⟩
  ·cases hg
 | tup ts=>cases hg
 | non=>cases hg;exact r
 | bl _=>cases hg;exact r
 | int _=>cases hg;exact r
 | str _=>cases hg;exact r
 | exc _=>cases hg;exact r
 | dct _=>cases hg
 | own _=>cases hg
theorem aB (i:Nat) {x:Str}(hN:X.N[i]?=some x:=by rfl) (hv:Vis X.env.scope x:=by first | exact Or.inl rfl | exact Or.inr (Or.inl rfl) | exact Or.inr (Or.inr rfl)) (hd:(x == ("__debug__" : Str))=false:=by decide)
  (hcd:(x == ("__classdict__" : Str))=false:=by decide):GE X B fl (.Name x pos) (aA i) false (min (fl.getD i 1) 2):=by
 refine bI (pv (X:=X) i hN hv hd hcd) ?_;rintro σ H Q ⟨Ex,ρ,M,t,S,hf,q⟩;have e:ρ[i]?=some (some t):=by
  unfold aA at hf;cases h:ρ[i]? with
  | none=>rw[h] at hf;cases hf
  | some o=>rw[h] at hf;cases (show o=some t from hf);rfl
 by_cases k:1<=fl.getD i 1\/im t=true
 ·obtain⟨v,e1,r⟩:=S.slot i t e k
  exact⟨v,e1,q v H (aO.refl H) (by cases t<;>exact r)⟩
 ·have k0:fl.getD i 1=0:=by lia
  have ki:im t=false:=by
   cases h:im t with
   | false=>rfl
   | true=>exact absurd (.inr h) k
  obtain⟨g,hg,_⟩:=S.mu;obtain⟨v,e1,e2,e3⟩:=hg i t e k0 ki;rw[k0] at q;exact⟨_,e1,q _ H (aO.refl H) (by
   have:=e2.rep (A:=Ad B H M 0) (fun _=>Ad.zero) fun c us h=>(by
    obtain⟨xs,q1,q2,_⟩:=e3 c us h;exact⟨xs,q1,q2.weak fun b _=>Ad.zero⟩)
   cases t<;>exact this)⟩
theorem ge_int {i:Int}{j:Nat}:GE X B fl (.Constant (.int i) j pos) (fC (.int i)) true 3:=
 bI aCn fun _ H _ ⟨_,_,_,_,_,hf,q⟩=>q _ H (aO.refl H) (by cases (aIz hf);rfl)
theorem jQ {i:Bool}{j:Nat}:GE X B fl (.Constant (.bool i) j pos) (fC (.bl i)) true 3:=
 bI aCj fun _ H _ ⟨_,_,_,_,_,hf,q⟩=>q _ H (aO.refl H) (by cases (aIz hf);rfl)
theorem qP {j:Nat}:GE X B fl (.Constant .none j pos) (fC .non) true 3:=
 bI aCr fun _ H _ ⟨_,_,_,_,_,hf,q⟩=>q _ H (aO.refl H) (by cases (aIz hf);rfl)
def SOp (r:R2) (F:T->T->Option T):Prop:=∀ x y t,F x y=some t->scal x=true/\scal y=true/\scal t=true/\∀ (H:Hp) (Q:VK),Q (tv t) H->r (tv x) (tv y) H Q
theorem fH {op:Operator}{r:R2}{F:T->T->Option T}(ho:OpR X (binaryOp op) r) (hF:SOp r F) (ha:GE X B fl a f n l) (hb:GE X B fl b g n' l'):GE X B fl (.BinOp a op b pos) (f2 f g F) true 3:=by
 refine bI (DA ho ha hb) ?_;rintro σ H Q ⟨Ex,ρ,M,t,S,hf,q⟩;obtain⟨x,hx,hf⟩:=bind_some hf;obtain⟨y,hy,hf⟩:=bind_some hf;obtain⟨sx,sy,st,k⟩:=hF x y t hf;refine⟨Ex,ρ,M,x,S,hx,fun vx H1 s1 rx=>⟨Ex,ρ,M,y,S.grow s1,hy,fun vy H2 s2 ry=>?_⟩⟩;rw[aN.scal sx] at rx;rw[aN.scal sy] at ry;subst rx ry;exact k H2 Q (q _ H2 (s1.trans s2) ((aN.scal st).mpr rfl))
theorem HZ {op:CmpOp}{r:R2}{F:T->T->Option T}(ho:OpR X (compareOp op) r) (hF:SOp r F) (ha:GE X B fl a f n l) (hb:GE X B fl b g n' l') (hm:behindInMarks op b=false:=by first | exact gO _ | rfl):GE X B fl (.Compare a [op] [b] pos) (f2 f g F) true 3:=by
 refine bI (LP ho ha hb hm) ?_;rintro σ H Q ⟨Ex,ρ,M,t,S,hf,q⟩;obtain⟨x,hx,hf⟩:=bind_some hf;obtain⟨y,hy,hf⟩:=bind_some hf;obtain⟨sx,sy,st,k⟩:=hF x y t hf;refine⟨Ex,ρ,M,x,S,hx,fun vx H1 s1 rx=>⟨Ex,ρ,M,y,S.grow s1,hy,fun vy H2 s2 ry=>?_⟩⟩;rw[aN.scal sx] at rx;rw[aN.scal sy] at ry;subst rx ry;exact k H2 Q (q _ H2 (s1.trans s2) ((aN.scal st).mpr rfl))
def oI (C:Int->Int->Bool) (h:Int->Int->T):T->T->Option T
 | .int i,.int j=>if C i j then some (h i j) else none
 | _,_=>none
theorem qF {C:Int->Int->Prop}{c:Int->Int->Bool}{gv:Int->Int->V}{h:Int->Int->T}(hc:∀ i j,c i j=true->C i j) (hs:∀ i j,scal (h i j)=true) (he:∀ i j,tv (h i j)=gv i j):SOp (rI C gv) (oI c h):=by
 intro x y t e;cases x<;>first | (cases e;done) | skip
 cases y<;>first | (cases e;done) | skip
 rename_i i j;unfold oI at e;dsimp only at e;split at e
 ·rename_i k
  cases e;exact⟨rfl,rfl,hs i j,fun H Q q=>⟨i,j,rfl,rfl,hc i j k,by rw[<- he i j];exact q⟩⟩
 ·cases e
theorem jH {gv:Int->Int->V}{h:Int->Int->T}(hs:∀ i j,scal (h i j)=true) (he:∀ i j,tv (h i j)=gv i j):SOp (rI0 gv) (oI (fun _ _=>true) h):=by
 intro x y t e;cases x<;>first | (cases e;done) | skip
 cases y<;>first | (cases e;done) | skip
 rename_i i j;cases (show some (h i j)=some t from e);exact⟨rfl,rfl,hs i j,fun H Q q=>⟨i,j,rfl,rfl,by rw[<- he i j];exact q⟩⟩
abbrev cT:Int->Int->Bool:=fun _ _=>true
def dW:T->T->Option T:=oI cT fun i j=>.int (i+j)
def eF:T->T->Option T:=oI cT fun i j=>.int (i-j)
def fN (i j:Int):Bool:=decide (i.natAbs<2^64)||decide (j.natAbs<2^64)||(decide (Builtin.Int.intBits i<=2^20)&&decide (Builtin.Int.intBits j<=2^20))
def bG:T->T->Option T:=oI fN fun i j=>.int (i*j)
def bV:T->T->Option T:=oI (fun _ j=>decide (0<j)&&decide (j<2^200)) fun i j=>.int (i / j)
def bE:T->T->Option T:=oI (fun _ j=>decide (0<j)) fun i j=>.int (i%j)
def nC:T->T->Option T:=oI (fun _ j=>decide (0<=j)) fun i j=>.int (i / 2^j.toNat)
def eE:T->T->Option T:=oI (fun i j=>decide (0<=j)&&decide (j<=1000000)&&decide (i.natAbs<2^64)) fun i j=>.int (i*2^j.toNat)
def dX:T->T->Option T:=oI (fun i j=>decide (0<=j)&&decide ((Builtin.Int.intBits i:Int)*j<=2^27)) fun i j=>.int (i^j.toNat)
def jC:T->T->Option T:=oI cT fun i j=>.int (Builtin.bitAnd i j)
def oOr:T->T->Option T:=oI cT fun i j=>.int (Builtin.bitOr i j)
def CU:T->T->Option T:=oI cT fun i j=>.int (Builtin.bitXor i j)
def oLt:T->T->Option T:=oI cT fun i j=>.bl (decide (i<j))
def oLe:T->T->Option T:=oI cT fun i j=>.bl (decide (i<=j))
def oGt:T->T->Option T:=oI cT fun i j=>.bl (decide (j<i))
def oGe:T->T->Option T:=oI cT fun i j=>.bl (decide (j<=i))
theorem aA6 {i j:Int}(h:fN i j=true):IntMulOk i j:=by
 unfold fN at h;rcases Bool.or_eq_true_iff.mp h with h | h
 ·rcases Bool.or_eq_true_iff.mp h with h | h
  ·have h:=of_decide_eq_true h
   exact .of_left (intBits_le_64 (by lia) (by lia))
  ·have h:=of_decide_eq_true h
   exact .of_right (intBits_le_64 (by lia) (by lia))
 ·have h:=aJd.mp h
  exact .of_bits (of_decide_eq_true h.1) (of_decide_eq_true h.2)
theorem aBx:OpR X (binaryOp .Mult) (rI (fun i j=>fN i j=true) fun i j=>.int (i*j)):=opI fun _ _ _ _ _ _ _ hc q=>mul_int q (aA6 hc)
theorem aBy:OpR X (binaryOp .Pow) (rI (fun i j=>0<=j/\(Builtin.Int.intBits i:Int)*j<=2^27) fun i j=>.int (i^j.toNat)):=opI fun _ _ _ _ _ _ _ hc q=>pow_int hc.1 hc.2 q
theorem eL (ha:GE X B fl a f n l) (hb:GE X B fl b g n' l'):GE X B fl (.BinOp a .Add b pos) (f2 f g dW) true 3:=fH aBz (jH (fun _ _=>rfl) fun _ _=>rfl) ha hb
theorem eU (ha:GE X B fl a f n l) (hb:GE X B fl b g n' l'):GE X B fl (.BinOp a .Sub b pos) (f2 f g eF) true 3:=fH aCe (jH (fun _ _=>rfl) fun _ _=>rfl) ha hb
theorem cL (ha:GE X B fl a f n l) (hb:GE X B fl b g n' l'):GE X B fl (.BinOp a .Mult b pos) (f2 f g bG) true 3:=fH aBx (qF (fun _ _ k=>k) (fun _ _=>rfl) fun _ _=>rfl) ha hb
theorem mT (ha:GE X B fl a f n l) (hb:GE X B fl b g n' l'):GE X B fl (.BinOp a .Pow b pos) (f2 f g dX) true 3:=fH aBy (qF (fun _ _ k=>by simpa using k) (fun _ _=>rfl) fun _ _=>rfl) ha hb
theorem cO (ha:GE X B fl a f n l) (hb:GE X B fl b g n' l'):GE X B fl (.BinOp a .Mod b pos) (f2 f g bE) true 3:=fH aC5 (qF (fun _ _ k=>of_decide_eq_true k) (fun _ _=>rfl) fun _ _=>rfl) ha hb
theorem BE (ha:GE X B fl a f n l) (hb:GE X B fl b g n' l'):GE X B fl (.BinOp a .RShift b pos) (f2 f g nC) true 3:=fH aCd (qF (fun _ _ k=>of_decide_eq_true k) (fun _ _=>rfl) fun _ _=>rfl) ha hb
theorem gM (ha:GE X B fl a f n l) (hb:GE X B fl b g n' l'):GE X B fl (.BinOp a .LShift b pos) (f2 f g eE) true 3:=fH aCc (qF (fun _ _ k=>by simpa [EL,and_assoc] using k) (fun _ _=>rfl) fun _ _=>rfl) ha hb
theorem mR (ha:GE X B fl a f n l) (hb:GE X B fl b g n' l'):GE X B fl (.BinOp a .BitAnd b pos) (f2 f g jC) true 3:=fH aC0 (jH (fun _ _=>rfl) fun _ _=>rfl) ha hb
theorem wZ (ha:GE X B fl a f n l) (hb:GE X B fl b g n' l'):GE X B fl (.BinOp a .BitOr b pos) (f2 f g oOr) true 3:=fH aC9 (jH (fun _ _=>rfl) fun _ _=>rfl) ha hb
theorem XC (ha:GE X B fl a f n l) (hb:GE X B fl b g n' l'):GE X B fl (.BinOp a .BitXor b pos) (f2 f g CU) true 3:=fH aCf (jH (fun _ _=>rfl) fun _ _=>rfl) ha hb
theorem ID (ha:GE X B fl a f n l) (hb:GE X B fl b g n' l'):GE X B fl (.Compare a [.Lt] [b] pos) (f2 f g oLt) true 3:=HZ LL (jH (fun _ _=>rfl) fun _ _=>rfl) ha hb
theorem WT (ha:GE X B fl a f n l) (hb:GE X B fl b g n' l'):GE X B fl (.Compare a [.GtE] [b] pos) (f2 f g oGe) true 3:=HZ aC2 (jH (fun _ _=>rfl) fun _ _=>rfl) ha hb
end
end G
namespace L2
open PySem PySem.Spec PyProof.Rows
def cK (cells:List (Str × Addr)):List (Str × NameKind)->List (Str × Addr)->Option (List (Str × Addr))
 | [],cs=>some cs
 | (n,k)::r,cs=>if k == .free then (match cells.lookup n with | some a=>cK cells r ((n,a)::cs) | none=>none) else cK cells r cs
theorem AF {scope:Scope}{env:Env}{cl:List (Str × Addr)}(h:cK env.cells scope.names []=some cl):closureFor scope env=pure cl:=by
 have key:∀ (ns:List (Str × NameKind)) (cs:List (Str × Addr)),cK env.cells ns cs=some cl ->
   (forIn ns cs (fun (x:Str × NameKind) (cs:List (Str × Addr))=>if x.2 == .free then (do let a <- cellOf env x.1;pure (ForInStep.yield ((x.1,a)::cs))) else pure (ForInStep.yield cs)):Sem (List (Str × Addr)))=pure cl:=by
  intro ns
  induction ns with
  | nil=>intro cs h;cases (aIz h);rfl
  | cons x r ih=>
   intro cs h;obtain⟨n,k⟩:=x;rw[List.forIn_cons];unfold cK at h;dsimp only at h ⊢
   by_cases hk:(k == NameKind.free)=true
   ·rw[if_pos hk] at h ⊢
    cases hl:env.cells.lookup n with
    | none=>rw[hl] at h;cases h
    | some a=>
     rw[hl] at h;have e:cellOf env n=pure a:=by unfold cellOf;rw[hl]
     rw[e];simp only[pure_bind];exact ih _ h
   ·rw[if_neg hk] at h ⊢
    simp only[pure_bind];exact ih _ h
 have q:=key scope.names [] h;unfold closureFor
 simpa using q
theorem AE {cells:List (Str × Addr)}:∀ {ns:List (Str × NameKind)}{cs cl:List (Str × Addr)},cK cells ns cs=some cl->(∀ x c,cs.lookup x=some c->cells.lookup x=some c)->∀ x c,cl.lookup x=some c->cells.lookup x=some c
 | [],cs,cl,h,k=>by cases (aIz h);exact k
 | (n,kd)::r,cs,cl,h,k=>by
  unfold cK at h
  by_cases hk:(kd == NameKind.free)=true
  ·rw[if_pos hk] at h
   cases hl:cells.lookup n with
   | none=>rw[hl] at h;cases h
   | some a=>
    rw[hl] at h;refine AE h fun x c e=>?_;rw[aKm] at e
    by_cases hx:(x == n)=true
    ·rw[hx] at e
     cases (aIz e);rw[eq_of_beq hx];exact hl
    ·have hx':(x == n)=false:=by simpa using hx
     rw[hx'] at e;exact k x c e
  ·rw[if_neg hk] at h
   exact AE h k
theorem wO {cells:List (Str × Addr)}{x:Str}:∀ {ns:List (Str × NameKind)}{cs cl:List (Str × Addr)},cK cells ns cs=some cl->((x,NameKind.free)∈ns\/∃ c,cs.lookup x=some c)->∃ c,cl.lookup x=some c
 | [],cs,cl,h,k=>by
  cases (aIz h);rcases k with k | k
  ·cases k
  ·exact k
 | (n,kd)::r,cs,cl,h,k=>by
  unfold cK at h;have old:∀ a,(∃ c,cs.lookup x=some c)->∃ c,((n,a)::cs).lookup x=some c:=fun a ⟨c,e⟩=>by
   rw[aKm]
   by_cases hx:(x == n)=true
   ·rw[hx];exact⟨_,rfl⟩
   ·have hx':(x == n)=false:=by simpa using hx
    rw[hx'];exact⟨c,e⟩
  by_cases hk:(kd == NameKind.free)=true
  ·rw[if_pos hk] at h
   cases hl:cells.lookup n with
   | none=>rw[hl] at h;cases h
   | some a=>
    rw[hl] at h;refine wO h ?_;rcases k with k | k
    ·rcases aJb.mp k with e | k
     ·cases e
      exact .inr ⟨a,by rw[aKm];simp⟩
     ·exact .inl k
    ·exact .inr (old a k)
  ·rw[if_neg hk] at h
   refine wO h ?_;rcases k with k | k
   ·rcases aJb.mp k with e | k
    ·cases e
     exact absurd rfl hk
    ·exact .inl k
   ·exact .inr k
theorem wP {cells:List (Str × Addr)}:∀ {ns:List (Str × NameKind)}{cs:List (Str × Addr)},(∀ n,(n,NameKind.free)∈ns->∃ c,cells.lookup n=some c)->∃ cl,cK cells ns cs=some cl
 | [],cs,_=>⟨cs,rfl⟩
 | (n,kd)::r,cs,k=>by
  unfold cK
  by_cases hk:(kd == NameKind.free)=true
  ·rw[if_pos hk]
   obtain⟨c,e⟩:=k n (by rw[eq_of_beq hk];exact aJ3);rw[e];exact wP fun m hm=>k m (aJ2 _ hm)
  ·rw[if_neg hk]
   exact wP fun m hm=>k m (aJ2 _ hm)
def qR:Option NameKind->Bool
 | some .cell=>true
 | _=>false
theorem JO {o:Option NameKind}(h:qR o=true):o=some .cell:=by
 cases o with
 | none=>cases h
 | some k=>cases k<;>first | rfl | cases h
theorem kA {x y:Str}{n:Addr}{cs:List (Str × Addr)}:((y,n)::cs).lookup x=if (x == y)=true then some n else cs.lookup x:=by
 rw[aKm]
 by_cases h:(x == y)=true
 ·rw[h];rfl
 ·have h':(x == y)=false:=by simpa using h
  rw[h'];rfl
theorem xX {x:Str}:∀ {ns:List (Str × NameKind)}{n n0:Nat}{cs:List (Str × Addr)},n0<=n->(ns.lookup x=some .cell\/∃ c,cs.lookup x=some c/\n0<=c)->∃ c,(cellsFrom n ns cs).lookup x=some c/\n0<=c
 | [],n,n0,cs,_,h=>by
  rcases h with h | h
  ·cases h
  ·exact h
 | (y,k)::r,n,n0,cs,hn,h=>by
  unfold cellsFrom
  by_cases hk:(k == NameKind.cell)=true
  ·rw[if_pos hk]
   refine xX (Nat.le_succ_of_le hn) ?_
   by_cases hx:(x == y)=true
   ·exact .inr ⟨n,by rw[kA,if_pos hx],hn⟩
   ·rcases h with h | ⟨c,e,hc⟩
    ·have hx':(x == y)=false:=by simpa using hx
     rw[aKm,hx'] at h;exact .inl h
    ·exact .inr ⟨c,by rw[kA,if_neg hx];exact e,hc⟩
  ·rw[if_neg hk]
   refine xX hn ?_;rcases h with h | h
   ·rw[aKm] at h
    by_cases hx:(x == y)=true
    ·rw[hx] at h
     have h':k=NameKind.cell:=aIz h;rw[h'] at hk;exact absurd rfl hk
    ·have hx':(x == y)=false:=by simpa using hx
     rw[hx'] at h;exact .inl h
   ·exact .inr h
theorem CY {x:Str}{c:Addr}:∀ {ns:List (Str × NameKind)}{n:Nat}{cs:List (Str × Addr)},(x,NameKind.cell) ∉ ns->cs.lookup x=some c->(cellsFrom n ns cs).lookup x=some c
 | [],_,_,_,h=>h
 | (y,k)::r,n,cs,hx,h=>by
  unfold cellsFrom;have hr:(x,NameKind.cell) ∉ r:=fun z=>hx (aJ2 _ z)
  by_cases hk:(k == NameKind.cell)=true
  ·rw[if_pos hk]
   refine CY hr ?_;have:¬ (x == y)=true:=fun z=>hx (by rw[eq_of_beq z,eq_of_beq hk];exact aJ3);rw[kA,if_neg this];exact h
  ·rw[if_neg hk]
   exact CY hr h
theorem xY {x:Str}{c:Addr}:∀ {ns:List (Str × NameKind)}{n:Nat}{cs:List (Str × Addr)},cs.lookup x=some c->∃ c',(cellsFrom n ns cs).lookup x=some c'
 | [],_,_,h=>⟨c,h⟩
 | (y,k)::r,n,cs,h=>by
  unfold cellsFrom
  by_cases hk:(k == NameKind.cell)=true
  ·rw[if_pos hk]
   by_cases hx:(x == y)=true
   ·exact xY (c:=n) (by rw[kA,if_pos hx])
   ·exact xY (c:=c) (by rw[kA,if_neg hx];exact h)
  ·rw[if_neg hk]
   exact xY h
theorem CZ {x:Str}{c:Addr}:∀ {ns:List (Str × NameKind)}{h:Heap}{cs:List (Str × Addr)},(cellsFrom h.objs.size ns cs).lookup x=some c->cs.lookup x=some c\/(h.objs.size<=c/\(pushCells h ns).IsCell c none)
 | [],_,_,e=>.inl e
 | (y,k)::r,h,cs,e=>by
  unfold cellsFrom at e;unfold pushCells
  by_cases hk:(k == NameKind.cell)=true
  ·rw[if_pos hk] at e
   rw[if_pos hk];have e':(cellsFrom (h.push { cls:=.type "cell",data:=.cell none }).objs.size r ((y,h.objs.size)::cs)).lookup x=some c:=by rw[aJk];exact e
   rcases CZ e' with q | ⟨q1,q2⟩
   ·rw[kA] at q
    by_cases hx:(x == y)=true
    ·rw[if_pos hx] at q
     cases q;exact .inr ⟨aL8 _,_,pushCells_keeps r _ _ _ (aJi _ rfl),rfl⟩
    ·rw[if_neg hx] at q
     exact .inl q
   ·rw[aJk] at q1
    exact .inr ⟨Nat.le_of_succ_le q1,q2⟩
  ·rw[if_neg hk] at e
   rw[if_neg hk];exact CZ e
theorem CW:∀ {ns:List (Str × NameKind)}{n:Nat}{cs:List (Str × Addr)},(∀ x c,cs.lookup x=some c->c<n)->(∀ x y c,cs.lookup x=some c->cs.lookup y=some c->x=y) ->
  ∀ x y c,(cellsFrom n ns cs).lookup x=some c->(cellsFrom n ns cs).lookup y=some c->x=y
 | [],_,_,_,h=>h
 | (z,k)::r,n,cs,hb,h=>by
  unfold cellsFrom
  by_cases hk:(k == NameKind.cell)=true
  ·rw[if_pos hk]
   refine CW (fun x c e=>?_) fun x y c e1 e2=>?_
   ·rw[kA] at e
    split at e
    ·cases e;exact aLd _
    ·exact Nat.lt_succ_of_lt (hb x c e)
   ·rw[kA] at e1 e2
    split at e1
    ·rename_i hx
     cases e1;split at e2
     ·rename_i hy
      rw[eq_of_beq hx,eq_of_beq hy]
     ·exact absurd (hb y _ e2) (aLa _)
    ·split at e2
     ·cases e2
      exact absurd (hb x _ e1) (aLa _)
     ·exact h x y c e1 e2
  ·rw[if_neg hk]
   exact CW hb h
theorem aA8 {M:Model}{A:Around}{E:Value->Shared->Prop}{s:Shared}{scope:Scope}{globals:Addr}{closure:List (Str × Addr)}{qual:Str}{outer:Env}{builtins:Addr}{Q:Env->Shared->Prop}
  (hQ:Q (newEnv scope s.heap.objs.size globals (cellsFrom (s.heap.objs.size+1) scope.names closure) qual none .none (some outer) builtins) { s with heap:=pushCells (s.heap.push { cls:=.type "dict",data:=.dict #[] }) scope.names }):
  wpAny M A (newFunctionEnv scope globals closure [] qual none .none (some outer) builtins) Q E s:=by
 simp only[newFunctionEnv,Option.isSome_some,if_true];simp only[newEnv] at hQ;refine wpAny_bind (wpAny_alloc ?_);refine wpAny_bind (wpAny_layCells _ (fun name kind cells=>by cases hkc:kind == NameKind.cell<;>simp[hkc]) _ _ _ _ ?_)
 rw[show ({ s with heap:=s.heap.push { cls:=.type "dict",data:=.dict #[] } }:Shared).heap.objs.size=s.heap.objs.size+1 from aJk ..];refine wpAny_bind ?_;rw[List.forIn_nil];exact wpAny_pure (wpAny_pure hQ)
def cxB (X:Cx) (scope:Scope) (N':List Str) (cl:List (Str × Addr)) (C:Addr) (s:Shared) (H:Hp) (ex:List Addr):Cx where
 prog:=X.prog
 w:=X.w
 K:=X.K
 mg:=X.mg
 base:=X.base
 A:=X.A
 N:=N'
 s₀:=s
 H₀:=H
 env:=compEnvC scope cl C X.env
 outer:=X.stack
 stack:=X.stack
 ex:=ex
 fn:=fun x=>qR (scope.names.lookup x)
 calm:=X.calm
 pn:=[]
 xe:=fun _ _=>False
def cM (src:List (Option Nat)) (σ:St):St:=src.map fun o=>o.bind fun i=>(σ[i]?).join
structure BlkOk (X:Cx) (scope:Scope) (N':List Str) (src:List (Option Nat)):Prop where
 kind:scope.kind=.function
 cells:∀ y∈scope.names,y.2=.cell->scope.names.lookup y.1=some .cell
 names:∀ y∈scope.names,y.2=.local->scope.names.lookup y.1=some .local
 frees:∀ y∈scope.names,y.2=.free->X.env.kindOf y.1=some .cell\/X.env.kindOf y.1=some .free
 srcN:∀ (j i:Nat),src[j]?=some (some i)->∃ x,N'[j]?=some x/\X.N[i]?=some x/\scope.names.lookup x≠some .local/\scope.names.lookup x≠some .cell
 len:src.length=N'.length
theorem xI {env:Env}:∀ {names:List (Str × NameKind)}{x:Str}{k:NameKind},
  (names.map fun (n,k)=>if (k == NameKind.free&&env.scope.kind == .function&&env.kindOf n == some .cell) then (n,NameKind.cell) else (n,k)).lookup x=some k->∃ k0,names.lookup x=some k0/\(x,k0)∈names/\(k0=k\/(k0=.free/\k=.cell))
 | [],_,_,h=>by simp at h
 | (n,kd)::r,x,k,h=>by
  have ih:=@xI env r x k
  by_cases hc:(kd == NameKind.free&&env.scope.kind == .function&&env.kindOf n == some .cell)=true
  ·have e:((n,kd)::r).map (fun (n,k)=>if (k == NameKind.free&&env.scope.kind == .function&&env.kindOf n == some .cell) then (n,NameKind.cell) else (n,k))=(n,NameKind.cell)::r.map (fun (n,k)=>if (k == NameKind.free&&env.scope.kind == .function&&env.kindOf n == some .cell) then (n,NameKind.cell) else (n,k)):=by
    rw[aKo];dsimp only;rw[if_pos hc]
   rw[e,aKm] at h;have hf:kd=.free:=by
    have:=(aJd.mp (aJd.mp hc).1).1;exact eq_of_beq this
   by_cases hx:(x == n)=true
   ·rw[hx] at h
    have h':NameKind.cell=k:=aIz h;refine⟨kd,by rw[aKm,hx],by rw[eq_of_beq hx];exact aJ3,.inr ⟨hf,h'.symm⟩⟩
   ·have hx':(x == n)=false:=by simpa using hx
    rw[hx'] at h;obtain⟨k0,a,b,c⟩:=ih h;exact⟨k0,by rw[aKm,hx'];exact a,aJ2 _ b,c⟩
  ·have e:((n,kd)::r).map (fun (n,k)=>if (k == NameKind.free&&env.scope.kind == .function&&env.kindOf n == some .cell) then (n,NameKind.cell) else (n,k))=(n,kd)::r.map (fun (n,k)=>if (k == NameKind.free&&env.scope.kind == .function&&env.kindOf n == some .cell) then (n,NameKind.cell) else (n,k)):=by
    rw[aKo];dsimp only;rw[if_neg hc]
   rw[e,aKm] at h
   by_cases hx:(x == n)=true
   ·rw[hx] at h
    have h':kd=k:=aIz h;exact⟨kd,by rw[aKm,hx],by rw[eq_of_beq hx];exact aJ3,.inl h'⟩
   ·have hx':(x == n)=false:=by simpa using hx
    rw[hx'] at h;obtain⟨k0,a,b,c⟩:=ih h;exact⟨k0,by rw[aKm,hx'];exact a,aJ2 _ b,c⟩
section
variable {X:Cx}{pins:List (Addr × Obj)}{σ:St}{H:Hp}{s2:Shared}
theorem YQ {scope : Scope} {N' : List Str} {src : List (Option Nat)} {cl : List (Str × Addr)} {fp : List Addr} {h4 : Heap} {t4 : Nat} {C : Addr} {m : Str -> Option Value} (S : BlkOk X scope N' src) (I : Inv X pins σ H s2)
  (hcl : cK X.env.cells scope.names [] = some cl) (hf : ∀ b ∈ fp, fA X pins H b) (ho : ∀ b ∈ fp, ∃ o, s2.heap.get? b = some o) (hC : s2.heap.objs.size < C)
  (hk : ∀ b o, s2.heap.get? b = some o -> h4.get? b = some o) (hD : h4.get? s2.heap.objs.size = some { cls := .type "list", data := .seq ([] : List Value).toArray 0 }) (hns : h4.Ns C m)
  (hown : ∀ x c, (cellsFrom (C + 1) scope.names cl).lookup x = some c -> cl.lookup x = some c \/ (C < c /\ h4.IsCell c none)) :
  Inv (cxB X scope N' (cellsFrom (C + 1) scope.names cl) C s2 H fp) [] (cM src σ) (upd H s2.heap.objs.size (.lst [])) { s2 with heap := h4, toks := t4 } := by
 have hH : H s2.heap.objs.size = none := I.hok.fresh (aL8 _);have hHC : H C = none := I.hok.fresh (aL7 hC);have sub := AE hcl (fun x c e => by simp at e);have clt : ∀ x c, cl.lookup x = some c -> c < s2.heap.objs.size := fun x c e => by
  obtain ⟨v, q⟩ := I.cell x c (sub x c e);exact q.lt
 have frKind : ∀ x, ((relabel scope X.env).names.lookup x = some .cell \/ (relabel scope X.env).names.lookup x = some .free) -> (x, NameKind.free) ∈ scope.names \/ scope.names.lookup x = some .cell := fun x hx => by
  rcases hx with hx | hx
  ·obtain ⟨k0, a, b, c⟩ := xI hx
   rcases c with rfl | ⟨rfl, _⟩
   ·exact .inr a
   ·exact .inl b
  ·obtain ⟨k0, _, b, c⟩ := xI hx
   rcases c with rfl | ⟨rfl, _⟩
   ·exact .inl b
   ·exact .inl b
 have noex : ∀ b o, X.base.get? b = some o -> b ∉ fp := fun b o e hb => by
  rcases (hf b hb).2.2.2.1 with z | z
  ·exact I.ok.noex b o e z
  ·exact absurd (aJ7 (aJ7 (aJj e) I.ok.bsz) z) (aLa _)
 have hasC : ∀ x, ((relabel scope X.env).names.lookup x = some .cell \/ (relabel scope X.env).names.lookup x = some .free) -> ∃ c, (cellsFrom (C + 1) scope.names cl).lookup x = some c := fun x hx => by
  rcases frKind x hx with q | q
  ·obtain ⟨c, e⟩ := wO hcl (.inl q)
   exact xY e
  ·obtain ⟨c, e, _⟩ := xX (n0 := C + 1) (cs := cl) (aL8 (C + 1)) (.inl q)
   exact ⟨c, e⟩
 have cabC : ∀ x c, qR (scope.names.lookup x) = true -> (cellsFrom (C + 1) scope.names cl).lookup x = some c -> s2.heap.objs.size <= c := fun x c z e => by
  obtain ⟨c', e', h'⟩ := xX (n0 := C + 1) (cs := cl) (aL8 (C + 1)) (.inl (JO z));rw [e] at e';cases e';exact aL7 (aLe hC h')
 have exC : ∀ b ∈ fp, ∀ x c, (cellsFrom (C + 1) scope.names cl).lookup x = some c -> c ≠ b := fun b hb x c e => by
  rcases hown x c e with q | ⟨q, _⟩
  ·exact (hf b hb).2.2.2.2.1 x c (sub x c q)
  ·rintro rfl
   obtain ⟨o, eo⟩ := ho c hb;exact absurd (aLe (aJj eo) (aLe hC q)) (aLa _)
 refine ⟨⟨I.ok.mod, S.kind, I.ok.glob, I.ok.blt, aL7 hC, CW (fun x c e => Nat.lt_succ_of_lt (aLe (clt x c e) hC)) (fun x y c e1 e2 => I.ok.inj x y c (sub x c e1) (sub y c e2)), fun x hx => hasC x hx, fun x c z e => cabC x c z e, I.ok.hd, I.ok.frames, .inl rfl, fun b hb => ⟨fun z => ?_, fun x c e => exC b hb x c e⟩,
   I.bs, aL9 I.ok.bsz I.sz, noex, fun b hb z => ?_, I.stack, I.stkFree⟩,
  rfl, I.bare, Un.laid hk (aL8 _) hH, ⟨m, hns, fun i x v e1 e2 e3 => ?_⟩, fun x c e => ?_, ?_, fun x c e => ?_, fun p hp => absurd (show p ∈ ([] : List (Addr × Obj)) from hp) (by simp), I.hok.laid hk (aL8 _) ?_, ?_⟩
 ·obtain ⟨o, e⟩ := ho b hb
  have z' : b = C := z;subst z';exact absurd (aLe (aJj e) hC) (aLa _)
 ·rcases aJb.mp (I.stkSub b z) with e | z
  ·exact (hf b hb).2.1 e
  ·exact (hf b hb).2.2.1 z
 ·-- a captured name
  have e2' : (src.map fun o => o.bind fun i => (σ[i]?).join)[i]? = some (some v) := e2;rw [aKa] at e2';cases es : src[i]? with
  | none => rw [es] at e2'; cases e2'
  | some o =>
   rw [es] at e2';have e2'' : (o.bind fun i => (σ[i]?).join) = some v := aIz e2';cases o with
   | none => cases e2''
   | some j =>
    have ej : σ[j]? = some (some v) := by
     have z : (σ[j]?).join = some v := e2'';cases q : σ[j]? with
     | none => rw [q] at z; cases z
     | some w => rw [q] at z; cases (show w = some v from z); rfl
    obtain ⟨x', n1, n2, n3⟩ := S.srcN i j es;have ex : x' = x := by
     have z : N'[i]? = some x := e1;rw [n1] at z; exact aIz z
    subst ex;have hkd : (relabel scope X.env).names.lookup x' = some .cell \/ (relabel scope X.env).names.lookup x' = some .free := by
     have e3' : Vis (relabel scope X.env) x' := e3;rcases e3' with z | z | z
     ·obtain ⟨k0, a, _, c⟩ := xI z
      rcases c with rfl | ⟨_, q⟩
      ·exact absurd a n3.1
      ·cases q
     ·exact .inl z
     ·exact .inr z
    have hfr := (frKind x' hkd).resolve_right n3.2;have nown : (x', NameKind.cell) ∉ scope.names := fun z => n3.2 (S.cells _ z rfl);have ok := S.frees _ hfr rfl;obtain ⟨m0, hn0, hl0⟩ := I.loc;obtain ⟨u, ru, lu⟩ := hl0 j x' v n2 ej (ok.elim (fun z => .inr (.inl z)) (fun z => .inr (.inr z)));refine ⟨u, ru, .inr ⟨hkd, ?_⟩⟩;rcases lu with ⟨z, _⟩ | ⟨_, c, ec, ic⟩
    ·exfalso
     have z' : X.env.kindOf x' = some .local := z;rcases ok with w | w <;> (rw [z'] at w; cases w)
    ·obtain ⟨c', ec'⟩ := wO hcl (.inl hfr)
     have : c' = c := by
      have := sub x' c' ec';rw [ec] at this;exact (aIz this).symm
     subst this;obtain ⟨oc, g1, g2⟩ := ic;exact ⟨c', CY nown ec', oc, hk _ _ g1, g2⟩
 ·rcases hown x c e with q | ⟨_, q⟩
  ·obtain ⟨v, oc, g1, g2⟩ := I.cell x c (sub x c q)
   exact ⟨v, oc, hk _ _ g1, g2⟩
  ·exact ⟨none, q⟩
 ·show upd H s2.heap.objs.size (.lst []) C = none
  rw [aV (aLg hC)];exact hHC
 ·show upd H s2.heap.objs.size (.lst []) c = none
  rcases hown x c e with q | ⟨q, _⟩
  ·rw [aV (aLh (clt x c q))]
   exact I.freeC x c (sub x c q)
  ·rw [aV (aLg (aLe hC q))]
   exact I.hok.fresh (aL7 (aLe hC q))
 ·exact ⟨aLq _, [], 0, .nil, hD⟩
 ·show (cM src σ).length = N'.length
  unfold cM;rw [aKg];exact S.len
end
section
variable {prog:Program}{w:World}{A:Around}{E:Value->Shared->Prop}{R:Result->Shared->Prop}{s:Shared}
theorem TJ {elt target iter : Expr} {ifs : List Expr} {scope : Scope} {pos : Pos} {it acc : Value} {env : Env} (I : Nat -> Shared -> Prop)
  (turn : ∀ n s, I n s -> wpAny (model prog w) A (pyNext it) (fun r s₁ => match r with
   | none => R (.ok .next) s₁
   | some v => wpAny (model prog w) A (letOwnedTupleGo target it v) (fun _ s₁' => wpAny (model prog w) A (assign target env v) (fun _ s₂ =>
     wpAny (model prog w) A (forIn ifs true fun c r => if r = true then do let ok <- isTrue c env (eval c env); pure (ForInStep.yield ok) else pure (ForInStep.yield r)) (fun ok s₃ =>
      if ok = true then wpAny (model prog w) A (eval elt env) (fun x s₄ =>
       wpAny (model prog w) A (call (.builtin "list.append") [acc, x]) (fun _ s₅ => ∃ m, m < n /\ I m s₅) (fun _ _ => False) s₄) (fun _ _ => False) s₃
      else ∃ m, m < n /\ I m s₃) (fun _ _ => False) s₂) (fun _ _ => False) s₁') (fun _ _ => False) s₁) (fun _ _ => False) s)
  (n : Nat) (h : I n s) :
  codeAny (model prog w) A (.compLoop (.ListComp elt [⟨target, iter, ifs, 0⟩] scope pos) 0 it acc env) R s := by
 refine codeAny_loop rfl I (fun n s hI => ?_) n h;show wpAny _ A ((compTurn (.ListComp elt [⟨target, iter, ifs, 0⟩] scope pos) 0 it acc env).onRaise (fun x => do noteFrame x env; theTreesLotGoes x)) _ _ s;refine wpAny_noted ?_;rw [compTurn_list];refine wpAny_bind (wpAny_standAt (wpAny_bind (wpAny_mono (turn n s hI) (fun r s₁ h₁ => ?_) fun _ _ h' => h'.elim)));cases r with
 | none => exact wpAny_pure h₁
 | some v =>
  refine wpAny_bind (wpAny_mono h₁ (fun _ s₁' h₁' => ?_) fun _ _ h' => h'.elim);refine wpAny_bind (wpAny_mono h₁' (fun _ s₂ h₂ => wpAny_bind (wpAny_mono h₂ (fun ok s₃ h₃ => ?_) fun _ _ h' => h'.elim)) fun _ _ h' => h'.elim);cases ok with
  | false => exact wpAny_pure ⟨rfl, h₃⟩
  | true =>
   exact wpAny_bind (wpAny_bind (wpAny_mono h₃ (fun x s₄ h₄ => wpAny_bind (wpAny_mono h₄ (fun _ s₅ h₅ => wpAny_pure (wpAny_pure ⟨rfl, h₅⟩)) fun _ _ h' => h'.elim)) fun _ _ h' => h'.elim))
end
def PIf (X:Cx) (ifs:List Expr) (t:TT):Prop:=
 ∀ (pins:List (Addr × Obj)) (s:Shared) (σ:St) (H:Hp) (Q:Bool->Hp->Prop),Inv X pins σ H s->t σ H Q ->
  wpAny (model X.prog X.w) X.A (forIn ifs true fun c r=>if r=true then do let ok <- isTrue c X.env (eval c X.env);pure (ForInStep.yield ok) else pure (ForInStep.yield r)) (TP X pins σ Q) X.xe s
def aG2:TT:=fun _ H Q=>Q true H
theorem aD5 {X:Cx}:PIf X [] aG2:=fun _ _ _ H _ I h=>wpAny_tests_nil ⟨H,I,h⟩
theorem aD6 {X:Cx}{c:Expr}{t:TT}(h:PT X c t):PIf X [c] t:=fun pins s σ H Q I hw=>wpAny_tests_one (h pins s σ H Q I hw)
def wB (wi:TI) (mk:St->St) (g:TG) (tc:TT) (te:TE):TE:=fun σ H Q=>wi σ H fun J H1=>∀ D,H1 D=none->∃ W:Nat->Nat->St->Hp->Prop,(∃ m,W 0 m (mk σ) (upd H1 D (.lst []))) /\
 ∀ i m σ1 H2,W i m σ1 H2->(J.stop i H2/\Q (.ref D) H2)\/(J.go i H2/\∀ x H3,J.yld i H2 x H3->g x σ1 H3 fun σ2 H4=>tc σ2 H4 fun b H5=>
  if b=true then te σ2 H5 fun v H6=>∃ xs,H6 D=some (.lst xs)/\xs.length<sizeLine/\∃ m',m'<m/\W (i+1) m' σ2 (upd H6 D (.lst (xs++[v]))) else ∃ m',m'<m/\W (i+1) m' σ2 H5)
section
variable {X:Cx}{elt tg iter:Expr}{ifs:List Expr}{scope:Scope}{pos:Pos}{N':List Str}{src:List (Option Nat)}{wi:TI}{g:TG}{tc:TT}{te:TE}
theorem GC {pins:List (Addr × Obj)}{σ:St}{H2:Hp}{s2:Shared}{E:Value->Shared->Prop}{cl:List (Str × Addr)}{it:Addr}{fp:List Addr}{tn:Nat->Heap->Prop}{J:It}{Q:VK}{RR:Value->Addr->Result->Shared->Prop}
  (S:BlkOk X scope N' src) (hc:X.calm=true) (hcl:cK X.env.cells scope.names []=some cl)
  (hb:∀ cl C s H ex,PG (cxB X scope N' cl C s H ex) tg g/\PIf (cxB X scope N' cl C s H ex) ifs tc/\PE (cxB X scope N' cl C s H ex) elt te)
  (I2:Inv X pins σ H2 s2) (Tn:Turn X.prog X.w X.K tg J fp it tn) (st2:tn 0 s2.heap) (f2:∀ b∈fp,fA X pins H2 b)
  (hw:∀ D,H2 D=none->∃ W:Nat->Nat->St->Hp->Prop,(∃ m,W 0 m (cM src σ) (upd H2 D (.lst []))) /\
   ∀ i m σ1 H2,W i m σ1 H2->(J.stop i H2/\Q (.ref D) H2)\/(J.go i H2/\∀ x H3,J.yld i H2 x H3->g x σ1 H3 fun σ2 H4=>tc σ2 H4 fun b H5=>
    if b=true then te σ2 H5 fun v H6=>∃ xs,H6 D=some (.lst xs)/\xs.length<sizeLine/\∃ m',m'<m/\W (i+1) m' σ2 (upd H6 D (.lst (xs++[v]))) else ∃ m',m'<m/\W (i+1) m' σ2 H5))
  (hR:∀ D C H' s' m,s2.heap.objs.size<=D->s2.heap.objs.size<=C->s'.heap.Ns C m->H' C=none->Inv X pins σ H' s'->Q (.ref D) H'->RR (.ref D) C (.ok .next) s'):
  wpAny (model X.prog X.w) X.A (newList []) (fun acc s₃=>wpAny (model X.prog X.w) X.A (newFunctionEnv scope X.env.globals cl [] X.env.qual none .none (some X.env)) (fun cenv s₄=>
   codeAny (model X.prog X.w) X.A (.compStart (.ListComp elt [⟨tg,iter,ifs,0⟩] scope pos) 0 (.ref it) acc { cenv with scope:=relabel scope X.env }) (RR acc cenv.locals) s₄) E s₃) E s2:=by
 refine wpAny_newObj_type (aA8 ?_);dsimp only;generalize hH2:s2.heap.push { cls:=.type "list",dict:=none,data:=.seq ([]:List Value).toArray }=Hq;have hC:Hq.objs.size=s2.heap.objs.size+1:=by rw[<- hH2,aJk]
 have hCl:s2.heap.objs.size<Hq.objs.size:=by rw[hC];exact aLd _
 have hns₁:(pushCells (Hq.push { cls:=.type "dict",data:=.dict #[] }) scope.names).Ns Hq.objs.size (fun _=>none):=(Heap.Ns.new Hq (.type "dict")).keeps (pushCells_keeps _ _);have old:∀ b o,s2.heap.get? b=some o->(pushCells (Hq.push { cls:=.type "dict",data:=.dict #[] }) scope.names).get? b=some o:=fun b o e=>pushCells_keeps _ _ b o (aJa _ (hH2 ▸ aJa _ e));have hacc:(pushCells (Hq.push { cls:=.type "dict",data:=.dict #[] }) scope.names).get? s2.heap.objs.size=some { cls:=.type "list",data:=.seq ([]:List Value).toArray 0 }:=pushCells_keeps _ _ _ _ (aJa _ (hH2 ▸ aJi _ rfl));have hown:∀ x c,(cellsFrom (Hq.objs.size+1) scope.names cl).lookup x=some c->cl.lookup x=some c\/(Hq.objs.size<c/\(pushCells (Hq.push { cls:=.type "dict",data:=.dict #[] }) scope.names).IsCell c none):=fun x c e=>by
  have e':(cellsFrom (Hq.push { cls:=.type "dict",data:=.dict #[] }).objs.size scope.names cl).lookup x=some c:=by rw[aJk];exact e
  rcases CZ e' with q | ⟨q1,q2⟩
  ·exact .inl q
  ·rw[aJk] at q1
   exact .inr ⟨q1,q2⟩
 generalize pushCells (Hq.push { cls:=.type "dict",data:=.dict #[] }) scope.names=h₁ at hns₁ old hacc hown ⊢;have ho:∀ b∈fp,∃ o,s2.heap.get? b=some o:=fun b hb=>let ⟨o,e,_⟩:=Tn.obj 0 _ st2 b hb;⟨o,e⟩;obtain⟨W,⟨m0,w0⟩,turn⟩:=hw s2.heap.objs.size (I2.hok.fresh (aL8 _));obtain⟨bg,bi,be⟩:=hb (cellsFrom (Hq.objs.size+1) scope.names cl) Hq.objs.size s2 H2 fp;have loop:∀ s₃:Shared,s₃={ s2 with heap:=h₁ } ->
   codeAny (model X.prog X.w) X.A (.compLoop (.ListComp elt [⟨tg,iter,ifs,0⟩] scope pos) 0 (.ref it) (.ref s2.heap.objs.size) (compEnvC scope (cellsFrom (Hq.objs.size+1) scope.names cl) Hq.objs.size X.env)) (RR (.ref s2.heap.objs.size) Hq.objs.size) s₃:=by
  rintro s₃ rfl;have I0:Inv (cxB X scope N' (cellsFrom (Hq.objs.size+1) scope.names cl) Hq.objs.size s2 H2 fp) [] (cM src σ) (upd H2 s2.heap.objs.size (.lst [])) { s2 with heap:=h₁ }:=YQ (t4:=s2.toks) S I2 hcl f2 ho hCl old hacc hns₁ hown;have fpOk:∀ {H':Hp},(∀ b∈fp,H' b=none)->∀ b∈fp,fA (cxB X scope N' (cellsFrom (Hq.objs.size+1) scope.names cl) Hq.objs.size s2 H2 fp) [] H' b:=fun hn b hb=>
   ⟨hn b hb,(I0.ok.exf b hb).1,I0.ok.exfs b hb,.inl hb,(I0.ok.exf b hb).2,fun p hp=>absurd (show p∈([]:List (Addr × Obj)) from hp) (by simp)⟩
  have fpOkP:∀ {H':Hp} ,(∀ b∈fp,H' b=none)->∀ b∈fp,fA (cxB X scope N' (cellsFrom (Hq.objs.size+1) scope.names cl) Hq.objs.size s2 H2 fp) [] H' b:=fun hn=>fpOk hn;refine TJ (fun n s'=>∃ i σ' H',Inv (cxB X scope N' (cellsFrom (Hq.objs.size+1) scope.names cl) Hq.objs.size s2 H2 fp) [] σ' H' s'/\tn i s'.heap/\(∀ b∈fp,H' b=none)/\W i n σ' H') ?_ m0
   ⟨0,cM src σ,_,I0,Tn.keep _ _ _ st2 (fun b _ o e=>old b o e),fun b hb=>?_,w0⟩
  rotate_left
  ·obtain⟨o,e⟩:=ho b hb
   rw[aV (aLh (aJj e))];exact (f2 b hb).1
  rintro n s3 ⟨i,σ3,H3,I3,st3,fr3,w3⟩;rcases turn i n σ3 H3 w3 with ⟨stop,qn⟩ | ⟨go,step⟩
  ·refine thn (Tn.done (cxB X scope N' (cellsFrom (Hq.objs.size+1) scope.names cl) Hq.objs.size s2 H2 fp) rfl rfl rfl hc i [] s3 σ3 H3 _ I3 (fpOk fr3) st3 stop) fun r s4 ⟨hr,I4⟩=>?_
   subst hr;obtain⟨m,hm,_⟩:=I4.loc;refine hR _ _ H3 s4 m (aL8 _) (aL7 hCl) hm I4.free ?_ qn;exact I2.call' (ch:=fp) I4.os I4.base I4.hok I4.bare fun b hb=>⟨(f2 b hb).2.2.2.1,(f2 b hb).2.1,(f2 b hb).2.2.2.2.1,(f2 b hb).2.2.2.2.2⟩
  ·refine thn (Tn.item (cxB X scope N' (cellsFrom (Hq.objs.size+1) scope.names cl) Hq.objs.size s2 H2 fp) rfl rfl rfl hc i [] s3 σ3 H3 _ I3 (fpOk fr3) st3 go) fun r s4 ⟨u,hr,h4⟩=>?_
   subst hr;refine thn h4 fun _ s5 ⟨x,H5,I5,r5,y5,st5,fr5⟩=>?_;have I5':=I5.pinned (fpOk fr5) (Tn.obj _ _ st5);refine thn (bg _ s5 σ3 H5 x u _ I5' r5 (step x H5 y5)) fun _ s6 ⟨σ6,H6,I6,q6⟩=>?_;refine thn (bi _ s6 σ6 H6 _ I6 q6) fun ok s7 ⟨H7,I7,q7⟩=>?_;have again:∀ {σ8:St} {H8:Hp} {s8:Shared} {m':Nat},Inv (cxB X scope N' (cellsFrom (Hq.objs.size+1) scope.names cl) Hq.objs.size s2 H2 fp) ([]++tR fp s5.heap) σ8 H8 s8->m'<n->W (i+1) m' σ8 H8 ->
     ∃ m,m<n/\∃ i σ' H',Inv (cxB X scope N' (cellsFrom (Hq.objs.size+1) scope.names cl) Hq.objs.size s2 H2 fp) [] σ' H' s8/\tn i s8.heap/\(∀ b∈fp,H' b=none)/\W i m σ' H':=fun {σ8 H8 s8 m'} I8 hm w8=>by
    refine⟨m',hm,i+1,σ8,H8,I8.unpinned,Tn.keep _ _ _ st5 fun b hb o e=>(I8.pin (b,o) (aKt _ (aKt _ (xL hb e)))).1,fun b hb=>?_,w8⟩;obtain⟨o,e,d⟩:=Tn.obj _ _ st5 b hb;exact (I8.pin (b,o) (aKt _ (aKt _ (xL hb e)))).2.1
   cases ok with
   | false=>
    rw[if_neg aJg] at q7;rw[if_neg aJg];obtain⟨m',hm,w8⟩:=q7;exact again I7 hm w8
   | true=>
    rw[if_pos rfl] at q7;rw[if_pos rfl];refine thn (be _ s7 σ6 H7 _ I7 q7) fun xv s8 ⟨v,H8,I8,r8,q8⟩=>?_;obtain⟨xs,hx,hz,m',hm,w9⟩:=q8;refine thn (KS _ s8 σ6 H8 (.ref s2.heap.objs.size) [v] (.ref s2.heap.objs.size) [xv] (fun _ H9=>H9=upd H8 s2.heap.objs.size (.lst (xs++[v]))) I8 rfl (.cons r8 .nil) ⟨_,xs,v,rfl,rfl,hx,hz,rfl⟩) fun _ s9 ⟨_,H9,I9,_,e9⟩=>?_;subst e9;exact again I9 hm w9
 have hself:=Tn.self X.A 0 { s2 with heap:=h₁ };exact codeAny_compStart_list (loop _ rfl) (hself _ _ (Tn.keep _ _ _ st2 (fun b _ o e=>old b o e)) (loop _ rfl))
theorem LQ (S:BlkOk X scope N' src) (hc:X.calm=true) (hi:PI X tg iter wi)
  (hb:∀ cl C s H ex,PG (cxB X scope N' cl C s H ex) tg g/\PIf (cxB X scope N' cl C s H ex) ifs tc/\PE (cxB X scope N' cl C s H ex) elt te)
  (hs:∀ x,foldedSetIterable iter X.env x=pure x:=by intro _;rfl):PE X (.ListComp elt [⟨tg,iter,ifs,0⟩] scope pos) (wB wi (cM src) g tc te):=by
 intro pins s σ H Q I h;obtain⟨cl,hcl⟩:∃ cl,cK X.env.cells scope.names []=some cl:=wP fun n hn=>I.ok.has n (S.frees _ hn rfl);rw[eval_ListComp];refine wpAny_comprehension_free (use:=none) rfl hs (AF hcl) S.kind S.names (thn (hi pins s σ H _ I h) fun v s1 h1=>thn h1 fun itv s2 h2=>?_);obtain⟨it,fp,tn,J,H2,e,I2,Tn,st2,f2,hw⟩:=h2;subst e;refine GC (RR:=fun acc C=>compPost (model X.prog X.w) X.A X.xe none (EP X pins σ Q) acc C) S hc hcl hb I2 Tn st2 f2 hw ?_;intro D C H' s' m hD hC hm hCn I' q;refine⟨m,hm,fun h' hsb=>?_⟩;refine⟨.ref D,H',?_,rfl,q⟩;refine I'.turned (t':=s'.toks) (it:=C) (fun b o hb e=>hsb.extBut b o hb e) hCn (aLg (aJ7 I2.lt hC)) (.inr (aL9 I2.sz hC)) (fun x c e z=>?_) fun p hp z=>?_
 ·obtain⟨v,q⟩:=I2.cell x c e
  exact absurd (aJ7 q.lt (by rw[z];exact hC)) (aLa _)
 ·exact absurd (aJ7 (aJj (I2.pin p hp).1) (by rw[z];exact hC)) (aLa _)
theorem DC {i:Nat}{x:Str}{pos' spos:Pos}(hN:X.N.Nodup) (hiN:X.N[i]?=some x) (hx:Loc X.env.scope x) (S:BlkOk X scope N' src) (hc:X.calm=true) (hi:PI X tg iter wi)
  (hb:∀ cl C s H ex,PG (cxB X scope N' cl C s H ex) tg g/\PIf (cxB X scope N' cl C s H ex) ifs tc/\PE (cxB X scope N' cl C s H ex) elt te)
  (hsw:swapsWith (.ListComp elt [⟨tg,iter,ifs,0⟩] scope pos) (some (.Name x pos')) spos.line X.env=pure true:=by rfl)
  (hs:∀ x,foldedSetIterable iter X.env x=pure x:=by intro _;rfl) (hf:X.fn x=true\/X.env.scope.names.lookup x=some .local:=by first | exact .inl rfl | exact .inr rfl | assumption):
  PS X (.Assign [.Name x pos'] (.ListComp elt [⟨tg,iter,ifs,0⟩] scope pos) spos) (zM (wB wi (cM src) g tc te) (jP i)):=by
 intro pins s σ H D I h;obtain⟨cl,hcl⟩:∃ cl,cK X.env.cells scope.names []=some cl:=wP fun n hn=>I.ok.has n (S.frees _ hn rfl);rw[exec_Assign_Name_used _ _ _ _ hsw];refine wpAny_bind (wpAny_standAt (wpAny_bind ?_));show wpAny _ X.A (do let _ <- comprehension (.ListComp elt [⟨tg,iter,ifs,0⟩] scope pos) scope X.env _ (newList []) false (eval iter X.env) (some (assign (.Name x pos') X.env))) _ _ s;refine wpAny_bind (wpAny_mono (wpAny_comprehension_free (use:=some (assign (.Name x pos') X.env)) (Q:=fun _ s'=>SP X pins D .next s') rfl hs (AF hcl) S.kind S.names
  (thn (hi pins s σ H _ I h) fun v s1 h1=>thn h1 fun itv s2 h2=>?_)) (fun _ s' hq=>wpAny_pure (wpAny_pure hq)) fun _ _ e=>e)
 obtain⟨it,fp,tn,J,H2,e,I2,Tn,st2,f2,hw⟩:=h2;subst e;refine GC (Q:=fun v H'=>D.nx (σ.set i (some v)) H') (RR:=fun acc C=>compPost (model X.prog X.w) X.A X.xe (some (assign (.Name x pos') X.env)) (fun _ s'=>SP X pins D .next s') acc C) S hc hcl hb I2 Tn st2 f2 hw ?_;intro D' C H' s' m hD hC hm hCn I' q;show wpAny _ X.A (assign (.Name x pos') X.env (.ref D')) _ _ _;refine wpAny_assign_Name (NK I' hN hiN hx (v:=.ref D') rfl (fun s'' I'' hsb=>?_) hf);have cl':∀ x c,X.env.cells.lookup x=some c->c≠C:=fun x c e z=>by
  obtain⟨v,q⟩:=I2.cell x c e;exact absurd (aJ7 q.lt (by rw[z];exact hC)) (aLa _)
 have hLC:X.env.locals≠C:=aLh (aJ7 I2.lt hC);obtain⟨a,sb,ha⟩:=hsb;have haC:C≠a:=by
  rcases ha with rfl | ha
  ·exact Ne.symm hLC
  ·exact Ne.symm (cl' x a ha)
 refine⟨m,hm.sameBut sb haC,fun h' hsb=>⟨_,H',?_,q⟩⟩;refine I''.turned (t':=s''.toks) (it:=C) (fun b o hb e=>hsb.extBut b o hb e) hCn (Ne.symm hLC) (.inr (aL9 I2.sz hC)) cl' fun p hp z=>?_;exact absurd (aJ7 (aJj (I2.pin p hp).1) (by rw[z];exact hC)) (aLa _)
end
end L2
namespace G
open PySem PySem.Spec PyProof.Rows L2
mutual
def eqT:T->T->Bool
 | .non,.non=>true
 | .bl a,.bl b=>a == b
 | .int a,.int b=>a == b
 | .str a,.str b=>a == b
 | .bl a,.int b=>(if a then 1 else 0) == b
 | .int a,.bl b=>a == (if b then 1 else 0)
 | .lst xs,.lst ys=>eqL xs ys
 | .tup xs,.tup ys=>eqL xs ys
 | .exc _,.exc _=>true
 | .dct _,.dct _=>true
 | .own _,.own _=>true
 | _,_=>false
def eqL:List T->List T->Bool
 | [],[]=>true
 | x::xs,y::ys=>eqT x y&&eqL xs ys
 | _,_=>false
end
mutual
def dep:T->Nat
 | .lst xs=>depL xs+1
 | .tup xs=>depL xs+1
 | .exc _=>61
 | .dct _=>61
 | .own _=>61
 | _=>0
def depL:List T->Nat
 | []=>0
 | x::xs=>max (dep x) (depL xs)
end
mutual
theorem VT:∀ t:T,eqT t t=true
 | .non=>by simp[eqT]
 | .bl _=>by simp[eqT]
 | .int _=>by simp[eqT]
 | .str _=>by simp[eqT]
 | .lst xs=>by simp[eqT,eqL_refl xs]
 | .tup xs=>by simp[eqT,eqL_refl xs]
 | .exc _=>by simp[eqT]
 | .dct _=>by simp[eqT]
 | .own _=>by simp[eqT]
theorem eqL_refl:∀ xs:List T,eqL xs xs=true
 | []=>by simp[eqL]
 | x::xs=>by simp[eqL,VT x,eqL_refl xs]
end
theorem AL:∀ {xs:List T}{t:T}{i:Nat},xs[i]?=some t->dep t<=depL xs
 | [],_,_,e=>by simp at e
 | x::xs,t,0,e=>by simp at e;subst e;simp[depL];lia
 | x::xs,t,i+1,e=>by
  have:=AL (xs:=xs) (i:=i) (t:=t) (by simpa using e);simp[depL];lia
theorem AQ:∀ (xs ys:List T),xs.length=ys.length->eqL xs ys=(List.range xs.length).all fun j=>match xs[j]?,ys[j]? with | some a,some b=>eqT a b | _,_=>false
 | [],[],_=>by simp[eqL]
 | x::xs,y::ys,h=>by
  have ih:=AQ xs ys (by simpa using h);rw[eqL,ih,aKe,List.range_succ_eq_map,List.all_cons,List.all_map];simp[Function.comp_def]
 | [],_::_,h=>by simp at h
 | _::_,[],h=>by simp at h
theorem AO:∀ (xs ys:List T),xs.length≠ys.length->eqL xs ys=false
 | [],[],h=>by simp at h
 | x::xs,y::ys,h=>by rw[eqL,AO xs ys (by simpa using h),Bool.and_false]
 | [],_::_,_=>by simp[eqL]
 | _::_,[],_=>by simp[eqL]
section
variable {X:Cx}{pins:List (Addr × Obj)}{σ:St}{H:Hp}{s:Shared}
mutual
theorem DL (I:Inv X pins σ H s) {A A':Addr->Prop}:∀ (t u:T) {v:V},dep t<=60->dep u<=60->Rep X.K H A t v->Rep X.K H A' u v->eqT t u=true
 | .non,.non,_,hd,hd2,_,_=>by simp[eqT]
 | .bl _,.bl _,_,hd,hd2,h,q=>by cases (show _=_ from h);cases (show _=_ from q);simp[eqT]
 | .int _,.int _,_,hd,hd2,h,q=>by cases (show _=_ from h);cases (show _=_ from q);simp[eqT]
 | .str _,.str _,_,hd,hd2,h,q=>by cases (show _=_ from h);cases (show _=_ from q);simp[eqT]
 | .lst xs,.lst ys,_,hd,hd2,h,q=>by
  obtain⟨a,us,e,h1,h2⟩:=h.sqL;obtain⟨b,ws,e',q1,q2⟩:=q.sqL;subst e;cases e';have:=I.list_inj h1 q1;subst this;rw[eqT];exact repL_same I xs ys (by simp[dep] at hd;lia) (by simp[dep] at hd2;lia) h2 q2
 | .tup xs,.tup ys,_,hd,hd2,h,q=>by
  obtain⟨a,us,e,h1,h2⟩:=h.sqT;obtain⟨b,ws,e',q1,q2⟩:=q.sqT;subst e;cases e';have:=I.tuple_inj h1 q1;subst this;rw[eqT];exact repL_same I xs ys (by simp[dep] at hd;lia) (by simp[dep] at hd2;lia) h2 q2
 | .lst xs,.tup ys,_,hd,hd2,h,q=>by
  obtain⟨a,us,e,h1,h2⟩:=h.sqL;obtain⟨b,ws,e',q1,q2⟩:=q.sqT;subst e;cases e'
  exfalso
  obtain⟨_,_,p1,_⟩:=I.list h1;obtain⟨_,_,p2,_⟩:=I.tuple q1;exact SeqAt.ne_of_list_tuple p1.isList p2 rfl
 | .tup xs,.lst ys,_,hd,hd2,h,q=>by
  obtain⟨a,us,e,h1,h2⟩:=h.sqT;obtain⟨b,ws,e',q1,q2⟩:=q.sqL;subst e;cases e'
  exfalso
  obtain⟨_,_,p1,_⟩:=I.tuple h1;obtain⟨_,_,p2,_⟩:=I.list q1;exact SeqAt.ne_of_list_tuple p2.isList p1 rfl
 | .non,.bl _,_,hd,hd2,h,q=>by cases (show _=_ from h);cases (show _=_ from q)
 | .non,.int _,_,hd,hd2,h,q=>by cases (show _=_ from h);cases (show _=_ from q)
 | .non,.str _,_,hd,hd2,h,q=>by cases (show _=_ from h);cases (show _=_ from q)
 | .non,.lst _,_,hd,hd2,h,q=>by cases (show _=_ from h);obtain⟨_,_,e,_⟩:=q;cases e
 | .non,.tup _,_,hd,hd2,h,q=>by cases (show _=_ from h);obtain⟨_,_,e,_⟩:=q;cases e
 | .bl _,.non,_,hd,hd2,h,q=>by cases (show _=_ from h);cases (show _=_ from q)
 | .bl _,.int _,_,hd,hd2,h,q=>by cases (show _=_ from h);cases (show _=_ from q)
 | .bl _,.str _,_,hd,hd2,h,q=>by cases (show _=_ from h);cases (show _=_ from q)
 | .bl _,.lst _,_,hd,hd2,h,q=>by cases (show _=_ from h);obtain⟨_,_,e,_⟩:=q;cases e
 | .bl _,.tup _,_,hd,hd2,h,q=>by cases (show _=_ from h);obtain⟨_,_,e,_⟩:=q;cases e
 | .int _,.non,_,hd,hd2,h,q=>by cases (show _=_ from h);cases (show _=_ from q)
 | .int _,.bl _,_,hd,hd2,h,q=>by cases (show _=_ from h);cases (show _=_ from q)
 | .int _,.str _,_,hd,hd2,h,q=>by cases (show _=_ from h);cases (show _=_ from q)
 | .int _,.lst _,_,hd,hd2,h,q=>by cases (show _=_ from h);obtain⟨_,_,e,_⟩:=q;cases e
 | .int _,.tup _,_,hd,hd2,h,q=>by cases (show _=_ from h);obtain⟨_,_,e,_⟩:=q;cases e
 | .str _,.non,_,hd,hd2,h,q=>by cases (show _=_ from h);cases (show _=_ from q)
 | .str _,.bl _,_,hd,hd2,h,q=>by cases (show _=_ from h);cases (show _=_ from q)
 | .str _,.int _,_,hd,hd2,h,q=>by cases (show _=_ from h);cases (show _=_ from q)
 | .str _,.lst _,_,hd,hd2,h,q=>by cases (show _=_ from h);obtain⟨_,_,e,_⟩:=q;cases e
 | .str _,.tup _,_,hd,hd2,h,q=>by cases (show _=_ from h);obtain⟨_,_,e,_⟩:=q;cases e
 | .lst _,.non,_,hd,hd2,h,q=>by cases (show _=_ from q);obtain⟨_,_,e,_⟩:=h;cases e
 | .lst _,.bl _,_,hd,hd2,h,q=>by cases (show _=_ from q);obtain⟨_,_,e,_⟩:=h;cases e
 | .lst _,.int _,_,hd,hd2,h,q=>by cases (show _=_ from q);obtain⟨_,_,e,_⟩:=h;cases e
 | .lst _,.str _,_,hd,hd2,h,q=>by cases (show _=_ from q);obtain⟨_,_,e,_⟩:=h;cases e
 | .tup _,.non,_,hd,hd2,h,q=>by cases (show _=_ from q);obtain⟨_,_,e,_⟩:=h;cases e
 | .tup _,.bl _,_,hd,hd2,h,q=>by cases (show _=_ from q);obtain⟨_,_,e,_⟩:=h;cases e
 | .tup _,.int _,_,hd,hd2,h,q=>by cases (show _=_ from q);obtain⟨_,_,e,_⟩:=h;cases e
 | .tup _,.str _,_,hd,hd2,h,q=>by cases (show _=_ from q);obtain⟨_,_,e,_⟩:=h;cases e
 | .non,.exc _,_,_,hd2,_,_=>by simp[dep] at hd2
 | .non,.dct _,_,_,hd2,_,_=>by simp[dep] at hd2
 | .non,.own _,_,_,hd2,_,_=>by simp[dep] at hd2
 | .bl _,.exc _,_,_,hd2,_,_=>by simp[dep] at hd2
 | .bl _,.dct _,_,_,hd2,_,_=>by simp[dep] at hd2
 | .bl _,.own _,_,_,hd2,_,_=>by simp[dep] at hd2
 | .int _,.exc _,_,_,hd2,_,_=>by simp[dep] at hd2
 | .int _,.dct _,_,_,hd2,_,_=>by simp[dep] at hd2
 | .int _,.own _,_,_,hd2,_,_=>by simp[dep] at hd2
 | .str _,.exc _,_,_,hd2,_,_=>by simp[dep] at hd2
 | .str _,.dct _,_,_,hd2,_,_=>by simp[dep] at hd2
 | .str _,.own _,_,_,hd2,_,_=>by simp[dep] at hd2
 | .lst _,.exc _,_,_,hd2,_,_=>by simp[dep] at hd2
 | .lst _,.dct _,_,_,hd2,_,_=>by simp[dep] at hd2
 | .lst _,.own _,_,_,hd2,_,_=>by simp[dep] at hd2
 | .tup _,.exc _,_,_,hd2,_,_=>by simp[dep] at hd2
 | .tup _,.dct _,_,_,hd2,_,_=>by simp[dep] at hd2
 | .tup _,.own _,_,_,hd2,_,_=>by simp[dep] at hd2
 | .exc _,_,_,hd,_,_,_=>by simp[dep] at hd
 | .dct _,_,_,hd,_,_,_=>by simp[dep] at hd
 | .own _,_,_,hd,_,_,_=>by simp[dep] at hd
theorem repL_same (I:Inv X pins σ H s) {A A':Addr->Prop}:∀ (ts us:List T) {xs:List V},depL ts<=60->depL us<=60->RepL X.K H A ts xs->RepL X.K H A' us xs->eqL ts us=true
 | [],[],_,_,_,_,_=>by simp[eqL]
 | t::ts,u::us,_,hd,hd2,h,q=>by
  simp only[depL] at hd hd2;obtain⟨x,r,e,h1,h2⟩:=h;obtain⟨y,r',e',q1,q2⟩:=q;subst e;cases e';rw[eqL,DL I t u (by lia) (by lia) h1 q1,repL_same I ts us (by lia) (by lia) h2 q2]
  rfl
 | [],_::_,_,_,_,h,q=>by
  cases (show _=_ from h);obtain⟨_,_,e,_⟩:=q;cases e
 | _::_,[],_,_,_,h,q=>by
  cases (show _=_ from q);obtain⟨_,_,e,_⟩:=h;cases e
end
open SeqAt in
theorem HG (I : Inv X pins σ H s) {A A' : Addr -> Prop} : ∀ (n : Nat) (Ar : Around) (t u : T) (v w : V) (x y : Value), n <= 60 -> dep t <= n -> dep u <= 60 -> Ar.units + n < cLine -> Rep X.K H A t v -> Rep X.K H A' u w -> aT v x -> aT w y -> EqAt Ar s x y (eqT t u) /\ RcAt Ar s x y (eqT t u) /\ RcNeAt Ar s x y (!eqT t u) := by
 intro n
 induction n with
 | zero =>
  intro Ar t u v w x y hn hd hdu hu h q r r';have hu' : Ar.units < cLine := by lia
  cases t with
  | lst _ => simp [dep] at hd
  | tup _ => simp [dep] at hd
  | exc _ => simp [dep] at hd
  | dct _ => simp [dep] at hd
  | own _ => simp [dep] at hd
  | non =>
   cases (show _ = _ from h); cases (show _ = _ from r);cases u with
   | exc _ => simp [dep] at hdu
   | dct _ => simp [dep] at hdu
   | own _ => simp [dep] at hdu
   | non => cases (show _ = _ from q); cases (show _ = _ from r'); exact ⟨EqAt.same _, RcAt.none_none, RcNeAt.none_none⟩
   | bl b => cases (show _ = _ from q); cases (show _ = _ from r'); exact ⟨EqAt.none_bool _, RcAt.none_bool _, RcNeAt.none_bool _⟩
   | int b => cases (show _ = _ from q); obtain ⟨k, rfl⟩ := r'; exact ⟨EqAt.none_int _ _, RcAt.none_int _ _, RcNeAt.none_int _ _⟩
   | str b => cases (show _ = _ from q); obtain ⟨k, rfl⟩ := r'; exact ⟨EqAt.none_str _ _, RcAt.none_str _ _, RcNeAt.none_str _ _⟩
   | lst b =>
    obtain ⟨a, us, rfl, q1, q2⟩ := q.sqL;cases r';obtain ⟨_, _, p1, _⟩ := I.list q1;exact ⟨EqAt.none_list p1.isList hu', RcAt.none_list p1.isList hu', RcNeAt.none_list p1.isList hu'⟩
   | tup b =>
    obtain ⟨a, us, rfl, q1, q2⟩ := q.sqT;cases r';obtain ⟨_, _, p1, _⟩ := I.tuple q1;exact ⟨EqAt.none_tuple p1 hu', RcAt.none_tuple p1 hu', RcNeAt.none_tuple p1 hu'⟩
  | bl c =>
   cases (show _ = _ from h); cases (show _ = _ from r);cases u with
   | exc _ => simp [dep] at hdu
   | dct _ => simp [dep] at hdu
   | own _ => simp [dep] at hdu
   | non => cases (show _ = _ from q); cases (show _ = _ from r'); exact ⟨EqAt.bool_none _, RcAt.bool_none _, RcNeAt.bool_none _⟩
   | bl b => cases (show _ = _ from q); cases (show _ = _ from r'); exact ⟨EqAt.bool_bool _ _, RcAt.bool_bool _ _, RcNeAt.bool_bool _ _⟩
   | int b => cases (show _ = _ from q); obtain ⟨k, rfl⟩ := r'; exact ⟨EqAt.bool_int _ _ _, RcAt.bool_int _ _ _, RcNeAt.bool_int _ _ _⟩
   | str b => cases (show _ = _ from q); obtain ⟨k, rfl⟩ := r'; exact ⟨EqAt.bool_str _ _ _, RcAt.bool_str _ _ _, RcNeAt.bool_str _ _ _⟩
   | lst b =>
    obtain ⟨a, us, rfl, q1, q2⟩ := q.sqL;cases r';obtain ⟨_, _, p1, _⟩ := I.list q1;exact ⟨EqAt.bool_list _ p1.isList hu', RcAt.bool_list _ p1.isList hu', RcNeAt.bool_list _ p1.isList hu'⟩
   | tup b =>
    obtain ⟨a, us, rfl, q1, q2⟩ := q.sqT;cases r';obtain ⟨_, _, p1, _⟩ := I.tuple q1;exact ⟨EqAt.bool_tuple _ p1 hu', RcAt.bool_tuple _ p1 hu', RcNeAt.bool_tuple _ p1 hu'⟩
  | int c =>
   cases (show _ = _ from h); obtain ⟨k', rfl⟩ := r;cases u with
   | exc _ => simp [dep] at hdu
   | dct _ => simp [dep] at hdu
   | own _ => simp [dep] at hdu
   | non => cases (show _ = _ from q); cases (show _ = _ from r'); exact ⟨EqAt.int_none _ _, RcAt.int_none _ _, RcNeAt.int_none _ _⟩
   | bl b => cases (show _ = _ from q); cases (show _ = _ from r'); exact ⟨EqAt.int_bool _ _ _, RcAt.int_bool _ _ _, RcNeAt.int_bool _ _ _⟩
   | int b => cases (show _ = _ from q); obtain ⟨k, rfl⟩ := r'; exact ⟨EqAt.int_int _ _ _ _, RcAt.int_int _ _ _ _, RcNeAt.int_int _ _ _ _⟩
   | str b => cases (show _ = _ from q); obtain ⟨k, rfl⟩ := r'; exact ⟨EqAt.int_str _ _ _ _, RcAt.int_str _ _ _ _, RcNeAt.int_str _ _ _ _⟩
   | lst b =>
    obtain ⟨a, us, rfl, q1, q2⟩ := q.sqL;cases r';obtain ⟨_, _, p1, _⟩ := I.list q1;exact ⟨EqAt.int_list _ _ p1.isList hu', RcAt.int_list _ _ p1.isList hu', RcNeAt.int_list _ _ p1.isList hu'⟩
   | tup b =>
    obtain ⟨a, us, rfl, q1, q2⟩ := q.sqT;cases r';obtain ⟨_, _, p1, _⟩ := I.tuple q1;exact ⟨EqAt.int_tuple _ _ p1 hu', RcAt.int_tuple _ _ p1 hu', RcNeAt.int_tuple _ _ p1 hu'⟩
  | str c =>
   cases (show _ = _ from h); obtain ⟨k', rfl⟩ := r;cases u with
   | exc _ => simp [dep] at hdu
   | dct _ => simp [dep] at hdu
   | own _ => simp [dep] at hdu
   | non => cases (show _ = _ from q); cases (show _ = _ from r'); exact ⟨EqAt.str_none _ _, RcAt.str_none _ _, RcNeAt.str_none _ _⟩
   | bl b => cases (show _ = _ from q); cases (show _ = _ from r'); exact ⟨EqAt.str_bool _ _ _, RcAt.str_bool _ _ _, RcNeAt.str_bool _ _ _⟩
   | int b => cases (show _ = _ from q); obtain ⟨k, rfl⟩ := r'; exact ⟨EqAt.str_int _ _ _ _, RcAt.str_int _ _ _ _, RcNeAt.str_int _ _ _ _⟩
   | str b => cases (show _ = _ from q); obtain ⟨k, rfl⟩ := r'; exact ⟨EqAt.str_str _ _ _ _, RcAt.str_str _ _ _ _, RcNeAt.str_str _ _ _ _⟩
   | lst b =>
    obtain ⟨a, us, rfl, q1, q2⟩ := q.sqL;cases r';obtain ⟨_, _, p1, _⟩ := I.list q1;exact ⟨EqAt.str_list _ _ p1.isList hu', RcAt.str_list _ _ p1.isList hu', RcNeAt.str_list _ _ p1.isList hu'⟩
   | tup b =>
    obtain ⟨a, us, rfl, q1, q2⟩ := q.sqT;cases r';obtain ⟨_, _, p1, _⟩ := I.tuple q1;exact ⟨EqAt.str_tuple _ _ p1 hu', RcAt.str_tuple _ _ p1 hu', RcNeAt.str_tuple _ _ p1 hu'⟩
 | succ n ih =>
  intro Ar t u v w x y hn hd hdu hu h q r r';have hu' : Ar.units < cLine := by lia
  have sc : G.scal t = true -> EqAt Ar s x y (eqT t u) /\ RcAt Ar s x y (eqT t u) /\ RcNeAt Ar s x y (!eqT t u) := fun sc =>
   ih Ar t u v w x y (by lia) (by cases t <;> first | (simp [dep]; done) | (simp [G.scal] at sc)) hdu (by lia) h q r r'
  -- the parts of two sequences
  have parts : ∀ {ts us : List T} {xs ys : List V} {its its2 : List Value}, depL ts <= n -> depL us <= 60 -> RepL X.K H A ts xs -> RepL X.K H A' us ys -> aI xs its -> aI ys its2 ->
    ∀ j (h1 : j < its.toArray.size) (h2 : j < its2.toArray.size), EqAt Ar.in1 s its.toArray[j] its2.toArray[j] (match ts[j]?, us[j]? with | some a, some b => eqT a b | _, _ => false) := by
   intro ts us xs ys its its2 hdn hdm hr hq hv hv' j h1 h2;have l1 := hr.length;have l2 := hq.length;have l3 := hv.length;have l4 := hv'.length;simp only [aJ8] at h1 h2;have e1 : ts[j]? = some ts[j] := aJ1 (by lia);have e2 : us[j]? = some us[j] := aJ1 (by lia);obtain ⟨a, g1, ra⟩ := hr.get e1;obtain ⟨b, g2, rb⟩ := hq.get e2;obtain ⟨c, g3, rc⟩ := hv.get g1;obtain ⟨d, g4, rd⟩ := hv'.get g2;have i1 : its.toArray[j] = c := by
    have := (aJ4.mp g3).2
    simpa using this
   have i2 : its2.toArray[j] = d := by
    have := (aJ4.mp g4).2
    simpa using this
   rw [i1, i2, e1, e2];exact (ih Ar.in1 _ _ a b c d (by lia) (aL9 (AL e1) hdn) (aL9 (AL e2) hdm) (by show Ar.units + 1 + n < cLine; lia) ra rb rc rd).1
  cases t with
  | non => exact sc rfl
  | bl _ => exact sc rfl
  | int _ => exact sc rfl
  | str _ => exact sc rfl
  | exc _ => exfalso; simp [dep] at hd; lia
  | dct _ => exfalso; simp [dep] at hd; lia
  | own _ => exfalso; simp [dep] at hd; lia
  | lst ts =>
   have hd' : depL ts <= n := by simp [dep] at hd; lia
   obtain ⟨a, xs, rfl, h1, h2⟩ := h.sqL;cases r;obtain ⟨its, hv, p1, _⟩ := I.list h1;have l1 := h2.length;have l3 := hv.length;cases u with
   | exc _ => simp [dep] at hdu
   | dct _ => simp [dep] at hdu
   | own _ => simp [dep] at hdu
   | non => cases (show _ = _ from q); cases (show _ = _ from r'); exact ⟨EqAt.list_none p1.isList hu', RcAt.list_none p1.isList hu', RcNeAt.list_none p1.isList hu'⟩
   | bl b => cases (show _ = _ from q); cases (show _ = _ from r'); exact ⟨EqAt.list_bool _ p1.isList hu', RcAt.list_bool _ p1.isList hu', RcNeAt.list_bool _ p1.isList hu'⟩
   | int b => cases (show _ = _ from q); obtain ⟨k, rfl⟩ := r'; exact ⟨EqAt.list_int _ _ p1.isList hu', RcAt.list_int _ _ p1.isList hu', RcNeAt.list_int _ _ p1.isList hu'⟩
   | str b => cases (show _ = _ from q); obtain ⟨k, rfl⟩ := r'; exact ⟨EqAt.list_str _ _ p1.isList hu', RcAt.list_str _ _ p1.isList hu', RcNeAt.list_str _ _ p1.isList hu'⟩
   | lst us =>
    obtain ⟨b, ys, rfl, q1, q2⟩ := q.sqL;cases r';obtain ⟨its2, hv', p2, _⟩ := I.list q1;have l2 := q2.length;have l4 := hv'.length;have rc : RcAt Ar s (.ref a) (.ref b) (eqT (.lst ts) (.lst us)) /\ RcNeAt Ar s (.ref a) (.ref b) (!eqT (.lst ts) (.lst us)) := by
     rw [eqT]
     by_cases hl : ts.length = us.length
     ·have hz : its.toArray.size = its2.toArray.size := by simp only [aJ8]; lia
      have e1 := RcAt.lists p1.isList p2.isList hz hu' (parts hd' (by simp [dep] at hdu; lia) h2 q2 hv hv');have e2 := RcNeAt.lists p1.isList p2.isList hz hu' (parts hd' (by simp [dep] at hdu; lia) h2 q2 hv hv');have el : its.toArray.size = ts.length := by simp only [aJ8]; lia
      rw [el, <- AQ ts us hl] at e1 e2;exact ⟨e1, e2⟩
     ·have hz : (its.toArray.size != its2.toArray.size) = true := by simp only [aJ8]; simp; lia
      rw [AO ts us hl];exact ⟨RcAt.lists_lengths p1.isList p2.isList hz hu', RcNeAt.lists_lengths p1.isList p2.isList hz hu'⟩
    refine ⟨?_, rc⟩
    by_cases hab : a = b
    ·subst hab
     rw [DL I (.lst ts) (.lst us) (by lia) hdu h q];exact EqAt.same _
    ·exact EqAt.of_refs hab rc.1
   | tup us =>
    obtain ⟨b, ys, rfl, q1, q2⟩ := q.sqT;cases r';obtain ⟨its2, hv', p2, _⟩ := I.tuple q1;exact ⟨EqAt.list_tuple p1.isList p2 hu', RcAt.list_tuple p1.isList p2 hu', RcNeAt.list_tuple p1.isList p2 hu'⟩
  | tup ts =>
   have hd' : depL ts <= n := by simp [dep] at hd; lia
   obtain ⟨a, xs, rfl, h1, h2⟩ := h.sqT;cases r;obtain ⟨its, hv, p1, _⟩ := I.tuple h1;have l1 := h2.length;have l3 := hv.length;cases u with
   | exc _ => simp [dep] at hdu
   | dct _ => simp [dep] at hdu
   | own _ => simp [dep] at hdu
   | non => cases (show _ = _ from q); cases (show _ = _ from r'); exact ⟨EqAt.tuple_none p1 hu', RcAt.tuple_none p1 hu', RcNeAt.tuple_none p1 hu'⟩
   | bl b => cases (show _ = _ from q); cases (show _ = _ from r'); exact ⟨EqAt.tuple_bool _ p1 hu', RcAt.tuple_bool _ p1 hu', RcNeAt.tuple_bool _ p1 hu'⟩
   | int b => cases (show _ = _ from q); obtain ⟨k, rfl⟩ := r'; exact ⟨EqAt.tuple_int _ _ p1 hu', RcAt.tuple_int _ _ p1 hu', RcNeAt.tuple_int _ _ p1 hu'⟩
   | str b => cases (show _ = _ from q); obtain ⟨k, rfl⟩ := r'; exact ⟨EqAt.tuple_str _ _ p1 hu', RcAt.tuple_str _ _ p1 hu', RcNeAt.tuple_str _ _ p1 hu'⟩
   | lst us =>
    obtain ⟨b, ys, rfl, q1, q2⟩ := q.sqL;cases r';obtain ⟨its2, hv', p2, _⟩ := I.list q1;exact ⟨EqAt.tuple_list p1 p2.isList hu', RcAt.tuple_list p1 p2.isList hu', RcNeAt.tuple_list p1 p2.isList hu'⟩
   | tup us =>
    obtain ⟨b, ys, rfl, q1, q2⟩ := q.sqT;cases r';obtain ⟨its2, hv', p2, _⟩ := I.tuple q1;have l2 := q2.length;have l4 := hv'.length;have el : its.toArray.size = ts.length := by simp only [aJ8]; lia
    have el2 : its2.toArray.size = us.length := by simp only [aJ8]; lia
    have same : ((List.range (min its.toArray.size its2.toArray.size)).all (fun j => match ts[j]?, us[j]? with | some a, some b => eqT a b | _, _ => false) && its.toArray.size == its2.toArray.size) = eqL ts us := by
     by_cases hl : ts.length = us.length
     ·rw [el, el2, <- hl, Nat.min_self, <- AQ ts us hl, beq_self_eq_true, Bool.and_true]
     ·rw [AO ts us hl, el, el2, beq_false_of_ne hl, Bool.and_false]
    have e1 := RcAt.tuples p1 p2 hu' (parts hd' (by simp [dep] at hdu; lia) h2 q2 hv hv');have e2 := RcNeAt.tuples p1 p2 hu' (parts hd' (by simp [dep] at hdu; lia) h2 q2 hv hv');rw [same] at e1 e2;have rc : RcAt Ar s (.ref a) (.ref b) (eqT (.tup ts) (.tup us)) /\ RcNeAt Ar s (.ref a) (.ref b) (!eqT (.tup ts) (.tup us)) := by
     rw [eqT]; exact ⟨e1, e2⟩
    refine ⟨?_, rc⟩
    by_cases hab : a = b
    ·subst hab
     rw [DL I (.tup ts) (.tup us) (by lia) hdu h q];exact EqAt.same _
    ·exact EqAt.of_refs hab rc.1
end
def GOp (K:PySem.W.Frag) (r:R2) (F:T->T->Option T):Prop:=∀ x y t,F x y=some t->scal t=true/\∀ (H:Hp) (A A':Addr->Prop) (vx vy:V),Rep K H A x vx->Rep K H A' y vy->∀ Q:VK,Q (tv t) H->r vx vy H Q
theorem SOp.gop {K:PySem.W.Frag}{r:R2}{F:T->T->Option T}(h:SOp r F):GOp K r F:=fun x y t e=>by
 obtain⟨sx,sy,st,k⟩:=h x y t e;refine⟨st,fun H A A' vx vy rx ry Q q=>?_⟩;rw[ML sx] at rx;rw[ML sy] at ry;subst rx ry;exact k H Q q
def isB:T->Option Bool
 | .bl b=>some b
 | _=>none
def fB (f:Rho->Option T):Rho->Option Bool:=fun ρ=>(f ρ).bind isB
theorem CF {t:T}{b:Bool}(h:isB t=some b):t=.bl b:=by
 cases t<;>first | (cases h;done) | skip
 cases (aIz h);rfl
section
variable {X:Cx}{B:Hp}{fl:List Nat}{a b c e:Expr}{es:List Expr}{f g:Rho->Option T}{fa:Rho->Option (List T)}{p q:Rho->Option Bool}{n n':Bool}{l l':Nat}{pos:Pos}{op:CmpOp}{r:R2}{F:T->T->Option T}
theorem IA (ho:OpR X (compareOp op) r) (hF:GOp X.K r F) (ha:GE X B fl a f n l) (hb:GE X B fl b g n' l') (hm:behindInMarks op b=false):GE X B fl (.Compare a [op] [b] pos) (f2 f g F) true 3:=by
 refine bI (LP ho ha hb hm) ?_;rintro σ H Q ⟨Ex,ρ,M,t,S,hf,q⟩;obtain⟨x,hx,hf⟩:=bind_some hf;obtain⟨y,hy,hf⟩:=bind_some hf;obtain⟨st,k⟩:=hF x y t hf;refine⟨Ex,ρ,M,x,S,hx,fun vx H1 s1 rx=>⟨Ex,ρ,M,y,S.grow s1,hy,fun vy H2 s2 ry=>?_⟩⟩;exact k H2 _ _ vx vy ((rx.rep S).grow s2) (ry.rep (S.grow s1)) Q (q _ H2 (s1.trans s2) ((aN.scal st).mpr rfl))
theorem jU (ho:OpR X (compareOp op) r) (hF:GOp X.K r F) (ha:GE X B fl a f n l) (hb:GE X B fl b g n' l') (hm:behindInMarks op b=false):GT X B fl (.Compare a [op] [b] pos) (fB (f2 f g F)):=by
 refine DD (aDi ho ha hb hm) ?_;rintro σ H Q ⟨Ex,ρ,M,c,S,hf,q⟩;obtain⟨t,hf,hc⟩:=bind_some hf;cases CF hc;obtain⟨x,hx,hf⟩:=bind_some hf;obtain⟨y,hy,hf⟩:=bind_some hf;obtain⟨st,k⟩:=hF x y _ hf;refine⟨Ex,ρ,M,x,S,hx,fun vx H1 s1 rx=>⟨Ex,ρ,M,y,S.grow s1,hy,fun vy H2 s2 ry=>?_⟩⟩;exact k H2 _ _ vx vy ((rx.rep S).grow s2) (ry.rep (S.grow s1)) _ ⟨c,rfl,q H2 (s1.trans s2)⟩
def oEq:T->T->Option T:=fun x y=>if max (dep x) (dep y)<=60 then some (.bl (eqT x y)) else none
def oNe:T->T->Option T:=fun x y=>if max (dep x) (dep y)<=60 then some (.bl (!eqT x y)) else none
def yG (K:PySem.W.Frag) (neg:Bool):R2:=fun x y H Q=>∃ t u A A',max (dep t) (dep u)<=60/\Rep K H A t x/\Rep K H A' u y/\Q (.bl (if neg then !eqT t u else eqT t u)) H
theorem LI (hu:X.A.units+64<cLine):OpR X (compareOp .Eq) (yG X.K false):=by
 intro pins s σ H x y v u Q I rx ry h;obtain⟨t,u',A,A',hd,r1,r2,q⟩:=h;exact (HG I 60 X.A t u' x y v u (aL8 _) (by lia) (by lia) (by lia) r1 r2 rx ry).2.1 _ _ _ _ ⟨.bl _,H,I,rfl,q⟩
theorem aC6 (hu:X.A.units+64<cLine):OpR X (compareOp .NotEq) (yG X.K true):=by
 intro pins s σ H x y v u Q I rx ry h;obtain⟨t,u',A,A',hd,r1,r2,q⟩:=h;exact (HG I 60 X.A t u' x y v u (aL8 _) (by lia) (by lia) (by lia) r1 r2 rx ry).2.2 _ _ _ _ ⟨.bl _,H,I,rfl,q⟩
theorem IM {K:PySem.W.Frag}:GOp K (yG K false) oEq:=by
 intro x y t h;unfold oEq at h;split at h
 ·rename_i hd
  cases h;exact⟨rfl,fun H A A' vx vy rx ry Q q=>⟨x,y,A,A',hd,rx,ry,q⟩⟩
 ·cases h
theorem XI {K:PySem.W.Frag}:GOp K (yG K true) oNe:=by
 intro x y t h;unfold oNe at h;split at h
 ·rename_i hd
  cases h;exact⟨rfl,fun H A A' vx vy rx ry Q q=>⟨x,y,A,A',hd,rx,ry,q⟩⟩
 ·cases h
theorem jR (hu:X.A.units+64<cLine) (ha:GE X B fl a f n l) (hb:GE X B fl b g n' l'):GE X B fl (.Compare a [.Eq] [b] pos) (f2 f g oEq) true 3:=IA (LI hu) IM ha hb (gO _)
theorem jV (hu:X.A.units+64<cLine) (ha:GE X B fl a f n l) (hb:GE X B fl b g n' l'):GT X B fl (.Compare a [.Eq] [b] pos) (fB (f2 f g oEq)):=jU (LI hu) IM ha hb (gO _)
theorem BW (hu:X.A.units+64<cLine) (ha:GE X B fl a f n l) (hb:GE X B fl b g n' l'):GT X B fl (.Compare a [.NotEq] [b] pos) (fB (f2 f g oNe)):=jU (aC6 hu) XI ha hb (gO _)
theorem BV (ha:GE X B fl a f n l) (hb:GE X B fl b g n' l'):GT X B fl (.Compare a [.Lt] [b] pos) (fB (f2 f g oLt)):=jU LL (SOp.gop (jH (fun _ _=>rfl) fun _ _=>rfl)) ha hb (gO _)
theorem sM (ha:GE X B fl a f n l) (hb:GE X B fl b g n' l'):GT X B fl (.Compare a [.Gt] [b] pos) (fB (f2 f g oGt)):=jU aC3 (SOp.gop (jH (fun _ _=>rfl) fun _ _=>rfl)) ha hb (gO _)
def qS:T->Bool
 | .non=>true
 | _=>false
theorem MJ {K:PySem.W.Frag}{H:Hp}{A:Addr->Prop}{t:T}{v:V}(h:Rep K H A t v):decide (v=.non)=qS t:=by
 cases t with
 | non=>cases (show _=_ from h);rfl
 | bl _=>cases (show _=_ from h);rfl
 | int _=>cases (show _=_ from h);rfl
 | str _=>cases (show _=_ from h);rfl
 | lst _=>obtain⟨a,xs,rfl,_⟩:=h;rfl
 | tup _=>obtain⟨a,xs,rfl,_⟩:=h;rfl
 | exc _=>obtain⟨a,C,rfl,_⟩:=h;rfl
 | dct _=>obtain⟨a,rfl,_⟩:=h;rfl
 | own _=>obtain⟨a,xs,rfl,_⟩:=h;rfl
def oIs:T->T->Option T:=fun x y=>if qS y then some (.bl (qS x)) else none
def xR:T->T->Option T:=fun x y=>if qS y then some (.bl (!qS x)) else none
theorem JQ {y:T}(h:qS y=true):y=.non:=by cases y<;>first | rfl | cases h
theorem IN {K:PySem.W.Frag}:GOp K (fun x y H Q=>y=.non/\Q (.bl (decide (x=.non))) H) oIs:=by
 intro x y t h;unfold oIs at h;split at h
 ·rename_i hy
  cases h;cases JQ hy;exact⟨rfl,fun H A A' vx vy rx ry Q q=>⟨ry,by rw[MJ rx];exact q⟩⟩
 ·cases h
theorem XG {K:PySem.W.Frag}:GOp K (fun x y H Q=>y=.non/\Q (.bl (!decide (x=.non))) H) xR:=by
 intro x y t h;unfold xR at h;split at h
 ·rename_i hy
  cases h;cases JQ hy;exact⟨rfl,fun H A A' vx vy rx ry Q q=>⟨ry,by rw[MJ rx];exact q⟩⟩
 ·cases h
theorem WW (ha:GE X B fl a f n l) (hb:GE X B fl b g n' l'):GE X B fl (.Compare a [.Is] [b] pos) (f2 f g oIs) true 3:=IA LJ IN ha hb (gO _)
theorem XU (ha:GE X B fl a f n l) (hb:GE X B fl b g n' l'):GT X B fl (.Compare a [.Is] [b] pos) (fB (f2 f g oIs)):=jU LJ IN ha hb (gO _)
theorem XV (ha:GE X B fl a f n l) (hb:GE X B fl b g n' l'):GT X B fl (.Compare a [.IsNot] [b] pos) (fB (f2 f g xR)):=jU aC8 XG ha hb (gO _)
def wF:T->Option Bool
 | .non=>some false
 | .bl b=>some b
 | .int i=>some (i != 0)
 | .lst ts=>some (!ts.isEmpty)
 | .tup ts=>some (!ts.isEmpty)
 | .str _=>none
 | .exc _=>none
 | .dct _=>none
 | .own _=>none
theorem aEf {K:PySem.W.Frag}{H:Hp}{A:Addr->Prop}{t:T}{v:V}{k:Bool}(h:Rep K H A t v) (e:wF t=some k):zX K v H k:=by
 cases t with
 | non=>cases (show _=_ from h);exact (aIz e).symm
 | bl _=>cases (show _=_ from h);exact (aIz e).symm
 | int _=>cases (show _=_ from h);exact (aIz e).symm
 | str _=>cases e
 | exc _=>cases e
 | dct _=>cases e
 | own _=>cases e
 | lst ts=>
  obtain⟨a,xs,rfl,h1,h2⟩:=h.sqL;have hl:=h2.length;refine .inl ⟨xs,h1,(aIz e).symm.trans ?_⟩;cases ts<;>cases xs<;>simp at hl ⊢
 | tup ts=>
  obtain⟨a,xs,rfl,h1,h2⟩:=h.sqT;have hl:=h2.length;refine .inr (.inl ⟨xs,h1,(aIz e).symm.trans ?_⟩);cases ts<;>cases xs<;>simp at hl ⊢
def fT (f:Rho->Option T):Rho->Option Bool:=fun ρ=>(f ρ).bind wF
theorem jW (h:GE X B fl e f n l) (he:∀ whole,isTrue e X.env whole=(do let v <- whole;standAt e.pos;holding [v] (truthy v)):=by intro _;rfl):GT X B fl e (fT f):=by
 refine DD (aDk h he) ?_;rintro σ H Q ⟨Ex,ρ,M,c,S,hf,q⟩;obtain⟨t,hf,hc⟩:=bind_some hf;exact⟨Ex,ρ,M,t,S,hf,fun v H1 s1 r1=>⟨c,aEf (r1.rep S) hc,q H1 s1⟩⟩
def rC (p:Rho->Option Bool):Rho->Option Bool:=fun ρ=>(p ρ).map (!·)
def xZ (p q:Rho->Option Bool):Rho->Option Bool:=fun ρ=>(p ρ).bind fun b=>if b then q ρ else some false
def pOr (p q:Rho->Option Bool):Rho->Option Bool:=fun ρ=>(p ρ).bind fun b=>if b then some true else q ρ
theorem BX (h:GT X B fl a p):GT X B fl (.UnaryOp .Not a pos) (rC p):=by
 refine DD (aDj h) ?_;rintro σ H Q ⟨Ex,ρ,M,c,S,hf,q⟩;unfold rC at hf;cases e:p ρ with
 | none=>rw[e] at hf;cases hf
 | some d=>
  rw[e] at hf;cases (aIz hf);exact⟨Ex,ρ,M,d,S,e,fun H1 s1=>q H1 s1⟩
theorem JD (h:GT X B fl a p):GW X B fl (.BoolOp .And [a] pos) p:=aDm h
theorem JF (h:GT X B fl a p):GW X B fl (.BoolOp .Or [a] pos) p:=aDo h
theorem JC (h:GT X B fl a p) (k:GW X B fl (.BoolOp .And (b::es) pos) q):GW X B fl (.BoolOp .And (a::b::es) pos) (xZ p q):=by
 refine LZ (aDl h k) ?_;rintro σ H Q ⟨Ex,ρ,M,c,S,hf,q⟩;obtain⟨d,e,hf⟩:=bind_some hf;refine⟨Ex,ρ,M,d,S,e,fun H1 s1=>?_⟩;cases d with
 | true=>exact jZ ⟨Ex,ρ,M,c,S.grow s1,hf,fun H2 s2=>q H2 (s1.trans s2)⟩
 | false=>
  cases (aIz hf);exact jY (q H1 s1)
theorem JE (h:GT X B fl a p) (k:GW X B fl (.BoolOp .Or (b::es) pos) q):GW X B fl (.BoolOp .Or (a::b::es) pos) (pOr p q):=by
 refine LZ (aDn h k) ?_;rintro σ H Q ⟨Ex,ρ,M,c,S,hf,q⟩;obtain⟨d,e,hf⟩:=bind_some hf;refine⟨Ex,ρ,M,d,S,e,fun H1 s1=>?_⟩;cases d with
 | false=>exact jY ⟨Ex,ρ,M,c,S.grow s1,hf,fun H2 s2=>q H2 (s1.trans s2)⟩
 | true=>
  cases (aIz hf);exact jZ (q H1 s1)
theorem GW.gt (h:GW X B fl e p):GT X B fl e p:=h.pt
def zP (f:Rho->Option T):Rho->Option T:=fun ρ=>((f ρ).bind isB).map fun b=>.bl (!b)
def kJ (f g:Rho->Option T):Rho->Option T:=fun ρ=>((f ρ).bind isB).bind fun b=>if b then g ρ else some (.bl false)
def vOr (f g:Rho->Option T):Rho->Option T:=fun ρ=>((f ρ).bind isB).bind fun b=>if b then some (.bl true) else g ρ
theorem sK {op:BoolOp}(h:GE X B fl a f n l):GE X B fl (.BoolOp op [a] pos) f n l:=aCt h
theorem WZ (h:GE X B fl a f n l):GE X B fl (.UnaryOp .Not a pos) (zP f) true 3:=by
 refine bI (aCs h) ?_;rintro σ H Q ⟨Ex,ρ,M,t,S,hf,q⟩;unfold zP at hf;cases e:(f ρ).bind isB with
 | none=>rw[e] at hf;cases hf
 | some d=>
  rw[e] at hf;cases (aIz hf);obtain⟨u,hu,hd⟩:=bind_some e;cases CF hd;exact⟨Ex,ρ,M,_,S,hu,fun v H1 s1 r1=>⟨d,(aN.scal rfl).mp r1,q _ H1 s1 ((aN.scal rfl).mpr rfl)⟩⟩
theorem qN (h:GE X B fl a f n l) (k:GE X B fl (.BoolOp .And (b::es) pos) g n' l'):GE X B fl (.BoolOp .And (a::b::es) pos) (kJ f g) false l':=by
 refine bI (aCi h k) ?_;rintro σ H Q ⟨Ex,ρ,M,t,S,hf,q⟩;obtain⟨d,e,hf⟩:=bind_some hf;obtain⟨u,hu,hd⟩:=bind_some e;cases CF hd;refine⟨Ex,ρ,M,_,S,hu,fun v H1 s1 r1=>⟨d,(aN.scal rfl).mp r1,?_⟩⟩;cases d with
 | true=>exact jZ ⟨Ex,ρ,M,t,S.grow s1,hf,fun v H2 s2 r2=>q v H2 (s1.trans s2) (by have z:=(r2.rep (S.grow s1)).weak fun b x=>Ad.since s1 x;cases t<;>exact z)⟩
 | false=>
  cases (aIz hf);exact jY (q _ H1 s1 ((aN.scal rfl).mpr rfl))
def fIf (p:Rho->Option Bool) (f g:Rho->Option T):Rho->Option T:=fun ρ=>(p ρ).bind fun b=>if b then f ρ else g ρ
theorem WU (hc:GT X B fl c p) (ha:GE X B fl a f n l) (hb:GE X B fl b g n l):GE X B fl (.IfExp c a b pos) (fIf p f g) n l:=by
 refine bI (aCm hc ha hb) ?_;rintro σ H Q ⟨Ex,ρ,M,t,S,hf,q⟩;obtain⟨d,e,hf⟩:=bind_some hf;refine⟨Ex,ρ,M,d,S,e,fun H1 s1=>?_⟩;cases d with
 | true=>exact jZ ⟨Ex,ρ,M,t,S.grow s1,hf,fun v H2 s2 r2=>q v H2 (s1.trans s2) (r2.since s1)⟩
 | false=>exact jY ⟨Ex,ρ,M,t,S.grow s1,hf,fun v H2 s2 r2=>q v H2 (s1.trans s2) (r2.since s1)⟩
def qZ:T->Option T
 | .int i=>some (.int (-i))
 | _=>none
theorem BD (h:GE X B fl a f n l):GE X B fl (.UnaryOp .USub a pos) (f1 f qZ) true 3:=by
 refine bI (aCv aGi h) ?_;rintro σ H Q ⟨Ex,ρ,M,t,S,hf,q⟩;obtain⟨x,hx,hg⟩:=bind_some hf;cases x<;>first | (cases hg;done) | skip
 cases (aIz hg);exact⟨Ex,ρ,M,_,S,hx,fun v H1 s1 r1=>⟨_,(aN.scal rfl).mp r1,q _ H1 s1 ((aN.scal rfl).mpr rfl)⟩⟩
theorem aF:GA X B fl [] aE 3:=tM nD fun σ H Q ⟨Ex,ρ,M,ts,S,hf,q⟩=>q _ H (aO.refl H) (by cases (aIz hf);rfl)
theorem aD (ha:GE X B fl e f n l) (hr:GA X B fl es fa l') (hs:starEach (e::es) X.env=(false,eval e X.env)::starEach es X.env:=by rfl):GA X B fl (e::es) (aC f fa) (min l l'):=by
 refine tM (jF ha hr hs) ?_;rintro σ H Q ⟨Ex,ρ,M,ts,S,hf,q⟩;obtain⟨x,hx,hf⟩:=bind_some hf;obtain⟨xs,hxs,hf⟩:=bind_some hf;cases (aIz hf);refine⟨Ex,ρ,M,x,S,hx,fun v H1 s1 r1=>⟨Ex,ρ,M,xs,S.grow s1,hxs,fun vs H2 s2 r2=>q _ H2 (s1.trans s2) ⟨v,vs,rfl,?_,?_⟩⟩⟩
 ·exact ((r1.rep S).grow s2).weak fun b x=>x.le (Nat.min_le_left _ _)
 ·exact r2.weak fun b x=>(x.since s1).le (Nat.min_le_right _ _)
theorem GA.weak (h:GA X B fl es fa l) (k:l'<=l):GA X B fl es fa l':=
 tM h fun σ H Q ⟨Ex,ρ,M,t,S,hf,q⟩=>⟨Ex,ρ,M,t,S,hf,fun v H' s r=>q v H' s (r.weak fun b x=>x.le k)⟩
def cap:Nat:=1000000
theorem gJ {n:Nat}(h:n<=cap):n<sizeLine:=by rw[sizeLine_eq];unfold cap at h;lia
def fF (fa:Rho->Option (List T)):Rho->Option T:=fun ρ=>(fa ρ).bind fun ts=>if ts.length<=cap then some (.lst ts) else none
def dM (fa:Rho->Option (List T)):Rho->Option T:=fun ρ=>(fa ρ).bind fun ts=>if ts.length<=cap then some (.tup ts) else none
theorem fW (ha:GA X B fl es fa l):GE X B fl (.List es pos) (fF fa) true l:=by
 refine bI (aCq ha) ?_;rintro σ H Q ⟨Ex,ρ,M,t,S,hf,q⟩;obtain⟨ts,hts,hf⟩:=bind_some hf;split at hf
 ·rename_i hl
  cases (aIz hf);refine⟨Ex,ρ,M,ts,S,hts,fun vs H1 s1 r1=>⟨by rw[<- r1.length];exact aL7 (gJ hl),fun p hp=>q _ _ (s1.trans (dZ hp _)) (aN.laid s1 hp r1)⟩⟩
 ·cases hf
theorem hX {k:Nat}(ha:GA X B fl es fa l):GE X B fl (.Tuple es k pos) (dM fa) true l:=by
 refine bI (LR ha) ?_;rintro σ H Q ⟨Ex,ρ,M,t,S,hf,q⟩;obtain⟨ts,hts,hf⟩:=bind_some hf;split at hf
 ·rename_i hl
  cases (aIz hf);refine⟨Ex,ρ,M,ts,S,hts,fun vs H1 s1 r1=>⟨by rw[<- r1.length];exact aL7 (gJ hl),fun p hp=>q _ _ (s1.trans (dZ hp _)) ?_⟩⟩;have hp0:=s1.free hp;exact⟨p,vs,rfl,.inl (.inl dA),r1.grow (dZ hp _)⟩
 ·cases hf
def oIx:T->T->Option T
 | .lst ts,.int i=>atI ts i
 | .tup ts,.int i=>atI ts i
 | _,_=>none
theorem RepL.at {K:PySem.W.Frag}{H:Hp}{A:Addr->Prop}{ts:List T}{xs:List V}{i:Int}{t:T}(h:RepL K H A ts xs) (e:atI ts i=some t):∃ x,atI xs i=some x/\Rep K H A t x:=by
 unfold atI at e ⊢;rw[<- h.length];cases q:ixN ts.length i with
 | none=>rw[q] at e;cases e
 | some j=>rw[q] at e;exact h.get e
theorem bK (ha:GE X B fl a f n l) (hb:GE X B fl b g n' l') (hs:FI b:=by exact fun _ _=>rfl):GE X B fl (.Subscript a b pos) (f2 f g oIx) false l:=by
 refine bI (aCo YW ha hb hs) ?_;rintro σ H Q ⟨Ex,ρ,M,t,S,hf,q⟩;obtain⟨x,hx,hf⟩:=bind_some hf;obtain⟨y,hy,hf⟩:=bind_some hf;refine⟨Ex,ρ,M,x,S,hx,fun vx H1 s1 rx=>⟨Ex,ρ,M,y,S.grow s1,hy,fun vy H2 s2 ry=>?_⟩⟩;have rx':=(rx.rep S).grow s2;have ry':=ry.rep (S.grow s1);cases y<;>first | (cases x<;>cases hf;done) | skip
 rename_i i;cases (show _=_ from ry');cases x with
 | lst ts=>
  obtain⟨p,xs,rfl,h1,h2⟩:=rx'.sqL;obtain⟨z,hz,rz⟩:=h2.at hf;exact .inl ⟨p,xs,i,z,rfl,rfl,h1,hz,q _ _ (s1.trans s2) (by cases t<;>exact rz)⟩
 | tup ts=>
  obtain⟨p,xs,rfl,h1,h2⟩:=rx'.sqT;obtain⟨z,hz,rz⟩:=h2.at hf;exact .inr (.inl ⟨p,xs,i,z,rfl,rfl,h1,hz,q _ _ (s1.trans s2) (by cases t<;>exact rz)⟩)
 | non=>cases hf
 | bl _=>cases hf
 | int _=>cases hf
 | str _=>cases hf
 | exc _=>cases hf
 | dct _=>cases hf
 | own _=>cases hf
def dN:List T->Option T
 | [.lst ts]=>some (.int ts.length)
 | [.tup ts]=>some (.int ts.length)
 | _=>none
def aG (fa:Rho->Option (List T)) (F:List T->Option T):Rho->Option T:=fun ρ=>(fa ρ).bind F
theorem eG {K:PySem.W.Frag}{H:Hp}{A:Addr->Prop}{t:T}{xs:List V}(h:RepL K H A [t] xs):∃ x,xs=[x]/\Rep K H A t x:=by
 obtain⟨x,r,e,h1,h2⟩:=h;cases (show _=[] from h2);exact⟨x,e,h1⟩
theorem eM {x:Str}{p':Pos}(hx:x = "len") (hg:Gl X x) (hm:X.mg x=none) (ha:GA X B fl (e::es) fa l)
  (he:starEach (e::es) X.env=(false,eval e X.env)::starEach es X.env:=by rfl) (hpl:(backTo pos (starEach es X.env)).any (·.1)=false:=by rfl):GE X B fl (.Call (.Name x p') (e::es) [] pos) (aG fa dN) true 3:=by
 subst hx;refine bI (kD SQ hg hm PySem.boot_len ha (by decide) (by decide) he hpl) ?_;rintro σ H Q ⟨Ex,ρ,M,t,S,hf,q⟩;obtain⟨ts,hts,hf⟩:=bind_some hf;refine⟨Ex,ρ,M,ts,S,hts,fun vs H1 s1 r1=>?_⟩
 match ts,hf with
 | [.lst us],hf=>
  cases (aIz hf);obtain⟨y,rfl,ry⟩:=eG r1;obtain⟨p,xs,rfl,h1,h2⟩:=ry.sqL;exact⟨p,xs,rfl,.inl h1,by rw[<- h2.length];exact q _ H1 s1 ((aN.scal rfl).mpr rfl)⟩
 | [.tup us],hf=>
  cases (aIz hf);obtain⟨y,rfl,ry⟩:=eG r1;obtain⟨p,xs,rfl,h1,h2⟩:=ry.sqT;exact⟨p,xs,rfl,.inr h1,by rw[<- h2.length];exact q _ H1 s1 ((aN.scal rfl).mpr rfl)⟩
def LA:List T->Option T
 | [.lst ts]=>some (.lst ts)
 | [.tup ts]=>some (.lst ts)
 | _=>none
end
section
variable {X:Cx}{B:Hp}{fl:List Nat}{a b c e tg iter elt:Expr}{es ifs:List Expr}{f g:Rho->Option T}{fa:Rho->Option (List T)}{p q:Rho->Option Bool}{n n':Bool}{l l':Nat}{pos:Pos}
def aDt (K:PySem.W.Frag):R2:=fun x y H Q=>∃ l b xs zs,x=.ref l/\y=.ref b/\SqL K H l xs/\SqL K H b zs/\xs.length+zs.length<=sizeLine/\∀ p,H p=none->Q (.ref p) (upd H p (.lst (xs++zs)))
theorem aC1:OpR X (binaryOp .Add) (aDt X.K):=by
 intro pins s σ H x y v u Q I rx ry h;obtain⟨l,b,xs,zs,rfl,rfl,hH,hB,hz,q⟩:=h;cases rx;cases ry;obtain⟨its,r,p1,z⟩:=I.list hH;obtain⟨its2,r2,p2,z2⟩:=I.list hB;have hl:=r.length;have hl2:=r2.length;obtain⟨⟨cls,dd,data,sl⟩,n,e,hc,hd,hq⟩:=p1;obtain⟨⟨cls2,dd2,data2,sl2⟩,n2,e2,hc2,hd2,hq2⟩:=p2;simp only at hc hd hq hc2 hd2 hq2;subst hc hd hq hc2 hd2 hq2;have ea:its.toArray++its2.toArray=(its++its2).toArray:=by simp
 refine concat_meets ⟨_,e,rfl⟩ ⟨_,e2,rfl⟩ noFill_list_add seq_list_add PySem.F.slot_list_add PySem.F.entry_list_add (PySem.F.args_list_add_2 _ _) (list_addW l b its.toArray its2.toArray n n2 none none sl sl2 (by simp only[aJ8];omega)) ⟨e,e2,?_⟩;rw[ea];exact⟨.ref _,_,I.lnew (t':=s.toks) (r.append r2) (by rw[aKd];omega),rfl,q _ I.fresh⟩
def jD:T->T->Option T
 | .lst xs,.lst ys=>if xs.length+ys.length<=cap then some (.lst (xs++ys)) else none
 | _,_=>none
theorem BB (ha:GE X B fl a f n l) (hb:GE X B fl b g n' l'):GE X B fl (.BinOp a .Add b pos) (f2 f g jD) true (min l l'):=by
 refine bI (DA aC1 ha hb) ?_;rintro σ H Q ⟨Ex,ρ,M,t,S,hf,q⟩;obtain⟨x,hx,hf⟩:=bind_some hf;obtain⟨y,hy,hf⟩:=bind_some hf;refine⟨Ex,ρ,M,x,S,hx,fun vx H1 s1 rx=>⟨Ex,ρ,M,y,S.grow s1,hy,fun vy H2 s2 ry=>?_⟩⟩;have rx':=(rx.rep S).grow s2;have ry':=ry.rep (S.grow s1);cases x<;>first | (cases hf;done) | skip
 cases y<;>first | (cases hf;done) | skip
 rename_i xs ys;unfold jD at hf;dsimp only at hf;split at hf
 ·rename_i hl
  cases (aIz hf);obtain⟨p1,us,rfl,h1,h2⟩:=rx'.sqL;obtain⟨p2,ws,rfl,k1,k2⟩:=ry'.sqL;refine⟨p1,p2,us,ws,rfl,rfl,h1,k1,?_,fun p hp=>q _ _ ((s1.trans s2).trans (dZ hp _)) (aN.laid (s1.trans s2) hp (RepL.app (h2.weak fun b x=>x.le (Nat.min_le_left _ _)) (k2.weak fun b x=>(x.since s1).le (Nat.min_le_right _ _))))⟩;rw[<- h2.length,<- k2.length];exact aL7 (gJ hl)
 ·cases hf
def aE3:R2:=fun x y H Q=>∃ l k v,x=.ref l/\y=.int k/\H l=some (.lst [v]) /\ -(2^63)<=k/\k<2^63/\k.toNat<=sizeLine/\∀ p,H p=none->Q (.ref p) (upd H p (.lst (List.replicate k.toNat v)))
theorem MK {α:Type}(v:α):∀ k:Nat,(List.replicate k [v]).flatten=List.replicate k v
 | 0=>rfl
 | k+1=>by rw[aL4,List.flatten_cons,MK v k,aL4];rfl
theorem aCb:OpR X (binaryOp .Mult) aE3:=by
 intro pins s σ H x y v u Q I rx ry h;obtain⟨l,k,w,rfl,rfl,hH,h1,h2,hz,q⟩:=h;exact aCa pins s σ H _ _ _ _ Q I rx ry ⟨l,k,[w],rfl,rfl,hH,h1,h2,by simpa using hz,fun p hp=>by rw[MK];exact q p hp⟩
def tF:T->T->Option T
 | .lst [t],.int k=>if 0<=k/\k<=cap then some (.lst (List.replicate k.toNat t)) else none
 | _,_=>none
theorem MH {K:PySem.W.Frag}{H:Hp}{A:Addr->Prop}{t:T}{v:V}(h:Rep K H A t v):∀ k:Nat,RepL K H A (List.replicate k t) (List.replicate k v)
 | 0=>rfl
 | k+1=>⟨v,_,rfl,h,MH h k⟩
theorem IF (ha:GE X B fl a f true l) (hb:GE X B fl b g n' l'):GE X B fl (.BinOp a .Mult b pos) (f2 f g tF) true l:=by
 refine bI (DA aCb ha hb) ?_;rintro σ H Q ⟨Ex,ρ,M,t,S,hf,q⟩;obtain⟨x,hx,hf⟩:=bind_some hf;obtain⟨y,hy,hf⟩:=bind_some hf;refine⟨Ex,ρ,M,x,S,hx,fun vx H1 s1 rx=>⟨Ex,ρ,M,y,S.grow s1,hy,fun vy H2 s2 ry=>?_⟩⟩
 match x,y,hf with
 | .lst [z],.int k,hf=>
  unfold tF at hf;dsimp only at hf;split at hf
  ·rename_i hk
   cases (aIz hf);obtain⟨p1,us,rfl,h0,h1,h2⟩:=rx;obtain⟨w,rfl,rw'⟩:=eG h2;cases (show vy=V.int k from (aN.scal rfl).mp ry);have hc:k.toNat<=cap:=by omega
   refine⟨p1,k,w,rfl,rfl,s2 _ _ h1,by omega,by have:=hk.2;unfold cap at this;omega,aL7 (gJ hc),fun p hp=>q _ _ ((s1.trans s2).trans (dZ hp _)) (aN.laid (s1.trans s2) hp (MH ((rw'.grow s2).weak fun b x=>x.1) _))⟩
  ·cases hf
def cC {α:Type} (xs:List α) (lo hi st:Option Int):List α:=
 (sliceRange (sliceBounds lo hi st xs.length).1 (sliceBounds lo hi st xs.length).2.1 (sliceBounds lo hi st xs.length).2.2).filterMap (xs[·]?)
theorem MG {K:PySem.W.Frag}{H:Hp}{A:Addr->Prop}{ts:List T}{xs:List V}(h:RepL K H A ts xs):∀ is:List Nat,RepL K H A (is.filterMap (ts[·]?)) (is.filterMap (xs[·]?))
 | []=>rfl
 | i::is=>by
  have ih:=MG h is;have hl:=h.length;cases e:ts[i]? with
  | none=>
   have e':xs[i]?=none:=by
    rw[List.getElem?_eq_none_iff] at e ⊢;omega
   rw[aK0,aK0,e,e'];exact ih
  | some t=>
   obtain⟨x,ex,rx⟩:=h.get e;rw[aK0,aK0,e,ex];exact⟨x,_,rfl,rx,ih⟩
theorem aEe {K:PySem.W.Frag}{H:Hp}{A:Addr->Prop}{ts:List T}{xs:List V}(h:RepL K H A ts xs) (lo hi st:Option Int):RepL K H A (cC ts lo hi st) (cC xs lo hi st):=by
 unfold cC;rw[h.length];exact MG h _
theorem OK {xs:List V}{us:List Value}(h:aI xs us):∀ is:List Nat,aI (is.filterMap (xs[·]?)) (is.filterMap (us[·]?))
 | []=>.nil
 | i::is=>by
  have ih:=OK h is;cases e:xs[i]? with
  | none=>
   rw[aK0,aK0,e,h.none_of e];exact ih
  | some t=>
   obtain⟨x,ex,rx⟩:=h.get e;rw[aK0,aK0,e,ex];exact .cons rx ih
def GO (X:Cx) (B:Hp) (fl:List Nat) (e:Option Expr) (f:Rho->Option (Option Int)):Prop:=
 PO X e (fun σ H Q=>∃ Ex ρ M o,Sl X.K B fl Ex σ ρ M H/\f ρ=some o/\∀ H',aO H H'->Q o H')
def tD:Rho->Option (Option Int):=fun _=>some none
def isI:T->Option Int
 | .int i=>some i
 | _=>none
def rB (f:Rho->Option T):Rho->Option (Option Int):=fun ρ=>((f ρ).bind isI).map some
theorem BL:GO X B fl none tD:=fun pins s σ H Q I ⟨_,_,_,o,_,hf,q⟩=>aD7 pins s σ H Q I (by cases (aIz hf);exact q H (aO.refl H))
theorem BM (h:GE X B fl e f n l):GO X B fl (some e) (rB f):=by
 intro pins s σ H Q I hq;obtain⟨Ex,ρ,M,o,S,hf,q⟩:=hq;refine aD8 h pins s σ H Q I ?_;unfold rB at hf;cases e1:(f ρ).bind isI with
 | none=>rw[e1] at hf;cases hf
 | some i=>
  rw[e1] at hf;cases (aIz hf);obtain⟨t,ht,hi⟩:=bind_some e1;cases t<;>first | (cases hi;done) | skip
  cases (aIz hi);exact⟨Ex,ρ,M,_,S,ht,fun v H1 s1 r1=>⟨i,(aN.scal rfl).mp r1,q H1 s1⟩⟩
def wS (f:Rho->Option T) (lo hi st:Rho->Option (Option Int)):Rho->Option T:=fun ρ=>(f ρ).bind fun x=>(lo ρ).bind fun a=>(hi ρ).bind fun b=>(st ρ).bind fun c=>
 match x with
 | .lst ts=>if c=some 0 then none else some (.lst (cC ts a b c))
 | _=>none
theorem IG {lo hi st:Option Expr}{fl' fh fs:Rho->Option (Option Int)}{p2:Pos}(he:GE X B fl e f n l) (hl:GO X B fl lo fl') (hh:GO X B fl hi fh) (hst:GO X B fl st fs)
  (hsub:∀ (v sl:Value),∃ ops,subscripted (.Slice lo hi st p2) false v sl=operate ops (getItem v sl):=by intro _ _;first | exact⟨_,rfl⟩ | (refine⟨_,?_⟩;with_unfolding_all rfl)):
  GE X B fl (.Subscript e (.Slice lo hi st p2) pos) (wS f fl' fh fs) true l:=by
 intro pins s σ H Q I hq;obtain⟨Ex,ρ,M,t,S,hf,q⟩:=hq;obtain⟨x,hx,hf⟩:=bind_some hf;obtain⟨a,ha,hf⟩:=bind_some hf;obtain⟨b,hb,hf⟩:=bind_some hf;obtain⟨c,hc,hf⟩:=bind_some hf;have hx2:∃ ts,x=.lst ts:=by
  cases x<;>first | (cases hf;done) | exact⟨_,rfl⟩
 obtain⟨ts,rfl⟩:=hx2;dsimp only at hf;split at hf
 ·cases hf
 ·rename_i hc0
  cases (aIz hf);refine Subscript_ (thn (he pins s σ H (fun v H1=>aO H H1/\aN X.K B H M H1 n l (.lst ts) v) I ⟨Ex,ρ,M,_,S,hx,fun v H1 s1 r1=>⟨s1,r1⟩⟩) fun v s1 ⟨x,H1,I1,r1,s01,rx⟩=>?_);refine wpAny_Slice (thn (hl pins s1 σ H1 (fun o H2=>o=a/\aO H1 H2) I1 ⟨Ex,ρ,M,a,S.grow s01,ha,fun H2 s2=>⟨rfl,s2⟩⟩) fun vl s2 ⟨o,H2,I2,pl,e2,s12⟩=>?_);subst e2;refine thn (hh pins s2 σ H2 (fun o H3=>o=b/\aO H2 H3) I2 ⟨Ex,ρ,M,b,S.grow (s01.trans s12),hb,fun H3 s3=>⟨rfl,s3⟩⟩) fun vu s3 ⟨o2,H3,I3,pu,e3,s23⟩=>?_;subst e3;refine thn (hst pins s3 σ H3 (fun o H4=>o=c/\aO H3 H4) I3 ⟨Ex,ρ,M,c,S.grow ((s01.trans s12).trans s23),hc,fun H4 s4=>⟨rfl,s4⟩⟩) fun vs s4 ⟨o3,H4,I4,pst,e4,s34⟩=>?_;subst e4;have I5:Inv X pins σ H4 { s4 with heap:=s4.heap.push { cls:=.type "slice",data:=.fields #[vl,vu,vs] } }:=I4.kept (t':=s4.toks) fun b ob q=>aJa _ q;have rx':=(rx.rep S).grow ((s12.trans s23).trans s34);obtain⟨p1,us,rfl,h1,h2⟩:=rx'.sqL;cases r1;obtain⟨its,rv,pl',hz⟩:=I5.list h1;have hlen:=rv.length;show wpAny (model X.prog X.w) X.A (subscriptTail e (.Slice lo hi st p2) (.ref p1) (.ref s4.heap.objs.size)) (EP X pins σ Q) X.xe { s4 with heap:=s4.heap.push { cls:=.type "slice",data:=.fields #[vl,vu,vs] } };obtain⟨ops,hops⟩:=hsub (.ref p1) (.ref s4.heap.objs.size);refine tail_any (ops:=ops) (pl'.isList.typeIs) slot_list_getitem.lookup ?_ hops;refine wpAny_getItem_list_slice pl'.isList (Heap.IsSliceOf.new ..) pl pu pst hc0 ?_ (by rw[aJ8];omega);have e0:slicePick its.toArray o o2 o3=(cC its o o2 o3).toArray:=by
   unfold slicePick cC;simp
  rw[e0];have e1:cC its o o2 o3=(sliceRange (sliceBounds o o2 o3 us.length).1 (sliceBounds o o2 o3 us.length).2.1 (sliceBounds o o2 o3 us.length).2.2).filterMap (its[·]?):=by
   unfold cC;rw[hlen]
  have hv:aI (cC us o o2 o3) (cC its o o2 o3):=by
   rw[e1];exact OK rv _
  have hzz:(cC us o o2 o3).length<=sizeLine:=by
   rw[hv.length];have:=slicePick_size_le its.toArray o o2 o3;rw[e0] at this;simp only[aJ8] at this;omega
  have hnew:H4 (s4.heap.push { cls:=.type "slice",data:=.fields #[vl,vu,vs] }).objs.size=none:=I5.hok.fresh (aL8 _);refine⟨.ref _,_,I5.lnew (t':=s4.toks) hv hzz,rfl,q _ _ (((s01.trans s12).trans (s23.trans s34)).trans (dZ hnew _)) ?_⟩;exact aN.laid ((s01.trans s12).trans (s23.trans s34)) hnew (aEe h2 _ _ _)
def Am (sc:Bool) (A:Addr->Prop) (H:Hp):Addr->Prop:=fun a=>sc=false/\(A a\/H a=none)
def rY (K:PySem.W.Frag) (J:It) (ps:List (T × V)) (ts:List T) (sc:Bool):Prop:=
 ∀ (H:Hp) (A:Addr->Prop),(∀ p∈ps,Rep K H A p.1 p.2)->∀ i:Nat,(∀ t,ts[i]?=some t->J.go i H/\∀ x H',J.yld i H x H'->aO H H'/\Rep K H' (Am sc A H) t x)/\(ts.length<=i->J.stop i H)
def tGI (K:PySem.W.Frag) (B:Hp) (fl:List Nat) (f:Rho->Option (List T)) (l:Nat) (sc:Bool):TI:=fun σ H R=>
 ∃ Ex ρ M ts,Sl K B fl Ex σ ρ M H/\f ρ=some ts/\∀ J H' ps,aO H H'->(∀ p∈ps,Rep K H' (Ad B H M l) p.1 p.2)->rY K J ps ts sc->R J H'
def GI (X:Cx) (B:Hp) (fl:List Nat) (tg e:Expr) (f:Rho->Option (List T)) (l:Nat) (sc:Bool):Prop:=PI X tg e (tGI X.K B fl f l sc)
theorem tQ {t t':TI}(h:PI X tg e t) (k:∀ σ H R,t' σ H R->t σ H R):PI X tg e t':=fun pins s σ H R I q=>h pins s σ H R I (k σ H R q)
def isL:T->Option (List T)
 | .lst ts=>some ts
 | _=>none
def fL (f:Rho->Option T):Rho->Option (List T):=fun ρ=>(f ρ).bind isL
def mY:T->Option (List T)
 | .lst ts=>if bU ts then some ts else none
 | _=>none
def fFL (f:Rho->Option T):Rho->Option (List T):=fun ρ=>(f ρ).bind mY
theorem KH {pins:List (Addr × Obj)}{s:Shared}{σ:St}{H:Hp}{R:It->Hp->Prop}{Ex:List (T × V)}{ρ:Rho}{M:List Addr}{ts:List T}{sc:Bool}(h:GE X B fl e f n l) (I:Inv X pins σ H s) (S:Sl X.K B fl Ex σ ρ M H) (ht:f ρ=some (.lst ts)) (hsc:sc=true->bU ts=true)
  (q:∀ J H' ps,aO H H'->(∀ p∈ps,Rep X.K H' (Ad B H M l) p.1 p.2)->rY X.K J ps ts sc->R J H'):
  wpAny (model X.prog X.w) X.A (eval e X.env) (fun v s1=>wpAny (model X.prog X.w) X.A (pyIter v) (PIE X pins σ tg R) X.xe s1) X.xe s:=by
 refine thn (h pins s σ H (fun v H1=>aO H H1/\aN X.K B H M H1 n l (.lst ts) v) I ⟨Ex,ρ,M,_,S,ht,fun v H1 s1 r1=>⟨s1,r1⟩⟩) fun v s1 ⟨x,H1,I1,r1,s01,rx⟩=>?_;have rx':=rx.rep S;obtain⟨a,xs,rfl,hs,hr⟩:=rx'.sqL;cases r1;obtain⟨its,rv,p,hz⟩:=I1.list hs;refine wpAny_pyIter_list p.isList ?_;refine⟨s1.heap.objs.size,[s1.heap.objs.size],_,_,H1,rfl,I1.kept (t':=s1.toks) fun b o e=>aJa _ e,aGd a _,⟨_,aJi _ rfl,rfl,rfl⟩,fun b hb=>?_,?_⟩
 ·have e:b=s1.heap.objs.size:=by simpa using hb
  subst e;exact I1.fpOk (aL8 _) (I1.hok.fresh (aL8 _))
 ·refine q (Itl X.K a) H1 [(.lst ts,.ref a)] s01 (fun p hp=>by cases aKz.mp hp;exact rx') ?_
  intro H2 A hA i;obtain⟨a',ys,e,hs2,hr2⟩:=(hA _ aJ3).sqL;cases e;refine⟨fun t hti=>?_,fun hi=>⟨ys,hs2,by rw[<- hr2.length];exact hi⟩⟩;obtain⟨y,hy,ry⟩:=hr2.get hti;refine⟨⟨ys,y,hs2,hy⟩,fun z H3 hz=>?_⟩;obtain⟨rfl,hz⟩:=hz;have:=hz ys hs2;rw[hy] at this;cases (aIz this);refine⟨aO.refl _,?_⟩;cases sc with
  | false=>exact ry.weak fun b x=>⟨rfl,.inl x⟩
  | true=>
   have hs:G.im t=true:=aJ5.mp (hsc rfl) t (aKy hti);exact rE t hs ry
theorem jT (h:GE X B fl e f n l):GI X B fl tg e (fL f) l false:=by
 intro pins s σ H R I hq;obtain⟨Ex,ρ,M,ts,S,hf,q⟩:=hq;obtain⟨t,ht,hl⟩:=bind_some hf;cases t<;>first | (cases hl;done) | skip
 cases (aIz hl);exact KH h I S ht (fun z=>by cases z) q
theorem fX (h:GE X B fl e f n l):GI X B fl tg e (fFL f) l true:=by
 intro pins s σ H R I hq;obtain⟨Ex,ρ,M,ts,S,hf,q⟩:=hq;obtain⟨t,ht,hl⟩:=bind_some hf;cases t<;>first | (cases hl;done) | skip
 unfold mY at hl;dsimp only at hl;split at hl
 ·rename_i hfl
  cases (aIz hl);exact KH h I S ht (fun _=>hfl) q
 ·cases hl
def rangeT (lo:Int) (n:Nat):List T:=(List.range n).map fun (i:Nat)=>T.int (lo+(i:Int))
def dO:List T->Option (List T)
 | [.int j]=>if j.natAbs<2^62 then some (rangeT 0 j.toNat) else none
 | _=>none
def gQ:List T->Option (List T)
 | [.int i,.int j]=>if i.natAbs<2^62/\j.natAbs<2^62 then some (rangeT i (j-i).toNat) else none
 | _=>none
def cV (fa:Rho->Option (List T)) (o:List T->Option (List T)):Rho->Option (List T):=fun ρ=>(fa ρ).bind o
theorem ON {K:PySem.W.Frag}(lo:Int) (n:Nat):rY K (Itr lo n) [] (rangeT lo n) true:=by
 intro H A _ i;unfold rangeT;refine⟨fun t ht=>?_,fun hi=>by show n<=i;simpa using hi⟩;rw[aKa] at ht;cases e:(List.range n)[i]? with
 | none=>rw[e] at ht;cases ht
 | some k=>
  rw[e] at ht;cases (aIz ht);obtain⟨h1,h2⟩:=aJ4.mp e;rw[List.getElem_range] at h2;subst h2;refine⟨by show i<n;simpa using h1,fun x H' hx=>?_⟩;obtain⟨rfl,rfl⟩:=hx;exact⟨aO.refl _,rfl⟩
theorem eV {x:Str}{p':Pos}(hx:x = "range") (hg:Gl X "range") (hm:X.mg "range" = none) (ha:GA X B fl [a] fa l) (hs:starEach [a] X.env=[(false,eval a X.env)]:=by rfl):GI X B fl tg (.Call (.Name x p') [a] [] pos) (cV fa dO) 3 true:=by
 subst hx;refine tQ (aD2 hg hm ha hs) ?_;rintro σ H R ⟨Ex,ρ,M,ts,S,hf,q⟩;obtain⟨us,hus,hf⟩:=bind_some hf;refine⟨Ex,ρ,M,us,S,hus,fun vs H1 s1 r1=>?_⟩
 match us,hf with
 | [.int j],hf=>
  unfold dO at hf;dsimp only at hf;split at hf
  ·rename_i hj
   cases (aIz hf);obtain⟨y,rfl,ry⟩:=eG r1;cases (show _=_ from ry);exact⟨j,rfl,by omega,by omega,q _ H1 [] s1 (fun _ z=>nomatch z) (ON 0 j.toNat)⟩
  ·cases hf
theorem BH {x:Str}{p':Pos}(hx:x = "range") (hg:Gl X "range") (hm:X.mg "range" = none) (ha:GA X B fl [a,b] fa l) (hs:starEach [a,b] X.env=[(false,eval a X.env),(false,eval b X.env)]:=by rfl) (hs2:starEach [b] X.env=[(false,eval b X.env)]:=by rfl):GI X B fl tg (.Call (.Name x p') [a,b] [] pos) (cV fa gQ) 3 true:=by
 subst hx;refine tQ (aD3 hg hm ha hs hs2) ?_;rintro σ H R ⟨Ex,ρ,M,ts,S,hf,q⟩;obtain⟨us,hus,hf⟩:=bind_some hf;refine⟨Ex,ρ,M,us,S,hus,fun vs H1 s1 r1=>?_⟩
 match us,hf with
 | [.int i,.int j],hf=>
  unfold gQ at hf;dsimp only at hf;split at hf
  ·rename_i hj
   cases (aIz hf);obtain⟨y,r,e,ry,h2⟩:=r1;obtain⟨y2,rfl,ry2⟩:=eG h2;subst e;cases (show _=_ from ry);cases (show _=_ from ry2);exact⟨i,j,rfl,by omega,q _ H1 [] s1 (fun _ z=>nomatch z) (ON i (j-i).toNat)⟩
  ·cases hf
end
def bJ (src:List (Option Nat)) (ρ:Rho):Rho:=src.map fun o=>o.bind fun i=>(ρ[i]?).join
def bL (p:Rho->Option Bool) (f:Rho->Option T) (ρ:Rho):List T->Option (List T)
 | []=>some []
 | t::ts=>(p (ρ.set 0 (some t))).bind fun b=>if b then (f (ρ.set 0 (some t))).bind fun x=>(bL p f ρ ts).map (x :: ·) else bL p f ρ ts
def cA (fi:Rho->Option (List T)) (src:List (Option Nat)) (p:Rho->Option Bool) (f:Rho->Option T):Rho->Option T:=fun ρ=>
 (fi ρ).bind fun ts=>(bL p f (bJ src ρ) ts).bind fun us=>if us.length<=cap then some (.lst us) else none
def aR:Rho->Option Bool:=fun _=>some true
def GIf (X:Cx) (B:Hp) (fl:List Nat) (ifs:List Expr) (p:Rho->Option Bool):Prop:=PIf X ifs (tGT X.K B fl p)
theorem cW {X:Cx}{B:Hp}{fl:List Nat}:GIf X B fl [] aR:=fun pins s σ H Q I ⟨_,_,_,b,_,hf,q⟩=>aD5 pins s σ H Q I (by cases (aIz hf);exact q H (aO.refl H))
theorem BJ {X:Cx}{B:Hp}{fl:List Nat}{c:Expr}{p:Rho->Option Bool}(h:GT X B fl c p):GIf X B fl [c] p:=aD6 h
theorem jS {α:Type}{l:List (Option α)}{i:Nat}{t:α}(h:(l[i]?).join=some t):l[i]?=some (some t):=by
 cases e:l[i]? with
 | none=>rw[e] at h;cases h
 | some o=>rw[e] at h;cases (show o=some t from h);rfl
theorem NX {src:List (Option Nat)}{ρ:Rho}{j:Nat}{t:T}(h:(bJ src ρ)[j]?=some (some t)):∃ i,src[j]?=some (some i)/\ρ[i]?=some (some t):=by
 unfold bJ at h;rw[aKa] at h;cases e:src[j]? with
 | none=>rw[e] at h;cases h
 | some o=>
  rw[e] at h;cases o with
  | none=>cases (aIz h)
  | some i=>exact⟨i,rfl,jS (aIz h)⟩
theorem NY {src:List (Option Nat)}{σ:St}{j i:Nat}{v:V}(h:src[j]?=some (some i)) (e:σ[i]?=some (some v)):(cM src σ)[j]?=some (some v):=by
 unfold cM;rw[aKa,h];show some ((σ[i]?).join)=_;rw[e];rfl
structure FlOk (X:Cx) (N':List Str) (src:List (Option Nat)) (fl fl':List Nat) (li:Nat) (sc:Bool):Prop where
 nd:N'.Nodup
 own:src[0]?=some none
 cap:∀ (j i:Nat),src[j]?=some (some i)->fl'.getD j 1=fl.getD i 1
 pos:1<=fl'.getD 0 1
 le:sc=false->fl'.getD 0 1<=li
 xN:∀ (j i:Nat),src[j]?=some (some i)->N'[j]?=X.N[i]?/\j<N'.length
 lf:fl'.length=src.length
 lcs:lc fl'<=lc fl\/∀ j,fl'.getD j 1≠0
section
variable {X:Cx}{K:PySem.W.Frag}{B H:Hp}{fl fl':List Nat}{src:List (Option Nat)}{N':List Str}{Ex:List (T × V)}{σ σ1:St}{ρ:Rho}{M:List Addr}{li:Nat}{sc:Bool}
theorem Sl.block {t:T}{x:V}(F:FlOk X N' src fl fl' li sc) (S:Sl K B fl Ex σ ρ M H) (h0:∀ j,j≠0->σ1[j]?=(cM src σ)[j]?) (hl:σ1.length=src.length) (r:Rep K H (Ad B H M (min (fl'.getD 0 1) 2)) t x):
  Sl K B fl' Ex (σ1.set 0 (some x)) ((bJ src ρ).set 0 (some t)) M H:=by
 have get:∀ j u,((bJ src ρ).set 0 (some t))[j]?=some (some u)->(j=0/\u=t)\/(j≠0/\∃ i,src[j]?=some (some i)/\ρ[i]?=some (some u)):=fun j u e=>by
  by_cases hj:j=0
  ·subst hj
   left
   refine⟨rfl,?_⟩
   by_cases hz:0<(bJ src ρ).length
   ·rw[aKc hz] at e
    cases (aIz e);rfl
   ·have:((bJ src ρ).set 0 (some t))=[]:=by
     have:(bJ src ρ)=[]:=List.length_eq_zero_iff.mp (by omega);rw[this];rfl
    rw[this] at e;cases e
  ·right
   rw[aJ9 (Ne.symm hj)] at e;exact⟨hj,NX e⟩
 have put:∀ j i v,j≠0->src[j]?=some (some i)->σ[i]?=some (some v)->(σ1.set 0 (some x))[j]?=some (some v):=fun j i v hj e1 e2=>by
  rw[aJ9 (Ne.symm hj),h0 j hj];exact NY e1 e2
 have hl0:0<σ1.length:=by
  have:=(aJ4.mp F.own).1;omega
 obtain⟨g,hg,ap⟩:=S.mu;refine⟨S.same,fun j u e k=>?_,⟨fun j=>g (((src[j]?).join).getD 0),fun j u e k hm=>?_,fun j j' c d u u' us ws hne e e' k k' hm hm'=>?_⟩,S.ex,S.mB,by rw[aKk,hl];exact aL6 F.lf⟩
 ·rcases get j u e with ⟨rfl,rfl⟩ | ⟨hj,i,e1,e2⟩
  ·exact⟨x,by rw[aKc hl0],r⟩
  ·rw[F.cap j i e1] at k ⊢
   obtain⟨v,e3,r3⟩:=S.slot i u e2 k;exact⟨v,put j i v hj e1 e3,r3⟩
 ·rcases get j u e with ⟨rfl,rfl⟩ | ⟨hj,i,e1,e2⟩
  ·exact absurd k (by have:=F.pos;omega)
  ·rw[F.cap j i e1] at k
   obtain⟨v,e4,e5,e6⟩:=hg i u e2 k hm;simp only[show ((src[j]?).join).getD 0=i by rw[e1];rfl];refine⟨v,put j i _ hj e1 e4,e5,fun c us h=>?_⟩;obtain⟨xs,q1,q2,q3⟩:=e6 c us h;rcases F.lcs with lk | lk
   ·exact⟨xs,q1,q2.weak fun b x=>x.le lk,q3⟩
   ·exact absurd ((F.cap j i e1).trans k) (lk j)
 ·rcases get j u e with ⟨rfl,rfl⟩ | ⟨hj,i,e1,e2⟩
  ·exact absurd k (by have:=F.pos;omega)
  ·rcases get j' u' e' with ⟨rfl,rfl⟩ | ⟨hj',i',e1',e2'⟩
   ·exact absurd k' (by have:=F.pos;omega)
   ·rw[F.cap j i e1] at k
    rw[F.cap j' i' e1'] at k';have hii:j≠j'->i≠i':=fun hj z=>by
     subst z;have q1:=F.xN j i e1;have q2:=F.xN j' i e1';have:N'[j]?=N'[j']?:=q1.1.trans q2.1.symm;rw[aJ1 q1.2,aJ1 q2.2] at this;exact hj ((List.getElem_inj F.nd).mp (aIz this))
    simp only[show ((src[j]?).join).getD 0=i by rw[e1];rfl,show ((src[j']?).join).getD 0=i' by rw[e1'];rfl];exact ap i i' c d u u' us ws (hne.imp hii id) e2 e2' k k' hm hm'
end
theorem Sl.mores {K:PySem.W.Frag}{B H1 H':Hp}{fl:List Nat}{Ex:List (T × V)}{σ:St}{ρ:Rho}{M:List Addr}(Ds:List Addr) (S:Sl K B fl Ex σ ρ M H1) (hD:∀ D∈Ds,H1 D=none/\H' D≠none) (s:aO H1 H'):Sl K B fl Ex σ ρ (Ds++M) H' where
 same:=S.same.trans s
 slot:=fun i t e k=>by
  obtain⟨v,e1,r⟩:=S.slot i t e k;refine⟨v,e1,Rep.keep (fun b _ e=>fO (fun o q=>s b o q) e) (fun b o _ e=>s b o e) (fun b x y=>⟨fun z w=>?_,x.2.1,fun z=>by omega⟩) t r⟩;rcases aKr.mp w with w | w
  ·exact y (hD b w).1
  ·exact x.1 z w
 mu:=by
  obtain⟨g,hg,ap⟩:=S.mu;refine⟨g,fun i t e k hm=>?_,ap⟩;obtain⟨v,e1,e2,e3⟩:=hg i t e k hm;refine⟨v,e1,e2.grow s,fun c us h=>?_⟩;obtain⟨xs,q1,r,q3⟩:=e3 c us h;refine⟨xs,q1.keep (s _),RepL.keep (fun b _ e=>fO (fun o q=>s b o q) e) (fun b o _ e=>s b o e) (fun b x y=>⟨fun z w=>?_,x.2.1,fun z=>by have:=jB fl;omega⟩) us r,aKt _ q3⟩;rcases aKr.mp w with w | w
  ·exact y (hD b w).1
  ·exact x.1 z w
 ex:=fun p hp=>by
  refine Rep.keep (fun b _ e=>fO (fun o q=>s b o q) e) (fun b o _ e=>s b o e) (fun b x y=>⟨fun z w=>?_,x.2.1,fun z=>by omega⟩) p.1 (S.ex p hp);rcases aKr.mp w with w | w
  ·exact y (hD b w).1
  ·exact x.1 z w
 mB:=fun a ha=>by
  rcases aKr.mp ha with ha | ha
  ·exact⟨S.same.free (hD a ha).1,(hD a ha).2⟩
  ·exact⟨(S.mB a ha).1,fun z=>(S.mB a ha).2 (s.free z)⟩
 len:=S.len
theorem Sl.more {K:PySem.W.Frag}{B H1 H':Hp}{fl:List Nat}{Ex:List (T × V)}{σ:St}{ρ:Rho}{M:List Addr}{D:Addr}(S:Sl K B fl Ex σ ρ M H1) (hD:H1 D=none) (s:aO H1 H') (hn:H' D≠none):Sl K B fl Ex σ ρ (D::M) H':=
 Sl.mores [D] S (fun _ h=>by cases aKz.mp h;exact⟨hD,hn⟩) s
theorem TL {p:Rho->Option Bool}{f:Rho->Option T}{ρ:Rho}{t:T}{ts us:List T}(h:bL p f ρ (t::ts)=some us):
  ∃ b,p (ρ.set 0 (some t))=some b/\((b=true/\∃ x r,f (ρ.set 0 (some t))=some x/\bL p f ρ ts=some r/\us=x::r)\/(b=false/\bL p f ρ ts=some us)):=by
 unfold bL at h;obtain⟨b,hb,h⟩:=bind_some h;refine⟨b,hb,?_⟩;cases b with
 | true=>
  left
  rw[if_pos rfl] at h;obtain⟨x,hx,h⟩:=bind_some h;cases e:bL p f ρ ts with
  | none=>rw[e] at h;cases h
  | some r=>rw[e] at h;cases (aIz h);exact⟨rfl,x,r,hx,rfl,rfl⟩
 | false=>
  right
  rw[if_neg aJg] at h;exact⟨rfl,h⟩
section
variable {X:Cx}{B:Hp}{fl fl':List Nat}{elt iter:Expr}{x0:Str}{p0:Pos}{ifs:List Expr}{scope:Scope}{pos:Pos}{N':List Str}{src:List (Option Nat)}{fi:Rho->Option (List T)}{p:Rho->Option Bool}{f:Rho->Option T}{n sc:Bool}{l li:Nat}
theorem AK (F:FlOk X N' src fl fl' li sc) (hl1':1<=l) {σ:St}{H:Hp}{Q:VK}(h:tG X.K B fl (cA fi src p f) true l σ H Q):
  wB (tGI X.K B fl fi li sc) (cM src) (jP 0) (tGT X.K B fl' p) (tG X.K B fl' f n l) σ H Q:=by
 obtain⟨Ex,ρ,M,t,S,hf,q⟩:=h;obtain⟨ts,hts,hf⟩:=bind_some hf;obtain⟨fin,hfin,hf⟩:=bind_some hf;split at hf
 rotate_left
 ·cases hf
 rename_i hcap;cases (aIz hf);refine⟨Ex,ρ,M,ts,S,hts,fun J H1 ps s01 rp wk=>?_⟩;intro D hD;have hlen:0<src.length:=by
  have:=(aJ4.mp F.own).1;exact this
 refine⟨fun i m σ1 H2=>m=ts.length-i/\i<=ts.length/\aO H1 H2/\σ1.length=src.length/\(∀ j,j≠0->σ1[j]?=(cM src σ)[j]?) /\
  ∃ us rest xs,us++rest=fin/\bL p f (bJ src ρ) (ts.drop i)=some rest/\H2 D=some (.lst xs)/\RepL X.K H2 (fun b=>Ad B H M l b/\b≠D) us xs,?_,?_⟩
 ·refine⟨ts.length,by simp,aLq _,dZ hD _,by unfold cM;simp,fun _ _=>rfl,[],fin,[],rfl,by simpa using hfin,dA,rfl⟩
 ·rintro i m σ1 H2 ⟨rfl,hi,s12,hl1,hσ,us,rest,xs,e1,e2,e3,e4⟩
  have hD2:H2 D≠none:=by rw[e3];simp
  have S2:=(S.grow s01).more hD s12 hD2;have rp1:∀ pv∈ps,Rep X.K H1 (fun b=>Ad B H M li b/\b≠D) pv.1 pv.2:=fun pv hpv=>Rep.keep (fun _ _ e=>e) (fun _ _ _ e=>e) (fun b x y=>⟨x,fun z=>y (z ▸ hD)⟩) pv.1 (rp pv hpv);have w:=wk H2 _ (fun pv hpv=>(rp1 pv hpv).grow s12) i
  by_cases hlt:i<ts.length
  ·refine .inr ?_
   have et:ts[i]?=some ts[i]:=aJ1 hlt;obtain⟨go,yl⟩:=w.1 _ et;refine⟨go,fun x H3 hy=>?_⟩;obtain⟨s23,rx⟩:=yl x H3 hy;rw[List.drop_eq_getElem_cons hlt] at e2;obtain⟨b,hb,hcase⟩:=TL e2;have S3:=S2.grow s23;have rx':Rep X.K H3 (Ad B H3 (D::M) (min (fl'.getD 0 1) 2)) ts[i] x:=rx.weak fun c hc=>by
    obtain⟨h0,hc⟩:=hc;rcases hc with hc | hc
    ·refine⟨fun z w=>?_,fun z=>hc.1.2.1 (by have:=F.le h0;omega),fun z=>by omega⟩
     rcases aJb.mp w with rfl | w
     ·exact hc.2 rfl
     ·exact hc.1.1 (by have:=F.le h0;omega) w
    ·exact⟨fun _ z=>(S2.mB c z).2 hc,fun _=>S2.same.free hc,fun z=>by omega⟩
   have Sb:=Sl.block (σ1:=σ1) F S3 hσ hl1 rx';show tGT X.K B fl' p (σ1.set 0 (some x)) H3 _;refine⟨Ex,_,D::M,b,Sb,hb,fun H5 s35=>?_⟩;have hσ':∀ j,j≠0->(σ1.set 0 (some x))[j]?=(cM src σ)[j]?:=fun j hj=>by rw[aJ9 (Ne.symm hj)];exact hσ j hj
   rcases hcase with ⟨rfl,y,r,hy',hr,rfl⟩ | ⟨rfl,hr⟩
   ·refine jZ ⟨Ex,_,D::M,y,Sb.grow s35,hy',fun v H6 s56 rv=>?_⟩
    have s26:=(s23.trans s35).trans s56;have e5:=s26 _ _ e3;have hl:xs.length<sizeLine:=by
     rw[<- e4.length];refine gJ (aL9 ?_ hcap);rw[<- e1];simp
    refine⟨xs,e5,hl,ts.length-(i+1),by omega,rfl,hlt,?_,by simpa using hl1,hσ',us++[y],r,xs++[v],by rw[<- e1];simp,hr,dA,?_⟩
    ·intro c o hc
     have:c≠D:=fun z=>by rw[z,hD] at hc;cases hc
     rw[aV this];exact (s12.trans s26) c o hc
    ·have k1:RepL X.K H6 (fun b=>Ad B H M l b/\b≠D) us xs:=e4.grow s26
     have k2:Rep X.K H6 (fun b=>Ad B H M l b/\b≠D) y v:=by
      have z:=rv.rep (Sb.grow s35);exact z.weak fun c hc=>⟨⟨fun k w=>hc.1 k (aJ2 _ w),hc.2.1,fun k=>((s01.trans s12).trans (s23.trans s35)).free (hc.2.2 k)⟩,fun w=>hc.1 hl1' (by rw[w];exact aJ3)⟩
     exact (RepL.app k1 (RepL.one k2)).keep (fun c _ e=>gR e5 e) (fun c o hc e=>by rw[aV hc.2];exact e) (fun c hc _=>hc) _
   ·refine jY ⟨ts.length-(i+1),by omega,rfl,hlt,(s12.trans s23).trans s35,by simpa using hl1,hσ',us,rest,xs,e1,hr,(s23.trans s35) _ _ e3,e4.grow (s23.trans s35)⟩
  ·have ei:i=ts.length:=by omega
   subst ei;refine .inl ⟨w.2 (aL8 _),?_⟩;rw[List.drop_eq_nil_of_le (aL8 _)] at e2;cases (aIz (show some []=some rest from e2));rw[List.append_nil] at e1;subst e1;exact q _ H2 (s01.trans s12) ⟨D,xs,rfl,s01.free hD,e3,e4⟩
def tL:Option NameKind->Bool
 | some .local=>true
 | some .cell=>true
 | _=>false
theorem ME {env:Env}:∀ {names:List (Str × NameKind)}{x:Str},names.lookup x=some .cell ->
  (names.map fun (n,k)=>if (k == NameKind.free&&env.scope.kind == .function&&env.kindOf n == some .cell) then (n,NameKind.cell) else (n,k)).lookup x=some .cell
 | [],_,h=>by cases h
 | (n,k)::r,x,h=>by
  rw[aKm] at h;rw[aKo]
  by_cases hx:(x == n)=true
  ·rw[hx] at h
   have h':k=NameKind.cell:=aIz h;subst h';show ((n,NameKind.cell)::_).lookup x=_;rw[aKm,hx]
  ·have hx':(x == n)=false:=by simpa using hx
   rw[hx'] at h;have ih:=ME (env:=env) h;dsimp only
   split<;>(rw[aKm,hx'];exact ih)
theorem LT {X:Cx}{scope:Scope}{N':List Str}{cl:List (Str × Addr)}{C:Addr}{s:Shared}{H:Hp}{ex:List Addr}{i:Nat}{x:Str}{p:Pos}(hN:N'.Nodup) (hi:N'[i]?=some x) (hx:tL (scope.names.lookup x)=true):
  PG (cxB X scope N' cl C s H ex) (.Name x p) (jP i):=by
 cases q:scope.names.lookup x with
 | none=>rw[q] at hx;cases hx
 | some k=>
  rw[q] at hx;cases k with
  | «local»=>exact yC hN hi (.inl (lookup_relabel_local q)) (.inr (lookup_relabel_local q))
  | cell=>exact yC hN hi (.inr (ME q)) (.inl (show qR (scope.names.lookup x)=true by rw[q];rfl))
  | _=>cases hx
theorem hV (S:BlkOk X scope N' src) (F:FlOk X N' src fl fl' li sc) (hl1:1<=l) (hc:X.calm=true) (hi:GI X B fl (.Name x0 p0) iter fi li sc) (hN:N'[0]?=some x0) (hx:tL (scope.names.lookup x0)=true)
  (hb:∀ cl C s H ex,GIf (cxB X scope N' cl C s H ex) B fl' ifs p/\GE (cxB X scope N' cl C s H ex) B fl' elt f n l)
  (hs:∀ x,foldedSetIterable iter X.env x=pure x:=by intro _;rfl):GE X B fl (.ListComp elt [⟨.Name x0 p0,iter,ifs,0⟩] scope pos) (cA fi src p f) true l:=by
 refine bI (LQ (wi:=tGI X.K B fl fi li sc) (g:=jP 0) (tc:=tGT X.K B fl' p) (te:=tG X.K B fl' f n l) S hc hi (fun cl C s H ex=>⟨?_,(hb cl C s H ex).1,(hb cl C s H ex).2⟩) hs) fun σ H Q h=>AK F hl1 h;exact LT F.nd hN hx
theorem IQ {i:Nat}{x:Str}{pos' spos:Pos}(S:BlkOk X scope N' src) (hc:X.calm=true) (hi:GI X B fl (.Name x0 p0) iter fi li sc) (hnd:N'.Nodup) (hN0:N'[0]?=some x0) (hx0:tL (scope.names.lookup x0)=true)
  (hb:∀ cl C s H ex,GIf (cxB X scope N' cl C s H ex) B fl' ifs p/\GE (cxB X scope N' cl C s H ex) B fl' elt f n l) (hN:X.N.Nodup) (hiN:X.N[i]?=some x) (hx:Loc X.env.scope x)
  (hsw:swapsWith (.ListComp elt [⟨.Name x0 p0,iter,ifs,0⟩] scope pos) (some (.Name x pos')) spos.line X.env=pure true)
  (hs:∀ x,foldedSetIterable iter X.env x=pure x) (hf:X.fn x=true\/X.env.scope.names.lookup x=some .local):
  PS X (.Assign [.Name x pos'] (.ListComp elt [⟨.Name x0 p0,iter,ifs,0⟩] scope pos) spos) (zM (wB (tGI X.K B fl fi li sc) (cM src) (jP 0) (tGT X.K B fl' p) (tG X.K B fl' f n l)) (jP i)):=by
 refine DC hN hiN hx S hc hi (fun cl C s H ex=>⟨?_,(hb cl C s H ex).1,(hb cl C s H ex).2⟩) hsw hs hf;exact LT hnd hN0 hx0
end
inductive Out where
 | nx (ρ:Rho) | rt (t:T) | bk (ρ:Rho) | ct (ρ:Rho)
def okO:T->Bool
 | .lst _=>true
 | t=>im t
def bZ (K:PySem.W.Frag) (B H:Hp) (M:List Addr) (H':Hp):List T->List V->Prop
 | [],xs=>xs=[]
 | t::ts,xs=>∃ x r,xs=x::r/\okO t=true/\aN K B H M H' true 3 t x/\bZ K B H M H' ts r
def Dst (ts:List T) (xs:List V):Prop:=∀ (c d:Nat) (us ws:List T) (a:Addr),c≠d->ts[c]?=some (.lst us)->ts[d]?=some (.lst ws)->xs[c]?=some (.ref a)->xs[d]?=some (.ref a)->False
def wL (K:PySem.W.Frag) (B H:Hp) (M:List Addr) (H':Hp) (t:T) (v:V):Prop:=∃ p ts xs,t=.tup ts/\v=.ref p/\Rd H' p (.tup xs)/\bZ K B H M H' ts xs/\Dst ts xs
def RtX (K:PySem.W.Frag) (B H:Hp) (n:Bool) (l:Nat) (t:T) (v:V):Prop:=if l=4 then wL K B B [] H t v else aN K B B [] H n l t v
theorem RtX.of {K:PySem.W.Frag}{B H:Hp}{n:Bool}{l:Nat}{t:T}{v:V}(hl:l≠4):RtX K B H n l t v ↔ aN K B B [] H n l t v:=by unfold RtX;rw[if_neg hl]
def EM (K:PySem.W.Frag) (B:Hp) (fl:List Nat) (n:Bool) (l:Nat) (Ex:List (T × V)) (D:Ends):Out->Prop
 | .nx ρ=>∀ σ M H,Sl K B fl Ex σ ρ M H->D.nx σ H
 | .bk ρ=>∀ σ M H,Sl K B fl Ex σ ρ M H->D.bk σ H
 | .ct ρ=>∀ σ M H,Sl K B fl Ex σ ρ M H->D.ct σ H
 | .rt t=>∀ v H,aO B H->RtX K B H n l t v->D.rt v H
def tS (K:PySem.W.Frag) (B:Hp) (fl:List Nat) (n:Bool) (l:Nat) (run:Rho->Option Out):TS:=fun D σ H=>
 ∃ Ex ρ M o,Sl K B fl Ex σ ρ M H/\run ρ=some o/\EM K B fl n l Ex D o
def GS (X:Cx) (B:Hp) (fl:List Nat) (n:Bool) (l:Nat) (st:Stmt) (run:Rho->Option Out):Prop:=PS X st (tS X.K B fl n l run)
def GSs (X:Cx) (B:Hp) (fl:List Nat) (n:Bool) (l:Nat) (st:List Stmt) (run:Rho->Option Out):Prop:=PSs X st (tS X.K B fl n l run)
def bW:Rho->Option Out:=fun ρ=>some (.nx ρ)
def aH (r1 r2:Rho->Option Out):Rho->Option Out:=fun ρ=>(r1 ρ).bind fun o=>match o with | .nx ρ'=>r2 ρ' | o=>some o
def aQ (i:Nat) (f:Rho->Option T):Rho->Option Out:=fun ρ=>(f ρ).map fun t=>.nx (ρ.set i (some t))
def okM:T->Bool
 | .lst _=>true
 | t=>im t
def dH (i:Nat) (f:Rho->Option T):Rho->Option Out:=fun ρ=>(f ρ).bind fun t=>if okM t then some (.nx (ρ.set i (some t))) else none
def rIf (p:Rho->Option Bool) (r1 r2:Rho->Option Out):Rho->Option Out:=fun ρ=>(p ρ).bind fun b=>if b then r1 ρ else r2 ρ
def aU (f:Rho->Option T):Rho->Option Out:=fun ρ=>(f ρ).map .rt
def aE4 (i:Nat):Rho->Option Out:=fun ρ=>(aA i ρ).bind fun t=>match t with | .lst ts=>if bU ts then some (.rt (.lst ts)) else none | _=>none
def yE (i:Nat) (f:Rho->Option T):Rho->Option Out:=fun ρ=>(aA i ρ).bind fun t=>(f ρ).bind fun x=>match t with | .lst ts=>if ts.length<cap then some (.nx (ρ.set i (some (.lst (ts++[x]))))) else none | _=>none
def rD (i:Nat) (fi f:Rho->Option T):Rho->Option Out:=fun ρ=>(f ρ).bind fun x=>(aA i ρ).bind fun t=>(fi ρ).bind fun k=>match t,k with | .lst ts,.int j=>(ixN ts.length j).map fun j'=>.nx (ρ.set i (some (.lst (ts.set j' x)))) | _,_=>none
def bO (j:Nat) (body:Rho->Option Out):List T->Rho->Option Out
 | [],ρ=>some (.nx ρ)
 | t::ts,ρ=>(body (ρ.set j (some t))).bind fun o=>match o with | .nx ρ'=>bO j body ts ρ' | .ct ρ'=>bO j body ts ρ' | .bk ρ'=>some (.nx ρ') | .rt t=>some (.rt t)
def dG (j:Nat) (fi:Rho->Option (List T)) (body:Rho->Option Out):Rho->Option Out:=fun ρ=>(fi ρ).bind fun ts=>bO j body ts ρ
section
variable {K:PySem.W.Frag}{B H H':Hp}{fl:List Nat}{Ex:List (T × V)}{σ:St}{ρ:Rho}{M:List Addr}{n:Bool}{l:Nat}{t:T}{v:V}{i:Nat}
theorem dI {ρ:Rho}{i j:Nat}{t u:T}(h:(ρ.set i (some t))[j]?=some (some u)):(j=i/\u=t/\i<ρ.length)\/(j≠i/\ρ[j]?=some (some u)):=by
 by_cases hj:j=i
 ·subst hj
  left
  by_cases hl:j<ρ.length
  ·rw[aKc hl] at h
   cases (aIz h);exact⟨rfl,rfl,hl⟩
  ·rw[List.getElem?_eq_none_iff.mpr (by rw[aKk];omega)] at h
   cases h
 ·right
  rw[aJ9 (Ne.symm hj)] at h;exact⟨hj,h⟩
theorem Sl.set (S:Sl K B fl Ex σ ρ M H) (hi:i<fl.length) (h1:1<=fl.getD i 1\/im t=true) (r:Rep K H (Ad B H M (min (fl.getD i 1) 2)) t v):Sl K B fl Ex (σ.set i (some v)) (ρ.set i (some t)) M H where
 same:=S.same
 slot:=fun j u e k=>by
  rcases dI e with ⟨rfl,rfl,_⟩ | ⟨hj,e⟩
  ·exact⟨v,by rw[aKc (aJ7 hi S.len)],r⟩
  ·obtain⟨w,e1,r1⟩:=S.slot j u e k
   exact⟨w,by rw[aJ9 (Ne.symm hj)];exact e1,r1⟩
 mu:=by
  obtain⟨g,hg,ap⟩:=S.mu;refine⟨g,fun j u e k hm=>?_,fun j j' c d u u' us ws hne e e' k k' hm hm'=>?_⟩
  ·rcases dI e with ⟨rfl,rfl,_⟩ | ⟨hj,e⟩
   ·rcases h1 with h1 | h1
    ·omega
    ·rw[hm] at h1;cases h1
   ·obtain⟨w,e2,e3⟩:=hg j u e k hm
    exact⟨w,by rw[aJ9 (Ne.symm hj)];exact e2,e3⟩
  ·rcases dI e with ⟨rfl,rfl,_⟩ | ⟨hj,e⟩
   ·rcases h1 with h1 | h1
    ·omega
    ·rw[sO hm] at h1;cases h1
   ·rcases dI e' with ⟨rfl,rfl,_⟩ | ⟨hj',e'⟩
    ·rcases h1 with h1 | h1
     ·omega
     ·rw[sO hm'] at h1;cases h1
    ·exact ap j j' c d u u' us ws hne e e' k k' hm hm'
 ex:=S.ex
 mB:=S.mB
 len:=by rw[aKk];exact S.len
theorem Sl.setC {ga:Nat->Addr}(Ds:List Addr) (S:Sl K B fl Ex σ ρ M H) (hi:i<fl.length) (h0:fl.getD i 1=0) (s:aO H H') (hD:∀ D∈Ds,H D=none/\H' D≠none) (hm0:im t=false) (sh:fD K H' t v ga)
  (r:∀ c us,dJ t c us->∃ xs,dL H' t (ga c) xs/\RepL K H' (fun b=>Ad B H M (lc fl) b/\b ∉ Ds) us xs/\ga c∈Ds) (dj:∀ c d us ws,c≠d->jX t=false->dJ t c us->dJ t d ws->ga c≠ga d):
  Sl K B fl Ex (σ.set i (some v)) (ρ.set i (some t)) (Ds++M) H':=by
 have lcl:=jB fl;have lcp:=fK fl;have S':=Sl.mores Ds S hD s;obtain⟨g,hg,ap⟩:=S.mu;have hold:∀ j c u us,ρ[j]?=some (some u)->fl.getD j 1=0->dJ u c us->g j c ∉ Ds:=fun j c u us e k h z=>by
  obtain⟨_,_,_,e3⟩:=hg j u e k (sO h);obtain⟨xs,q,_⟩:=e3 c us h;exact q.some (hD _ z).1
 have gmo:∀ j u,ρ[j]?=some (some u)->fl.getD j 1=0->im u=false->∃ v,σ[j]?=some (some v)/\FG K B (lc fl) (Ds++M) H' u v (g j):=fun j u e k hm=>by
  obtain⟨v,e1,e2,e3⟩:=hg j u e k hm;refine⟨v,e1,e2.grow s,fun c us h=>?_⟩;obtain⟨xs,q1,r,q3⟩:=e3 c us h;refine⟨xs,q1.keep (s _),RepL.keep (fun b _ e=>fO (fun o q=>s b o q) e) (fun b o _ e=>s b o e) (fun b x y=>⟨fun z w=>?_,x.2.1,fun z=>by omega⟩) us r,aKt _ q3⟩;rcases aKr.mp w with w | w
  ·exact y (hD b w).1
  ·exact x.1 z w
 refine⟨S'.same,fun j u e k=>?_,⟨fun j=>if j=i then ga else g j,fun j u e k hm=>?_,fun j j' c d u u' us ws hne e e' k k' hm hm'=>?_⟩,S'.ex,S'.mB,by rw[aKk];exact S.len⟩
 ·rcases dI e with ⟨rfl,rfl,_⟩ | ⟨hj,e⟩
  ·rcases k with k | k
   ·omega
   ·rw[hm0] at k;cases k
  ·obtain⟨w,e1,r1⟩:=S'.slot j u e k
   exact⟨w,by rw[aJ9 (Ne.symm hj)];exact e1,r1⟩
 ·rcases dI e with ⟨rfl,rfl,_⟩ | ⟨hj,e⟩
  ·simp only[if_pos]
   refine⟨v,by rw[aKc (aJ7 hi S.len)],sh,fun c us h=>?_⟩;obtain⟨xs,q1,q2,q3⟩:=r c us h;refine⟨xs,q1,q2.weak fun b x=>⟨fun z w=>?_,fun z=>x.1.2.1 z,fun z=>by omega⟩,List.mem_append_left _ q3⟩;rcases aKr.mp w with w | w
   ·exact x.2 w
   ·exact x.1.1 z w
  ·simp only[if_neg hj]
   obtain⟨v1,e2,e3⟩:=gmo j u e k hm;exact⟨v1,by rw[aJ9 (Ne.symm hj)];exact e2,e3⟩
 ·rcases dI e with ⟨z1,z2,_⟩ | ⟨hj,f⟩
  ·rcases dI e' with ⟨z1',z2',_⟩ | ⟨hj',f'⟩
   ·have hcd:c≠d/\jX t=false:=by
     rcases hne with h | h
     ·exact absurd (z1.trans z1'.symm) h
     ·exact z2 ▸ h
    subst z2 z2';simp only[if_pos z1,if_pos z1'];exact dj c d us ws hcd.1 hcd.2 hm hm'
   ·simp only[if_pos z1,if_neg hj']
    subst z2;obtain⟨_,_,_,q3⟩:=r c us hm;exact fun z=>hold j' d u' ws f' k' hm' (by rw[<- z];exact q3)
  ·rcases dI e' with ⟨z1',z2',_⟩ | ⟨hj',f'⟩
   ·simp only[if_pos z1',if_neg hj]
    subst z2';obtain⟨_,_,_,q3⟩:=r d ws hm';exact fun z=>hold j c u us f k hm (by rw[z];exact q3)
   ·simp only[if_neg hj,if_neg hj']
    exact ap j j' c d u u' us ws hne f f' k k' hm hm'
theorem Sl.setM {ts:List T}{xs:List V}{a:Addr}(S:Sl K B fl Ex σ ρ M H) (hi:i<fl.length) (h0:fl.getD i 1=0) (s:aO H H') (hn:H a=none) (ha:H' a=some (.lst xs)) (r:RepL K H' (fun b=>Ad B H M (lc fl) b/\b≠a) ts xs):
  Sl K B fl Ex (σ.set i (some (.ref a))) (ρ.set i (some (.lst ts))) (a::M) H':=
 Sl.setC (ga:=fun _=>a) [a] S hi h0 s (fun D h=>by cases aKz.mp h;exact⟨hn,by rw[ha];simp⟩) rfl rfl (fun c us h=>by
  obtain⟨_,rfl⟩:=h;exact⟨xs,ha,r.weak fun b x=>⟨x.1,fun z=>x.2 (aKz.mp z)⟩,aKz.mpr rfl⟩) (fun c d us ws hne _ h h'=>by
  obtain⟨rfl,_⟩:=h;obtain⟨rfl,_⟩:=h';exact absurd rfl hne)
theorem Sl.writeC {t':T}{us:List T}{xs ys:List V}{a:Addr}{c:Nat}(no:jX t=false) (no':jX t'=false) (ot:∀ H a zs,dL H t a zs=(H a=some (.lst zs))) (ot':∀ H a zs,dL H t' a zs=(H a=some (.lst zs))) (S:Sl K B fl Ex σ ρ M H) (h0:fl.getD i 1=0) (e0:ρ[i]?=some (some t)) (hc:dJ t c us) (hm1:im t'=false) (hm:a∈M) (ha:H a=some (.lst xs))
  (sh:∀ v ga,fD K H t v ga->σ[i]?=some (some v)->ga c=a/\fD K H t' v ga) {us':List T} (h1:∀ d ws,dJ t' d ws->(d=c/\ws=us')\/(d≠c/\dJ t d ws)) (r:RepL K H (Ad B H M (lc fl)) us' ys):
  Sl K B fl Ex σ (ρ.set i (some t')) M (upd H a (.lst ys)):=by
 have lcl:=jB fl;have lcp:=fK fl;have kp:∀ {l:Nat} (b:Addr) (o:HO),1<=l->Ad B H M l b->H b=some o->upd H a (.lst ys) b=some o:=fun b o hl hb e=>by
  rw[aV (fun z=>hb.1 hl (by rw[z];exact hm))];exact e
 obtain⟨g,hg,ap⟩:=S.mu;have gi:g i c=a:=by
  obtain⟨v1,s1,q1,_⟩:=hg i t e0 h0 (sO hc);exact (sh v1 _ q1 s1).1
 have has:∀ d ws,dJ t' d ws->∃ ws',dJ t d ws':=fun d ws h=>by
  rcases h1 d ws h with ⟨rfl,_⟩ | ⟨_,h⟩
  ·exact⟨us,hc⟩
  ·exact⟨ws,h⟩
 refine⟨fun b o e=>?_,fun j u e k=>?_,⟨g,fun j u e k hM=>?_,fun j j' d d' u u' ws ws' hne e e' k k' hM hM'=>?_⟩,fun p hp=>?_,fun b hb=>⟨(S.mB b hb).1,?_⟩,S.len⟩
 ·rw[aV (fun z=>by rw[z,(S.mB a hm).1] at e;cases e)]
  exact S.same b o e
 ·rcases dI e with ⟨rfl,rfl,_⟩ | ⟨hj,e⟩
  ·rcases k with k | k
   ·omega
   ·rw[hm1] at k;cases k
  ·obtain⟨w,e1,r1⟩:=S.slot j u e k
   rcases k with k | k
   ·exact⟨w,e1,Rep.keep (fun _ _ e=>gR ha e) (fun b o x e=>kp b o (by omega) x e) (fun b x _=>x.any (by omega)) u r1⟩
   ·exact⟨w,e1,yJ (fun _ _ e=>gR ha e) u k r1⟩
 ·rcases dI e with ⟨rfl,rfl,_⟩ | ⟨hj,e⟩
  ·obtain⟨v1,s1,q1,q2⟩:=hg j t e0 h0 (sO hc)
   refine⟨v1,s1,(sh v1 _ q1 s1).2.keep (fun _ _ e=>gR ha e) (fun z=>by rw[no'] at z;cases z),fun d ws h=>?_⟩;rcases h1 d ws h with ⟨rfl,rfl⟩ | ⟨hd,h'⟩
   ·rw[gi]
    exact⟨ys,by rw[ot' _ _ _];exact dA,RepL.keep (fun _ _ e=>gR ha e) (fun b o x e=>kp b o (by omega) x e) (fun b x _=>x.any (by omega)) _ r,hm⟩
   ·obtain⟨zs,f1,f2,f3⟩:=q2 d ws h'
    have hne:g j d≠a:=fun z=>ap j j d c t t ws us (.inr ⟨hd,no⟩) e0 e0 h0 h0 h' hc (z.trans gi.symm);exact⟨zs,by rw[ot' _ _ _,aV hne,<- ot _ _ _];exact f1,RepL.keep (fun _ _ e=>gR ha e) (fun b o x e=>kp b o (by omega) x e) (fun b x _=>x.any (by omega)) ws f2,f3⟩
  ·obtain⟨v1,e1,e2,e3⟩:=hg j u e k hM
   refine⟨v1,e1,e2.keep (fun _ _ e=>gR ha e) (fun zo d o hdo eo=>?_),fun d ws h=>?_⟩
   ·have hne:g j d≠a:=fun z=>ap j i d c u t [] us (.inl hj) e e0 k h0 hdo hc (z.trans gi.symm)
    rw[aV hne];exact eo
   obtain⟨zs,f1,f2,f3⟩:=e3 d ws h;have hne:g j d≠a:=fun z=>ap j i d c u t ws us (.inl hj) e e0 k h0 h hc (z.trans gi.symm);exact⟨zs,f1.keep (fun o eo=>by rw[aV hne];exact eo),RepL.keep (fun _ _ e=>gR ha e) (fun b o x e=>kp b o (by omega) x e) (fun b x _=>x.any (by omega)) ws f2,f3⟩
 ·have lk:∀ j u d ws,(ρ.set i (some t'))[j]?=some (some u)->dJ u d ws->∃ u' ws',ρ[j]?=some (some u')/\dJ u' d ws'/\jX u'=jX u:=fun j u d ws e h=>by
   rcases dI e with ⟨z1,z2,_⟩ | ⟨_,f⟩
   ·subst z2
    obtain⟨ws',h'⟩:=has d ws h;exact⟨t,ws',by rw[z1];exact e0,h',by rw[no,no']⟩
   ·exact⟨u,ws,f,h,rfl⟩
  obtain⟨w,x,ew,hw,ow⟩:=lk j u d ws e hM;obtain⟨w',x',ew',hw',_⟩:=lk j' u' d' ws' e' hM';exact ap j j' d d' w w' x x' (by rw[ow];exact hne) ew ew' k k' hw hw'
 ·exact Rep.keep (fun _ _ e=>gR ha e) (fun b o x e=>kp b o (by omega) x e) (fun b x _=>x.any (by omega)) p.1 (S.ex p hp)
 ·by_cases hb':b=a
  ·rw[hb',dA];simp
  ·rw[aV hb'];exact (S.mB b hb).2
theorem Sl.write {ts us:List T}{xs ys:List V}{a:Addr}(S:Sl K B fl Ex σ ρ M H) (h0:fl.getD i 1=0) (e0:ρ[i]?=some (some (.lst ts))) (ea:σ[i]?=some (some (.ref a))) (hm:a∈M) (ha:H a=some (.lst xs)) (r:RepL K H (Ad B H M (lc fl)) us ys):
  Sl K B fl Ex σ (ρ.set i (some (.lst us))) M (upd H a (.lst ys)):=
 Sl.writeC rfl rfl (fun _ _ _=>rfl) (fun _ _ _=>rfl) (c:=0) (us':=us) S h0 e0 ⟨rfl,rfl⟩ rfl hm ha (fun v ga q e=>by
  rw[ea] at e;have h1:V.ref a=v:=aIz (aIz e);have h2:v=V.ref (ga 0):=q;exact⟨(V.ref.inj (h1.trans h2)).symm,h2⟩) (fun d ws h=>.inl h) r
theorem Sl.fewer {ps:List (T × V)}(S:Sl K B fl (ps++Ex) σ ρ M H):Sl K B fl Ex σ ρ M H:=⟨S.same,S.slot,S.mu,fun q hq=>S.ex q (aKt _ hq),S.mB,S.len⟩
theorem Sl.plus {ps:List (T × V)}(S:Sl K B fl Ex σ ρ M H) (r:∀ p∈ps,Rep K H (Ad B H M 1) p.1 p.2):Sl K B fl (ps++Ex) σ ρ M H:=⟨S.same,S.slot,S.mu,fun q hq=>by
 rcases aKr.mp hq with hq | hq
 ·exact r q hq
 ·exact S.ex q hq,S.mB,S.len⟩
end
section
variable {X:Cx}{B:Hp}{fl:List Nat}{n n':Bool}{l l':Nat}{st:Stmt}{rest body els:List Stmt}{r r1 r2:Rho->Option Out}{e c:Expr}{f g:Rho->Option T}{p:Rho->Option Bool}{pos pos':Pos}{i:Nat}{x:Str}
theorem cJ:GSs X B fl n l [] bW:=LY aDg fun D σ H ⟨Ex,ρ,M,o,S,hr,q⟩=>by
 cases (aIz hr);exact q σ M H S
theorem aJ (h1:GS X B fl n l st r1) (h2:GSs X B fl n l rest r2):GSs X B fl n l (st::rest) (aH r1 r2):=by
 refine LY (aDf h1 h2) ?_;rintro D σ H ⟨Ex,ρ,M,o,S,hr,q⟩;obtain⟨o1,h1,hr⟩:=bind_some hr;refine⟨Ex,ρ,M,o1,S,h1,?_⟩;cases o1 with
 | nx ρ'=>exact fun σ' M' H' S'=>⟨Ex,ρ',M',o,S',hr,q⟩
 | rt t=>cases (aIz hr);exact q
 | bk ρ'=>cases (aIz hr);exact q
 | ct ρ'=>cases (aIz hr);exact q
theorem aK (h1:GS X B fl n l st r1):GSs X B fl n l [st] r1:=aDh h1
theorem aX (i:Nat) (he:GE X B fl e f n' l') (hN:X.N.Nodup) (hi:X.N[i]?=some x) (hx:Loc X.env.scope x) (hfl:(decide (i<fl.length)&&decide (1<=fl.getD i 1)&&decide (fl.getD i 1<=l'))=true)
  (hs:swapsWith e (some (.Name x pos')) pos.line X.env=pure false:=by rfl) (hf:X.fn x=true\/X.env.scope.names.lookup x=some .local:=by first | exact .inl rfl | exact .inr rfl | assumption):
  GS X B fl n l (.Assign [.Name x pos'] e pos) (aQ i f):=by
 refine dP (DB hN hi hx he hs hf) ?_;rintro D σ H ⟨Ex,ρ,M,o,S,hr,q⟩;simp only[aJc,decide_eq_true_eq] at hfl;unfold aQ at hr;cases e1:f ρ with
 | none=>rw[e1] at hr;cases hr
 | some t=>
  rw[e1] at hr;cases (aIz hr);refine⟨Ex,ρ,M,t,S,e1,fun v H1 s1 rx=>q _ M H1 ((S.grow s1).set hfl.1.1 (.inl hfl.1.2) ?_)⟩;exact (rx.rep S).weak fun b x=>⟨fun z=>x.1 (by omega),fun z=>x.2.1 (by omega),fun z=>by omega⟩
theorem EA {ρ:Rho}{σ:St}{H H1:Hp}{M:List Addr}{Ex:List (T × V)}{t:T}{v:V}{o:Out}{D:Ends}(S:Sl X.K B fl Ex σ ρ M H) (hfl:i<fl.length/\fl.getD i 1=0/\lc fl<=l')
  (hr:(if okM t then some (Out.nx (ρ.set i (some t))) else none)=some o) (q:EM X.K B fl n l Ex D o) (s1:aO H H1) (rx:aN X.K B H M H1 true l' t v):D.nx (σ.set i (some v)) H1:=by
 split at hr
 rotate_left
 ·cases hr
 rename_i hok;cases (aIz hr)
 by_cases hl:∃ ts,t=.lst ts
 ·obtain⟨ts,rfl⟩:=hl
  obtain⟨a,xs,rfl,h1,h2,h3⟩:=rx;exact q _ _ H1 (S.setM hfl.1 hfl.2.1 s1 h1 h2 (h3.weak fun b x=>⟨x.1.le hfl.2.2,x.2⟩))
 ·have him:im t=true:=by
   cases t with
   | lst ts=>exact absurd ⟨ts,rfl⟩ hl
   | non=>exact hok
   | bl _=>exact hok
   | int _=>exact hok
   | str _=>exact hok
   | tup _=>exact hok
   | exc _=>exact hok
   | dct _=>exact hok
   | own _=>exact hok
  exact q _ _ H1 ((S.grow s1).set hfl.1 (.inr him) (rE t him (rx.rep S)))
theorem hZ (i:Nat) (he:GE X B fl e f true l') (hN:X.N.Nodup) (hi:X.N[i]?=some x) (hx:Loc X.env.scope x) (hfl:(decide (i<fl.length)&&decide (fl.getD i 1=0)&&decide (lc fl<=l'))=true)
  (hs:swapsWith e (some (.Name x pos')) pos.line X.env=pure false:=by rfl) (hf:X.fn x=true\/X.env.scope.names.lookup x=some .local:=by first | exact .inl rfl | exact .inr rfl | assumption):
  GS X B fl n l (.Assign [.Name x pos'] e pos) (dH i f):=by
 refine dP (DB hN hi hx he hs hf) ?_;rintro D σ H ⟨Ex,ρ,M,o,S,hr,q⟩;simp only[aJc,decide_eq_true_eq,and_assoc] at hfl;obtain⟨t,e1,hr⟩:=bind_some hr;exact⟨Ex,ρ,M,t,S,e1,fun v H1 s1 rx=>EA S hfl hr q s1 rx⟩
section
variable {elt iter:Expr}{x0:Str}{p0 cpos:Pos}{ifs:List Expr}{scope:Scope}{N':List Str}{src:List (Option Nat)}{fl':List Nat}{fi:Rho->Option (List T)}{li:Nat}{sc:Bool}{spos:Pos}
theorem IP (i:Nat) (S:BlkOk X scope N' src) (F:FlOk X N' src fl fl' li sc) (hc:X.calm=true) (hi:GI X B fl (.Name x0 p0) iter fi li sc) (hN0:N'[0]?=some x0) (hx0:tL (scope.names.lookup x0)=true)
  (hb:∀ cl C s H ex,GIf (cxB X scope N' cl C s H ex) B fl' ifs p/\GE (cxB X scope N' cl C s H ex) B fl' elt f n' l') (hN:X.N.Nodup) (hiN:X.N[i]?=some x) (hx:Loc X.env.scope x) (hfl:(decide (i<fl.length)&&decide (1<=fl.getD i 1)&&decide (fl.getD i 1<=l')&&decide (1<=l'))=true)
  (hsw:swapsWith (.ListComp elt [⟨.Name x0 p0,iter,ifs,0⟩] scope cpos) (some (.Name x pos')) spos.line X.env=pure true:=by rfl)
  (hs:∀ x,foldedSetIterable iter X.env x=pure x:=by intro _;rfl) (hf:X.fn x=true\/X.env.scope.names.lookup x=some .local:=by first | exact .inl rfl | exact .inr rfl | assumption):
  GS X B fl n l (.Assign [.Name x pos'] (.ListComp elt [⟨.Name x0 p0,iter,ifs,0⟩] scope cpos) spos) (aQ i (cA fi src p f)):=by
 refine dP (IQ S hc hi F.nd hN0 hx0 hb hN hiN hx hsw hs hf) ?_;rintro D σ H ⟨Ex,ρ,M,o,S,hr,q⟩;simp only[aJc,decide_eq_true_eq] at hfl;unfold aQ at hr;cases e1:cA fi src p f ρ with
 | none=>rw[e1] at hr;cases hr
 | some t=>
  rw[e1] at hr;cases (aIz hr);refine AK F hfl.2 ⟨Ex,ρ,M,t,S,e1,fun v H1 s1 rx=>q _ M H1 ((S.grow s1).set hfl.1.1.1 (.inl hfl.1.1.2) ?_)⟩;exact (rx.rep S).weak fun b x=>⟨fun z=>x.1 (by omega),fun z=>x.2.1 (by omega),fun z=>by omega⟩
theorem BR (i:Nat) (S:BlkOk X scope N' src) (F:FlOk X N' src fl fl' li sc) (hc:X.calm=true) (hi:GI X B fl (.Name x0 p0) iter fi li sc) (hN0:N'[0]?=some x0) (hx0:tL (scope.names.lookup x0)=true)
  (hb:∀ cl C s H ex,GIf (cxB X scope N' cl C s H ex) B fl' ifs p/\GE (cxB X scope N' cl C s H ex) B fl' elt f n' l') (hN:X.N.Nodup) (hiN:X.N[i]?=some x) (hx:Loc X.env.scope x) (hfl:(decide (i<fl.length)&&decide (fl.getD i 1=0)&&decide (lc fl<=l'))=true)
  (hsw:swapsWith (.ListComp elt [⟨.Name x0 p0,iter,ifs,0⟩] scope cpos) (some (.Name x pos')) spos.line X.env=pure true:=by rfl)
  (hs:∀ x,foldedSetIterable iter X.env x=pure x:=by intro _;rfl) (hf:X.fn x=true\/X.env.scope.names.lookup x=some .local:=by first | exact .inl rfl | exact .inr rfl | assumption):
  GS X B fl n l (.Assign [.Name x pos'] (.ListComp elt [⟨.Name x0 p0,iter,ifs,0⟩] scope cpos) spos) (dH i (cA fi src p f)):=by
 refine dP (IQ S hc hi F.nd hN0 hx0 hb hN hiN hx hsw hs hf) ?_;rintro D σ H ⟨Ex,ρ,M,o,S,hr,q⟩;simp only[aJc,decide_eq_true_eq,and_assoc] at hfl;obtain⟨t,e1,hr⟩:=bind_some hr;exact AK F (by have:=hfl.2.2;have:=fK fl;omega) ⟨Ex,ρ,M,t,S,e1,fun v H1 s1 rx=>EA S hfl hr q s1 rx⟩
end
theorem cI (hc:GT X B fl c p) (ha:GSs X B fl n l body r1) (hb:GSs X B fl n l els r2):GS X B fl n l (.If c body els pos) (rIf p r1 r2):=by
 refine dP (aDc hc ha hb) ?_;rintro D σ H ⟨Ex,ρ,M,o,S,hr,q⟩;obtain⟨b,hb,hr⟩:=bind_some hr;refine⟨Ex,ρ,M,b,S,hb,fun H1 s1=>?_⟩;cases b with
 | true=>exact jZ ⟨Ex,ρ,M,o,S.grow s1,hr,q⟩
 | false=>exact jY ⟨Ex,ρ,M,o,S.grow s1,hr,q⟩
theorem aEg {ρ:Rho}{σ:St}{H H1:Hp}{M:List Addr}{Ex:List (T × V)}{t:T}{v:V}(S:Sl X.K B fl Ex σ ρ M H) (h:(n=true->n'=true)/\(l=0\/2<=l')) (rx:aN X.K B H M H1 n' l' t v):aN X.K B B [] H1 n l t v:=by
 have ad:∀ b,Ad B H M l' b->Ad B B [] l b:=fun b x=>⟨fun _ z=>by simp at z,fun z=>x.2.1 (by omega),fun z=>x.2.1 (by omega)⟩;cases n with
 | false=>cases t<;>exact (rx.rep S).weak ad
 | true=>
  have e:=h.1 rfl;subst e;cases t with
  | lst ts=>
   obtain⟨a,xs,e,h1,h2,h3⟩:=rx;exact⟨a,xs,e,S.same.free h1,h2,h3.weak fun b x=>⟨ad b x.1,x.2⟩⟩
  | non=>exact rx
  | bl _=>exact rx
  | int _=>exact rx
  | str _=>exact rx
  | tup _=>exact Rep.weak ad rx
  | exc _=>exact rx
  | dct _=>exact Rep.weak ad rx
  | own _=>exact Rep.weak ad rx
theorem IO (i:Nat) {apos p2:Pos}(he:GE X B fl e f n' l') (h1:(decide (fl.getD i 1=0)&&decide (lc fl<=l'))=true) (hN:X.N[i]?=some x:=by rfl) (hv:Vis X.env.scope x:=by first | exact Or.inl rfl | exact Or.inr (Or.inl rfl) | exact Or.inr (Or.inr rfl))
  (hd:(x == ("__debug__" : Str))=false:=by decide) (hcd:(x == ("__classdict__" : Str))=false:=by decide)
  (hbase:attributeBase (.Name x p2) "append" X.env (eval (.Name x p2) X.env)=eval (.Name x p2) X.env:=by rfl)
  (hfew:((backTo pos' (starEach [e] X.env)).all (fun x=>!x.1)&&(backToKw pos' (keywordEach [] X.env)).all (fun x=>x.1.isSome)
   && decide (([e]:List Expr).length+([]:List Keyword).length+(if ([]:List Keyword).isEmpty then 0 else 1)<30))=true:=by rfl)
  (hline:(apos.endLine == pos'.line)=true:=by rfl) (hs:starEach [e] X.env=[(false,eval e X.env)]:=by rfl) (hsw:swapsWith (.Call (.Attribute (.Name x p2) "append" apos) [e] [] pos') none pos.line X.env=pure false:=by rfl):
  GS X B fl n l (.Expr (.Call (.Attribute (.Name x p2) "append" apos) [e] [] pos') pos) (yE i f):=by
 simp only[aJc,decide_eq_true_eq] at h1;have lcl:=jB fl;have lcp:=fK fl;refine dP (yD (yA PySem.F.plainAttrs_list PySem.F.slot_list_append PySem.F.type_list_append KS (pv (X:=X) i hN hv hd hcd) (jF he nD hs) hbase hfew hline hs rfl) hsw) ?_;rintro D σ H ⟨Ex,ρ,M,o,S,hr,q⟩;obtain⟨t,e1,hr⟩:=bind_some hr;obtain⟨y,e2,hr⟩:=bind_some hr;cases t<;>first | (cases hr;done) | skip
 dsimp only at hr;split at hr
 ·rename_i hl
  cases (aIz hr);have e1':=jS e1;obtain⟨a,ts,xs,e3,e4,e5,e6,e7⟩:=S.muL i _ e1' h1.1;cases e3;refine⟨_,e4,.inl ⟨rfl,xs,SqL.of e5⟩,?_⟩;refine⟨Ex,ρ,M,y,S,e2,fun v H1 s1 rx=>?_⟩;refine⟨a,xs,v,rfl,rfl,s1 _ _ e5,by rw[<- e6.length];exact gJ (aL7 hl),?_⟩;refine q σ M _ ((S.grow s1).write h1.1 e1' e4 e7 (s1 _ _ e5) (RepL.app ((e6.grow s1).weak fun b x=>x.any (by omega)) (RepL.one ((rx.rep S).weak fun b x=>?_))));exact⟨fun z=>x.1 (by omega),fun z=>x.2.1 (by omega),fun z=>by omega⟩
 ·cases hr
theorem xA (i:Nat) {k:Expr}{fk:Rho->Option T}{nk:Bool}{lk:Nat}{p2 p3:Pos}(he:GE X B fl e f n' l') (hk:GE X B fl k fk nk lk) (h1:(decide (fl.getD i 1=0)&&decide (lc fl<=l'))=true) (hN:X.N[i]?=some x:=by rfl)
  (hv:Vis X.env.scope x:=by first | exact Or.inl rfl | exact Or.inr (Or.inl rfl) | exact Or.inr (Or.inr rfl))
  (hd:(x == ("__debug__" : Str))=false:=by decide) (hcd:(x == ("__classdict__" : Str))=false:=by decide)
  (ha:∀ v,assign (.Subscript (.Name x p2) k p3) X.env v=(do
   let ov <- holding [v] (eval (.Name x p2) X.env)
   let iv <- holding [v,ov] (eval k X.env)
   standAt p3
   holding [v,ov,iv] (setItem ov iv v)
   release [v,ov,iv] []):=by intro _;rfl)
  (hs:swapsWithSole [.Subscript (.Name x p2) k p3] e pos.line X.env=pure false:=by rfl) (hw:swappedStores [.Subscript (.Name x p2) k p3] e X.env=pure none:=by rfl)
  (h2:(assignEach [.Subscript (.Name x p2) k p3] X.env).map (·.2)=[assign (.Subscript (.Name x p2) k p3) X.env]:=by rfl):
  GS X B fl n l (.Assign [.Subscript (.Name x p2) k p3] e pos) (rD i fk f):=by
 simp only[aJc,decide_eq_true_eq] at h1;have lcl:=jB fl;have lcp:=fK fl;refine dP (aDb he (aCy (pv (X:=X) i hN hv hd hcd) hk aF6 ha) hs hw h2) ?_;rintro D σ H ⟨Ex,ρ,M,o,S,hr,q⟩;obtain⟨y,e2,hr⟩:=bind_some hr;obtain⟨t,e1,hr⟩:=bind_some hr;obtain⟨kk,ek,hr⟩:=bind_some hr;have ht2:∃ ts j,t=.lst ts/\kk=.int j:=by
  cases t<;>first | (cases hr;done) | skip
  cases kk<;>first | (cases hr;done) | exact⟨_,_,rfl,rfl⟩
 obtain⟨ts,j,rfl,rfl⟩:=ht2;dsimp only at hr;cases ej:ixN ts.length j with
 | none=>rw[ej] at hr;cases hr
 | some j'=>
  rw[ej] at hr;cases (aIz hr);have e1':=jS e1;refine⟨Ex,ρ,M,y,S,e2,fun v H1 s1 rx=>?_⟩;obtain⟨a,ts',xs,e3,e4,e5,e6,e7⟩:=S.muL i _ e1' h1.1;cases e3;refine⟨_,e4,?_⟩;refine⟨Ex,ρ,M,_,S.grow s1,ek,fun vk H2 s2 rk=>?_⟩;have S2:=S.grow (s1.trans s2);refine⟨a,xs,j,j',rfl,(aN.scal rfl).mp rk,(s1.trans s2) _ _ e5,by rw[<- e6.length];exact ej,?_⟩;refine q σ M _ (S2.write h1.1 e1' e4 e7 ((s1.trans s2) _ _ e5) (RepL.set j' ((rx.rep S).grow s2 |>.weak fun b x=>?_) ((e6.grow (s1.trans s2)).weak fun b x=>x.any (by omega))));exact⟨fun z=>x.1 (by omega),fun z=>x.2.1 (by omega),fun z=>by omega⟩
theorem dS (j:Nat) {iter:Expr}{fi:Rho->Option (List T)}{li:Nat}{sc:Bool}{tpos:Pos}(hp:PassesOwn (model X.prog X.w) X.A X.env X.xe) (hc:X.calm=true) (hi:GI X B fl (.Name x tpos) iter fi li sc) (hN:X.N.Nodup) (hj:X.N[j]?=some x) (hx:Loc X.env.scope x)
  (hb:GSs X B fl n l body r) (hfl:(decide (j<fl.length)&&decide (fl.getD j 1=1)&&decide (1<=li))=true)
  (hs:∀ x,foldedSetIterable iter X.env x=pure x:=by intro _;rfl) (hf:X.fn x=true\/X.env.scope.names.lookup x=some .local:=by first | exact .inl rfl | exact .inr rfl | assumption):
  GS X B fl n l (.For (.Name x tpos) iter body [] pos) (dG j fi r):=by
 simp only[aJc,decide_eq_true_eq,and_assoc] at hfl;refine dP (LX hp hc hi (yC hN hj hx hf) hb hs) ?_;rintro D σ H ⟨Ex,ρ,M,o,S,hr,q⟩;obtain⟨ts,hts,hr⟩:=bind_some hr;refine⟨Ex,ρ,M,ts,S,hts,fun J H1 ps s1 rp wk=>?_⟩;refine⟨fun i m σ1 H2=>m=ts.length-i/\i<=ts.length/\∃ ρ1 M1,Sl X.K B fl (ps++Ex) σ1 ρ1 M1 H2/\bO j r (ts.drop i) ρ1=some o,⟨ts.length,by simp,aLq _,ρ,M,(S.grow s1).plus (fun p hp=>(rp p hp).weak fun b x=>⟨fun z=>x.1 (by omega),fun z=>by omega,fun z=>by omega⟩),hr⟩,?_⟩;rintro i m σ1 H2 ⟨rfl,hi,ρ1,M1,S1,e1⟩;have w:=wk H2 _ (fun p hp=>S1.ex p (List.mem_append_left _ hp)) i
 by_cases hlt:i<ts.length
 ·have et:ts[i]?=some ts[i]:=aJ1 hlt
  obtain⟨go,yl⟩:=w.1 _ et;rw[List.drop_eq_getElem_cons hlt] at e1;unfold bO at e1;obtain⟨o1,h1,e1⟩:=bind_some e1;refine .inr ⟨go,fun σ' H'=>∃ ρ1 M1,Sl X.K B fl (ps++Ex) σ' ρ1 M1 H'/\bO j r (ts.drop (i+1)) ρ1=some o,fun σ' H' ⟨ρ',M',S',e'⟩=>⟨ts.length-(i+1),by omega,rfl,hlt,ρ',M',S',e'⟩,fun y H3 hy=>?_⟩;obtain⟨s23,ry⟩:=yl y H3 hy;have ry':Rep X.K H3 (Ad B H3 M1 (min (fl.getD j 1) 2)) ts[i] y:=ry.weak fun c hc=>by
   obtain⟨_,hc⟩:=hc;rcases hc with hc | hc
   ·exact⟨fun z=>hc.1 (aL8 _),fun z=>by omega,fun z=>by omega⟩
   ·exact⟨fun _ z=>(S1.mB c z).2 hc,fun z=>by omega,fun z=>by omega⟩
  refine⟨ps++Ex,_,M1,o1,(S1.grow s23).set hfl.1 (.inl (by omega)) ry',h1,?_⟩;cases o1 with
  | nx ρ'=>exact fun σ' M' H' S'=>⟨ρ',M',S',e1⟩
  | ct ρ'=>exact fun σ' M' H' S'=>⟨ρ',M',S',e1⟩
  | bk ρ'=>cases (aIz e1);exact fun σ' M' H' S'=>q σ' M' H' S'.fewer
  | rt t=>cases (aIz e1);exact q
 ·have ei:i=ts.length:=by omega
  subst ei;rw[List.drop_eq_nil_of_le (aL8 _)] at e1;cases (aIz (show some (Out.nx ρ1)=some o from e1));exact .inl ⟨w.2 (aL8 _),q σ1 M1 H2 S1.fewer⟩
end
def spT (K:PySem.W.Frag) (F:List T->Option T) (n:Bool) (l:Nat):Sp:=fun vs H Q _=>
 ∃ ts t,RepL K H (fun _=>True) ts vs/\F ts=some t/\∀ v H',aO H H'->aN K H H [] H' n l t v->Q v H'
structure Cal (P:Program) (w:World) (K:PySem.W.Frag) (mg:Str->Option Value) (base:Heap) (x:Str) (k:Nat) (ps:List Str) (F:List T->Option T) (n:Bool) (l:Nat):Prop where
 ex:∃ f fd,FnOk P w K mg base CX0 k f fd ps (spT K F n l)/\mg x=some (.ref f)/\PySem.W.keepIn K (.ref f)=true/\eX K fd ps []
section
variable {X:Cx}{B:Hp}{fl:List Nat}{e:Expr}{es:List Expr}{f:Rho->Option T}{fa:Rho->Option (List T)}{n n':Bool}{l l' k:Nat}{pos p':Pos}{x:Str}{ps:List Str}{F:List T->Option T}
theorem aN.called {K:PySem.W.Frag}{H H1 H2:Hp}{Ex:List (T × V)}{σ:St}{ρ:Rho}{M:List Addr}{t:T}{v:V}(S:Sl K B fl Ex σ ρ M H) (s1:aO H H1) (hl:l=0\/l=3) (r:aN K H1 H1 [] H2 n l t v):aN K B H M H2 n l t v:=by
 have S1:=S.grow s1;have ad:∀ b,Ad H1 H1 [] l b->Ad B H M l b:=fun b x=>by
  rcases hl with rfl | rfl
  ·exact Ad.zero
  ·have hn:=x.2.2 (by lia)
   exact⟨fun _ z=>(S1.mB b z).2 hn,fun _=>S1.same.free hn,fun _=>s1.free hn⟩
 cases n with
 | false=>cases t<;>exact Rep.weak ad r
 | true=>
  cases t with
  | lst ts=>
   obtain⟨a,xs,e,h1,h2,h3⟩:=r;exact⟨a,xs,e,s1.free h1,h2,h3.weak fun b x=>⟨ad b x.1,x.2⟩⟩
  | non=>exact r
  | bl _=>exact r
  | int _=>exact r
  | str _=>exact r
  | tup _=>exact Rep.weak ad r
  | exc _=>exact r
  | dct _=>exact Rep.weak ad r
  | own _=>exact Rep.weak ad r
theorem aP (C:Cal X.prog X.w X.K X.mg X.base x k ps F n l) (hr:Room k X.A) (hg:Gl X x) (ha:GA X B fl (e::es) fa l') (hl:(decide (l=0)||decide (l=3))=true:=by rfl) (hdb:(x == ("__debug__" : Str))=false:=by decide)
  (he:starEach (e::es) X.env=(false,eval e X.env)::starEach es X.env:=by rfl) (hpl:(backTo pos (starEach es X.env)).any (·.1)=false:=by rfl):GE X B fl (.Call (.Name x p') (e::es) [] pos) (aG fa F) n l:=by
 obtain⟨f,fd,FO,hm,hk,hb⟩:=C.ex;refine bI (LO FO hr hg hm hk hb .nil LN ha hdb he hpl) ?_;rintro σ H Q ⟨Ex,ρ,M,t,S,hf,q⟩;obtain⟨ts,hts,hf⟩:=bind_some hf;simp only[aJh,decide_eq_true_eq] at hl;refine⟨Ex,ρ,M,ts,S,hts,fun vs H1 s1 r1=>?_⟩;show spT X.K F n l (vs++[]) H1 Q E0;rw[List.append_nil];exact⟨ts,t,r1.weak fun _ _=>trivial,hf,fun v H2 s2 r2=>q v H2 (s1.trans s2) (r2.called S s1 hl)⟩
end
section
variable {P:Program}{w:World}{K:PySem.W.Frag}{mg:Str->Option Value}{base:Heap}
def rW:Out->T->Prop
 | .rt t,u=>t=u
 | .nx _,u=>u=.non
 | _,_=>False
theorem EB {H:Hp}{fl:List Nat}{N ps:List Str}{ts:List T}{vs:List V}(hfl:fl.length=N.length) (hp:∀ i,i<ps.length->fl.getD i 1=1) (hl:ts.length=ps.length) (r:RepL K H (fun _=>True) ts vs) (hN:ps.length<=N.length):
  Sl K H fl [] (L2.start N vs) (ts.map some++List.replicate (N.length-ps.length) none) [] H:=by
 have hlv:=r.length;have get:∀ i t,(ts.map some++List.replicate (N.length-ps.length) none)[i]?=some (some t)->ts[i]?=some t/\i<ps.length:=fun i t e=>by
  by_cases hi:i<ts.length
  ·rw[List.getElem?_append_left (by simpa using hi),aKa] at e
   rw[aJ1 hi] at e ⊢;exact⟨aIz e,by lia⟩
  ·rw[List.getElem?_append_right (by simpa using hi),List.getElem?_replicate] at e
   split at e<;>cases e
 refine⟨aO.refl H,fun i t e k=>?_,⟨fun _ _=>0,fun i t e k=>?_,fun i j c d t u us ws _ e _ k=>?_⟩,fun p hp=>by simp at hp,fun a ha=>by simp at ha,?_⟩
 ·obtain⟨e1,hi⟩:=get i t e
  obtain⟨v,e2,r2⟩:=r.get e1;refine⟨v,?_,r2.weak fun b _=>?_⟩
  ·unfold L2.start
   rw[List.getElem?_append_left (by rw[aKg];lia),aKa,e2]
   rfl
  ·rw[hp i hi]
   exact⟨fun _ z=>by simp at z,fun z=>by lia,fun z=>by lia⟩
 ·obtain⟨_,hi⟩:=get i t e
  rw[hp i hi] at k;cases k
 ·obtain⟨_,hi⟩:=get i t e
  rw[hp i hi] at k;cases k
 ·unfold L2.start
  rw[hfl,aKd,aKg,List.length_replicate];lia
theorem gfn {x qual:Str}{st:Stmt}{f:Addr}{fd:FuncData}{N ps:List Str}{k:Nat}{fl:List Nat}{n:Bool}{l:Nat}{F:List T->Option T}{run:Rho->Option Out}(Fu:Fun K x qual st f fd) (S:FnScope N ps (defScope st))
  (hfl:fl.length=N.length) (hp:∀ i,i<ps.length->fl.getD i 1=1) (hlen:∀ ts t,F ts=some t->ts.length=ps.length)
  (hb:∀ (cdv:Value) (A:Around) (outer:List Env) (s:Shared) (H:Hp) (E:XK),Room k (A.deeper (envOfC qual (defScope st) s.heap.objs.size f cdv)) ->
   GSs (aW CX0 P w K mg base N qual (defScope st) f cdv A outer s H E).nox H fl n l (defBody st) run)
  (hrun:∀ ts t,F ts=some t->∃ o,run (ts.map some++List.replicate (N.length-ps.length) none)=some o/\rW o t) (hl4:l≠4:=by decide):FnOk P w K mg base CX0 (k+1) f fd ps (spT K F n l):=by
 have hN:ps.length<=N.length:=by have:=congrArg List.length S.pre;rw[aKl] at this;lia
 refine Fu.ok S (fun vs H Q E h=>?_) (fun cdv A outer s H vs Q E hr h=>?_)
 ·obtain⟨ts,t,r,hf,_⟩:=h
  rw[<- r.length];exact hlen ts t hf
 ·obtain⟨ts,t,r,hf,q⟩:=h
  refine⟨_,hb cdv A outer s H E hr,?_⟩;obtain⟨o,ho,hi⟩:=hrun ts t hf;refine⟨[],_,[],o,EB hfl hp (hlen ts t hf) r hN,ho,?_⟩;cases o with
  | rt u=>
   cases (show u=t from hi);exact fun v H' s' r'=>q v H' s' ((RtX.of hl4).mp r')
  | nx ρ'=>
   cases (show t=.non from hi);exact fun σ' M' H' S'=>q _ H' S'.same ((aN.scal rfl).mpr rfl)
  | bk _=>exact False.elim hi
  | ct _=>exact False.elim hi
def spO (K:PySem.W.Frag) (F:List T->Option T):Sp:=fun vs H Q _=>
 ∃ ts t,RepL K H (fun _=>True) ts vs/\F ts=some t/\∀ v H',aO H H'->wL K H H [] H' t v->Q v H'
end
def OF:T->String
 | .non => "NoneType"
 | .bl _ => "bool"
 | .int _ => "int"
 | .str _ => "str"
 | .lst _ => "list"
 | .tup _ => "tuple"
 | .exc _ => "NoneType"
 | .dct _ => "dict"
 | .own _ => "list"
def xD (c:String):T->Bool
 | .non=>c == "NoneType"
 | .bl _=>c == "bool" || c == "int"
 | .int _=>c == "int"
 | .str _=>c == "str"
 | .lst _=>c == "list"
 | .tup _=>c == "tuple"
 | .exc _=>c == "NoneType"
 | .dct _=>c == "dict"
 | .own _=>c == "list"
def wK (c:String):Prop:=(∀ (K:PySem.W.Frag) (t:T),PySem.W.kitOne K (.type (OF t)) (.type c)=some (xD c t))/\c∈(["int","bool","list","tuple","str"]:List String)
theorem YK:wK "int" := ⟨by intro K t;cases t<;>rfl,by simp⟩
theorem YJ:wK "bool" := ⟨by intro K t;cases t<;>rfl,by simp⟩
theorem YL:wK "list" := ⟨by intro K t;cases t<;>rfl,by simp⟩
section
variable {X:Cx}{B:Hp}{fl:List Nat}{e:Expr}{es:List Expr}{f:Rho->Option T}{fa:Rho->Option (List T)}{n n':Bool}{l l' k:Nat}{pos p' p2:Pos}{x:Str}{ps:List Str}{F:List T->Option T}
theorem YI {pins:List (Addr × Obj)}{σ:St}{H:Hp}{s:Shared}{A:Around}{E:Value->Shared->Prop}{Q:Value->Shared->Prop}{c:Value}{b:Bool}{Ad:Addr->Prop}{t:T}{v:V}{u:Value}(I:Inv X pins σ H s) (r:Rep X.K H Ad t v) (rx:aT v u)
  (e:PySem.W.kitOne X.K (.type (OF t)) c=some b) (hx:∀ nm C,t=.exc nm->EN X.K nm C->PySem.W.kitOne X.K (.ref C) c=some b) (h:∀ tk,Q (.bool b) { s with toks:=tk }):wpAny (model X.prog X.w) A (call (.builtin "isinstance") [u,c]) Q E s:=by
 cases t with
 | non=>cases (show _=_ from r);cases rx;exact aLv PySem.W.kitx_none I.kIn True.intro e (fun z=>nomatch z) h
 | bl y=>cases (show _=_ from r);cases rx;exact aLv PySem.W.kitx_bool I.kIn True.intro e (fun z=>nomatch z) h
 | int y=>cases (show _=_ from r);obtain⟨k,rfl⟩:=rx;exact aLv PySem.W.kitx_int I.kIn True.intro e (fun z=>nomatch z) h
 | str y=>cases (show _=_ from r);obtain⟨k,rfl⟩:=rx;exact aLv PySem.W.kitx_str I.kIn True.intro e (fun z=>nomatch z) h
 | lst ts=>
  obtain⟨a,xs,rfl,h1,h2⟩:=r.sqL;cases rx;obtain⟨its,_,⟨o,m,h3,h4,_,_⟩,_⟩:=I.list h1;exact aLv PySem.W.kitx_list I.kIn ⟨o,h3,h4⟩ e (fun z=>nomatch z) h
 | own ts=>
  obtain⟨a,xs,rfl,_,h1,h2⟩:=r;cases rx;obtain⟨its,_,⟨o,m,h3,h4,_,_⟩,_⟩:=I.list (SqL.of h1);exact aLv PySem.W.kitx_list I.kIn ⟨o,h3,h4⟩ e (fun z=>nomatch z) h
 | tup ts=>
  obtain⟨a,xs,rfl,h1,h2⟩:=r.sqT;cases rx;obtain⟨its,_,⟨o,h3,h4,_⟩,_⟩:=I.tuple h1;exact aLv PySem.W.kitx_tuple I.kIn ⟨o,h3,h4⟩ e (fun z=>nomatch z) h
 | exc nm=>
  obtain⟨a,C,rfl,k,h1⟩:=r;cases rx;have ho:∃ oe,s.heap.get? a=some oe/\oe.cls=.ref C:=by
   rcases h1 with h1 | ⟨o,h1⟩
   ·obtain⟨⟨oe,vs,g1,g2,_⟩,_⟩:=I.hok a _ h1
    exact⟨oe,g1,g2⟩
   ·obtain⟨_,⟨oe,vs,g1,g2,_⟩,_⟩:=I.hok a _ h1
    exact⟨oe,g1,g2⟩
  exact aLv (k.2.1 a) I.kIn ho (hx nm C rfl k) (fun z=>nomatch z) h
 | dct ks=>
  obtain⟨a,rfl,_,h1⟩:=r;cases rx;obtain⟨_,_,vs,_,ob,_,_,g1,g2,_⟩:=VP I.hok h1;exact aLv PySem.W.kitx_dict I.kIn ⟨ob,g1,g2.1⟩ e (fun z=>nomatch z) h
def qX (c:String):T->Option T:=fun t=>some (.bl (xD c t))
theorem BC {x y:Str}{c:String}(hx:x = "isinstance") (hc:wK c) (hg:Gl X x) (hm:X.mg x=none) (hg':Gl X y) (hm':X.mg y=none) (hv:bootBuiltins y=some (.type c)) (he:GE X B fl e f n l)
  (hn:y ≠ "__name__" := by decide) (hd:(y == ("__debug__" : Str))=false:=by decide)
  (h1:starEach [e,.Name y p2] X.env=(false,eval e X.env)::starEach [.Name y p2] X.env:=by rfl) (h2:starEach [.Name y p2] X.env=[(false,eval (.Name y p2) X.env)]:=by rfl) (hpl:(backTo pos (starEach [.Name y p2] X.env)).any (·.1)=false:=by rfl):
  GE X B fl (.Call (.Name x p') [e,.Name y p2] [] pos) (f1 f (qX c)) true 3:=by
 subst hx;have cr:eR X (.builtin "isinstance") (fun xs H Q=>∃ v t A,xs=[v,.ty c]/\Rep X.K H A t v/\Q (.bl (xD c t)) H):=by
  intro pins s σ H xs us Q I r h;obtain⟨v,t,A,rfl,rt,q⟩:=h;obtain⟨u,w',rfl,r1,r2⟩:=OJ r;cases r2;exact YI I rt r1 (hc.1 X.K t) (fun nm C e k=>by
   subst e;have:=k.2.2 c hc.2;rw[this];have hc2:=hc.2;simp only[aJb,List.not_mem_nil,or_false] at hc2;rcases hc2 with rfl | rfl | rfl | rfl | rfl<;>rfl) fun tk=>⟨.bl _,H,I.tok tk,rfl,q⟩
 refine bI (kD cr hg hm PyProof.Rows.boot_isinstance (jF he (jF (aCk (v:=.ty c) hg' hm' hv rfl hn hd) nD h2) h1) (by decide) (by decide) h1 hpl) ?_;rintro σ H Q ⟨Ex,ρ,M,t,S,hf,q⟩;obtain⟨u,hu,hf⟩:=bind_some hf;cases (aIz hf);exact⟨Ex,ρ,M,u,S,hu,fun v H1 s1 r1=>⟨v,u,_,rfl,r1.rep S,q _ H1 s1 ((aN.scal rfl).mpr rfl)⟩⟩
def xP:T->Option T
 | .int i=>some (.int (Builtin.Int.intBits i:Nat))
 | _=>none
theorem aA1:MtR X "int.bit_length" (fun x xs H Q=>∃ i,x=.int i/\xs=[]/\Q (.int ((Builtin.Int.intBits i:Nat):Int)) H):=by
 intro pins s σ H x xs v us Q I rx rs h;obtain⟨i,rfl,rfl,q⟩:=h;obtain⟨t,rfl⟩:=rx;cases rs;exact call_int_bit_length ⟨.int _,H,I.tok _,⟨_,rfl⟩,q⟩
theorem HX {apos:Pos}(he:GE X B fl e f n l) (hbase:attributeBase e "bit_length" X.env (eval e X.env)=eval e X.env:=by rfl) (hline:(apos.endLine == pos.line)=true:=by rfl):
  GE X B fl (.Call (.Attribute e "bit_length" apos) [] [] pos) (f1 f xP) true 3:=by
 refine bI (aCl PySem.F.plainAttrs_int slot_int_bit_length type_int_bit_length aA1 he hbase hline) ?_;rintro σ H Q ⟨Ex,ρ,M,t,S,hf,q⟩;obtain⟨u,hu,hf⟩:=bind_some hf;have hi:∃ i,u=.int i:=by cases u<;>first | (cases hf;done) | exact⟨_,rfl⟩
 obtain⟨i,rfl⟩:=hi;cases (aIz hf);refine⟨Ex,ρ,M,_,S,hu,fun v H1 s1 r1=>?_⟩;cases (show v=V.int i from (aN.scal rfl).mp r1);exact⟨rfl,i,rfl,rfl,q _ H1 s1 ((aN.scal rfl).mpr rfl)⟩
theorem aBv:OpR X (binaryOp .FloorDiv) (rI (fun _ j=>0<j/\j<2^200) fun i j=>.int (i / j)):=opI fun i j _ _ _ _ _ hc q=>by
 refine floordiv_int (by omega) ?_ (.inl (PyProof.noPylong_of_log2 ?_))
 ·rw[Int.fdiv_eq_ediv_of_nonneg _ (by omega)]
  exact q
 ·have:j.natAbs.log2<200:=(Nat.log2_lt (by omega)).mpr (by omega)
  omega
end
section
variable {X:Cx}{B:Hp}{fl:List Nat}{a b:Expr}{f g:Rho->Option T}{n n':Bool}{l l':Nat}{pos:Pos}
theorem fG (ha:GE X B fl a f n l) (hb:GE X B fl b g n' l'):GE X B fl (.BinOp a .FloorDiv b pos) (f2 f g bV) true 3:=fH aBv (qF (fun _ _ k=>by simpa using k) (fun _ _=>rfl) fun _ _=>rfl) ha hb
end
def CH:Option NameKind->Bool
 | some .local=>true
 | _=>false
def JN:Option NameKind->Bool
 | some .cell=>true
 | some .free=>true
 | _=>false
def GH (env:Env) (N N':List Str) (src:List (Option Nat)) (scope:Scope):Bool:=
 (match scope.kind with | .function=>true | _=>false) &&
 scope.names.all (fun y=>match y.2 with | .cell=>qR (scope.names.lookup y.1) | _=>true) &&
 scope.names.all (fun y=>match y.2 with | .local=>CH (scope.names.lookup y.1) | _=>true) &&
 scope.names.all (fun y=>match y.2 with | .free=>JN (env.kindOf y.1) | _=>true) &&
 (src.length == N'.length) &&
 (List.range src.length).all (fun j=>match src[j]? with | some (some i)=>(match N'[j]?,N[i]? with | some a,some b=>a == b && !CH (scope.names.lookup a) && !qR (scope.names.lookup a) | _,_=>false) | _=>true)
theorem cG {X:Cx}{scope:Scope}{N':List Str}{src:List (Option Nat)}(h:GH X.env X.N N' src scope=true):BlkOk X scope N' src:=by
 unfold GH at h;simp only[aJc] at h;obtain⟨⟨⟨⟨⟨h1,h2⟩,h3⟩,h4⟩,h5⟩,h6⟩:=h;refine⟨?_,fun y hy e=>?_,fun y hy e=>?_,fun y hy e=>?_,fun j i e=>?_,eq_of_beq h5⟩
 ·cases q:scope.kind<;>rw[q] at h1<;>first | rfl | cases h1
 ·have:=aJ5.mp h2 y hy
  rw[e] at this;exact JO this
 ·have:=aJ5.mp h3 y hy
  rw[e] at this;have this:CH (scope.names.lookup y.1)=true:=this;cases q:scope.names.lookup y.1 with
  | none=>rw[q] at this;cases this
  | some k=>rw[q] at this;cases k<;>first | rfl | cases this
 ·have:=aJ5.mp h4 y hy
  rw[e] at this;have this:JN (X.env.kindOf y.1)=true:=this;cases q:X.env.kindOf y.1 with
  | none=>rw[q] at this;cases this
  | some k=>rw[q] at this;cases k<;>first | exact .inl rfl | exact .inr rfl | cases this
 ·have hj:j<src.length:=(aJ4.mp e).1
  have:=aJ5.mp h6 j (aJ6.mpr hj);rw[e] at this;dsimp only at this;cases q:N'[j]? with
  | none=>rw[q] at this;cases this
  | some a=>
   cases q2:X.N[i]? with
   | none=>rw[q,q2] at this;cases this
   | some b=>
    rw[q,q2] at this;simp only[aJc] at this;have e1:=eq_of_beq this.1.1;subst e1;refine⟨a,rfl,rfl,fun z=>?_,fun z=>?_⟩
    ·have t2:=this.1.2
     rw[z] at t2;cases t2
    ·have t2:=this.2
     rw[z] at t2;cases t2
def sW:List Str->Bool
 | []=>true
 | x::r=>!(r.any (· == x))&&sW r
theorem cX:∀ {l:List Str},sW l=true->l.Nodup
 | [],_=>List.nodup_nil
 | x::r,h=>by
  unfold sW at h;simp only[aJc] at h;refine aL1.mpr ⟨fun hx=>?_,cX h.2⟩;have h1:=h.1;rw[Bool.not_eq_true',List.any_eq_false] at h1;exact h1 x hx (beq_self_eq_true x)
def GJ (N N':List Str) (src:List (Option Nat)) (fl fl':List Nat) (li:Nat) (sc:Bool):Bool:=
 sW N'&&(match src with | none::_=>true | _=>false)&&decide (1<=fl'.getD 0 1)&&(sc||decide (fl'.getD 0 1<=li))&&(fl'.length == src.length)&&(src.length == N'.length) &&
 (List.range src.length).all (fun j=>match src[j]? with | some (some i)=>(match N'[j]?,N[i]? with | some a,some b=>a == b | _,_=>false)&&(fl'.getD j 1 == fl.getD i 1) | _=>true)&&(decide (lc fl'<=lc fl) || !fl'.contains 0)
theorem KD {fl fl':List Nat}(h:(decide (lc fl'<=lc fl) || !fl'.contains 0)=true):lc fl'<=lc fl\/∀ j,fl'.getD j 1≠0:=by
 rcases Bool.or_eq_true_iff.mp h with h | h
 ·exact .inl (of_decide_eq_true h)
 ·refine .inr fun j z=>?_
  rw[aJ0] at z;cases q:fl'[j]? with
  | none=>rw[q] at z;cases z
  | some m=>
   rw[q] at z;have z:m=0:=z;have:fl'.contains 0=true:=aJx.mpr (aKy (z ▸ q));rw[this] at h;cases h
theorem eK {X:Cx}{N':List Str}{src:List (Option Nat)}{fl fl':List Nat}{li:Nat}{sc:Bool}(h:GJ X.N N' src fl fl' li sc=true):FlOk X N' src fl fl' li sc:=by
 unfold GJ at h;have h8:=KD (aJd.mp h).2;simp only[aJc,decide_eq_true_eq] at h;obtain⟨⟨⟨⟨⟨⟨⟨h1,h2⟩,h3⟩,h4⟩,h5⟩,h6⟩,h7⟩,_⟩:=h;have key:∀ j i,src[j]?=some (some i)->(∃ a,N'[j]?=some a/\X.N[i]?=some a)/\fl'.getD j 1=fl.getD i 1:=fun j i e=>by
  have hj:j<src.length:=(aJ4.mp e).1;have:=aJ5.mp h7 j (aJ6.mpr hj);rw[e] at this;dsimp only at this;simp only[aJc] at this;refine⟨?_,eq_of_beq this.2⟩;have t1:=this.1;cases q:N'[j]? with
  | none=>rw[q] at t1;cases t1
  | some a=>
   cases q2:X.N[i]? with
   | none=>rw[q,q2] at t1;cases t1
   | some b=>
    rw[q,q2] at t1;exact⟨a,rfl,by rw[eq_of_beq t1]⟩
 refine⟨cX h1,?_,fun j i e=>(key j i e).2,h3,fun z=>by simpa [z] using h4,fun j i e=>?_,eq_of_beq h5,h8⟩
 ·cases src with
  | nil=>cases h2
  | cons o r=>cases o<;>first | rfl | cases h2
 ·obtain⟨⟨a,e1,e2⟩,_⟩:=key j i e
  refine⟨e1.trans e2.symm,?_⟩;exact (aJ4.mp e1).1
@[simp] theorem jn {α:Type} (x:Option α):(some x).join=x:=by cases x<;>rfl
@[simp] theorem fVar_at (i:Nat) (ρ:Rho):aA i ρ=(ρ[i]?).join:=id rfl
@[simp] theorem fC_at (t:T) (ρ:Rho):fC t ρ=some t:=id rfl
@[simp] theorem f1_at (f:Rho->Option T) (F:T->Option T) (ρ:Rho):f1 f F ρ=(f ρ).bind F:=id rfl
@[simp] theorem f2_at (f g:Rho->Option T) (F:T->T->Option T) (ρ:Rho):f2 f g F ρ=(f ρ).bind fun x=>(g ρ).bind fun y=>F x y:=id rfl
@[simp] theorem aNil_at (ρ:Rho):aE ρ=some []:=id rfl
@[simp] theorem aCons_at (f:Rho->Option T) (g:Rho->Option (List T)) (ρ:Rho):aC f g ρ=(f ρ).bind fun x=>(g ρ).bind fun y=>some (x::y):=id rfl
@[simp] theorem fCall_at (fa:Rho->Option (List T)) (F:List T->Option T) (ρ:Rho):aG fa F ρ=(fa ρ).bind F:=id rfl
@[simp] theorem fB_at (f:Rho->Option T) (ρ:Rho):fB f ρ=(f ρ).bind isB:=id rfl
@[simp] theorem fT_at (f:Rho->Option T) (ρ:Rho):fT f ρ=(f ρ).bind wF:=id rfl
@[simp] theorem fL_at (f:Rho->Option T) (ρ:Rho):fL f ρ=(f ρ).bind isL:=id rfl
@[simp] theorem fFL_at (f:Rho->Option T) (ρ:Rho):fFL f ρ=(f ρ).bind mY:=id rfl
@[simp] theorem pNot_at (p:Rho->Option Bool) (ρ:Rho):rC p ρ=(p ρ).map (!·):=id rfl
@[simp] theorem pAnd_at (p q:Rho->Option Bool) (ρ:Rho):xZ p q ρ=(p ρ).bind fun b=>if b then q ρ else some false:=id rfl
@[simp] theorem pOr_at (p q:Rho->Option Bool) (ρ:Rho):pOr p q ρ=(p ρ).bind fun b=>if b then some true else q ρ:=id rfl
@[simp] theorem pYes_at (ρ:Rho):aR ρ=some true:=id rfl
@[simp] theorem vNot_at (f:Rho->Option T) (ρ:Rho):zP f ρ=((f ρ).bind isB).map fun b=>.bl (!b):=id rfl
@[simp] theorem vAnd_at (f g:Rho->Option T) (ρ:Rho):kJ f g ρ=((f ρ).bind isB).bind fun b=>if b then g ρ else some (.bl false):=id rfl
@[simp] theorem vOr_at (f g:Rho->Option T) (ρ:Rho):vOr f g ρ=((f ρ).bind isB).bind fun b=>if b then some (.bl true) else g ρ:=id rfl
@[simp] theorem fIf_at (p:Rho->Option Bool) (f g:Rho->Option T) (ρ:Rho):fIf p f g ρ=(p ρ).bind fun b=>if b then f ρ else g ρ:=id rfl
@[simp] theorem fLst_at (fa:Rho->Option (List T)) (ρ:Rho):fF fa ρ=(fa ρ).bind fun ts=>if ts.length<=cap then some (.lst ts) else none:=id rfl
@[simp] theorem fTup_at (fa:Rho->Option (List T)) (ρ:Rho):dM fa ρ=(fa ρ).bind fun ts=>if ts.length<=cap then some (.tup ts) else none:=id rfl
@[simp] theorem fRange_at (fa:Rho->Option (List T)) (o:List T->Option (List T)) (ρ:Rho):cV fa o ρ=(fa ρ).bind o:=id rfl
@[simp] theorem fComp_at (fi:Rho->Option (List T)) (src:List (Option Nat)) (p:Rho->Option Bool) (f:Rho->Option T) (ρ:Rho):cA fi src p f ρ =
 (fi ρ).bind fun ts=>(bL p f (bJ src ρ) ts).bind fun us=>if us.length<=cap then some (.lst us) else none:=id rfl
@[simp] theorem oNone_at (ρ:Rho):tD ρ=some none:=id rfl
@[simp] theorem oSome_at (f:Rho->Option T) (ρ:Rho):rB f ρ=((f ρ).bind isI).map some:=id rfl
@[simp] theorem fSlice_at (f:Rho->Option T) (lo hi st:Rho->Option (Option Int)) (ρ:Rho):wS f lo hi st ρ=(f ρ).bind fun x=>(lo ρ).bind fun a=>(hi ρ).bind fun b=>(st ρ).bind fun c=>
 match x with
 | .lst ts=>if c=some 0 then none else some (.lst (cC ts a b c))
 | _=>none:=id rfl
@[simp] theorem rNext_at (ρ:Rho):bW ρ=some (.nx ρ):=id rfl
@[simp] theorem rSeq_at (r1 r2:Rho->Option Out) (ρ:Rho):aH r1 r2 ρ=(r1 ρ).bind fun o=>match o with | .nx ρ'=>r2 ρ' | o=>some o:=id rfl
@[simp] theorem rSet_at (i:Nat) (f:Rho->Option T) (ρ:Rho):aQ i f ρ=(f ρ).map fun t=>.nx (ρ.set i (some t)):=id rfl
@[simp] theorem rSetM_at (i:Nat) (f:Rho->Option T) (ρ:Rho):dH i f ρ=(f ρ).bind fun t=>if okM t then some (.nx (ρ.set i (some t))) else none:=id rfl
@[simp] theorem okM_lst (ts:List T):okM (.lst ts)=true:=rfl
@[simp] theorem okM_non:okM .non=true:=rfl
@[simp] theorem rIf_at (p:Rho->Option Bool) (r1 r2:Rho->Option Out) (ρ:Rho):rIf p r1 r2 ρ=(p ρ).bind fun b=>if b then r1 ρ else r2 ρ:=id rfl
@[simp] theorem rRet_at (f:Rho->Option T) (ρ:Rho):aU f ρ=(f ρ).map .rt:=id rfl
@[simp] theorem rRetM_at (i:Nat) (ρ:Rho):aE4 i ρ=(aA i ρ).bind fun t=>match t with | .lst ts=>if bU ts then some (.rt (.lst ts)) else none | _=>none:=id rfl
@[simp] theorem rApp_at (i:Nat) (f:Rho->Option T) (ρ:Rho):yE i f ρ=(aA i ρ).bind fun t=>(f ρ).bind fun x=>match t with | .lst ts=>if ts.length<cap then some (.nx (ρ.set i (some (.lst (ts++[x]))))) else none | _=>none:=id rfl
@[simp] theorem rPut_at (i:Nat) (fi f:Rho->Option T) (ρ:Rho):rD i fi f ρ=(f ρ).bind fun x=>(aA i ρ).bind fun t=>(fi ρ).bind fun k=>match t,k with | .lst ts,.int j=>(ixN ts.length j).map fun j'=>.nx (ρ.set i (some (.lst (ts.set j' x)))) | _,_=>none:=id rfl
@[simp] theorem rFor_at (j:Nat) (fi:Rho->Option (List T)) (body:Rho->Option Out) (ρ:Rho):dG j fi body ρ=(fi ρ).bind fun ts=>bO j body ts ρ:=id rfl
@[simp] theorem oI_int (C:Int->Int->Bool) (h:Int->Int->T) (i j:Int):oI C h (.int i) (.int j)=if C i j then some (h i j) else none:=id rfl
@[simp] theorem oAdd_int (i j:Int):dW (.int i) (.int j)=some (.int (i+j)):=id rfl
@[simp] theorem oSub_int (i j:Int):eF (.int i) (.int j)=some (.int (i-j)):=id rfl
theorem jE {i j:Int}(h:fN i j=true):bG (.int i) (.int j)=some (.int (i*j)):=by simp[bG,h]
theorem gB {i j:Int}(h:0<j) (h2:j<2^200):bV (.int i) (.int j)=some (.int (i / j)):=by simp only[bV,oI_int];rw[if_pos (by simp[h];exact h2)]
theorem cY {i j:Int}(h:0<j):bE (.int i) (.int j)=some (.int (i%j)):=by simp[bE,h]
theorem aAj {i j:Int}(h:0<=j):nC (.int i) (.int j)=some (.int (i / 2^j.toNat)):=by simp[nC,h]
theorem aAh {i j:Int}(h:0<=j) (h2:j<=1000000) (h3:i.natAbs<2^64):eE (.int i) (.int j)=some (.int (i*2^j.toNat)):=by simp only[eE,oI_int];rw[if_pos (by simp[h,h2];exact h3)]
@[simp] theorem oAnd_int (i j:Int):jC (.int i) (.int j)=some (.int (Builtin.bitAnd i j)):=id rfl
@[simp] theorem oOr_int (i j:Int):oOr (.int i) (.int j)=some (.int (Builtin.bitOr i j)):=id rfl
@[simp] theorem oXor_int (i j:Int):CU (.int i) (.int j)=some (.int (Builtin.bitXor i j)):=id rfl
@[simp] theorem oLt_int (i j:Int):oLt (.int i) (.int j)=some (.bl (decide (i<j))):=id rfl
@[simp] theorem oLe_int (i j:Int):oLe (.int i) (.int j)=some (.bl (decide (i<=j))):=id rfl
@[simp] theorem oGt_int (i j:Int):oGt (.int i) (.int j)=some (.bl (decide (j<i))):=id rfl
@[simp] theorem oGe_int (i j:Int):oGe (.int i) (.int j)=some (.bl (decide (j<=i))):=id rfl
@[simp] theorem isB_bl (b:Bool):isB (.bl b)=some b:=id rfl
@[simp] theorem truT_bl (b:Bool):wF (.bl b)=some b:=id rfl
@[simp] theorem truT_int (i:Int):wF (.int i)=some (i != 0):=id rfl
@[simp] theorem isL_lst (ts:List T):isL (.lst ts)=some ts:=id rfl
@[simp] theorem isI_int (i:Int):isI (.int i)=some i:=id rfl
@[simp] theorem gScal_int (i:Int):aZ (.int i)=some (.int i):=id rfl
@[simp] theorem gScal_bl (i:Bool):aZ (.bl i)=some (.bl i):=id rfl
@[simp] theorem oLen_lst (ts:List T):dN [.lst ts]=some (.int ts.length):=id rfl
@[simp] theorem oList_lst (ts:List T):LA [.lst ts]=some (.lst ts):=id rfl
@[simp] theorem oIx_lst (ts:List T) (i:Int):oIx (.lst ts) (.int i)=atI ts i:=id rfl
@[simp] theorem oInst_at (c:String) (t:T):qX c t=some (.bl (xD c t)):=id rfl
@[simp] theorem oBits_int (i:Int):xP (.int i)=some (.int (Builtin.Int.intBits i:Nat)):=id rfl
theorem CP {xs ys:List T}(h:xs.length+ys.length<=cap):jD (.lst xs) (.lst ys)=some (.lst (xs++ys)):=by simp[jD,h]
def tI (ns:List Int):List T:=ns.map T.int
@[simp] theorem tI_length (ns:List Int):(tI ns).length=ns.length:=by simp[tI]
@[simp] theorem tI_nil:tI []=[]:=rfl
@[simp] theorem tI_cons (n:Int) (ns:List Int):tI (n::ns)=.int n::tI ns:=rfl
theorem NO (ns ms:List Int):tI (ns++ms)=tI ns++tI ms:=by simp[tI]
theorem AW:∀ ns:List Int,bU (tI ns)=true
 | []=>rfl
 | n::ns=>by simp[bU,tI,im]
theorem GX:∀ ns:List Int,depL (tI ns)=0
 | []=>rfl
 | n::ns=>by
  have:=GX ns;show max (dep (.int n)) (depL (tI ns))=0;rw[this];rfl
theorem TR (ns:List Int):dep (.lst (tI ns))=1:=by simp[dep,GX]
theorem HE:∀ ns ms:List Int,eqL (tI ns) (tI ms)=decide (ns=ms)
 | [],[]=>by simp[eqL]
 | [],m::ms=>by simp[eqL]
 | n::ns,[]=>by simp[eqL]
 | n::ns,m::ms=>by
  have ih:=HE ns ms;simp only[tI_cons,eqL,ih,eqT]
  by_cases h:n=m<;>by_cases h':ns=ms<;>simp[h,h']
theorem VU (ns ms:List Int):eqT (.lst (tI ns)) (.lst (tI ms))=decide (ns=ms):=by rw[eqT,HE]
theorem CQ (ns ms:List Int):oEq (.lst (tI ns)) (.lst (tI ms))=some (.bl (decide (ns=ms))):=by simp[oEq,TR,VU]
@[simp] theorem oEq_int (i j:Int):oEq (.int i) (.int j)=some (.bl (i == j)):=rfl
@[simp] theorem oNe_int (i j:Int):oNe (.int i) (.int j)=some (.bl (!(i == j))):=rfl
theorem dD (ns:List Int):mY (.lst (tI ns))=some (tI ns):=by simp[mY,AW]
theorem WN (ns:List Int):sI (.lst (tI ns))=some (.lst (tI ns)):=by simp[sI,AW]
theorem ND (ns:List Int) (a b c:Option Int):cC (tI ns) a b c=tI (cC ns a b c):=by
 unfold cC tI;rw[aKg,List.map_filterMap]
 congr 1
 funext i
 simp
theorem SD {α β:Type}(f:α->β) (xs:List α) (i:Int):atI (xs.map f) i=(atI xs i).map f:=by
 unfold atI;rw[aKg];cases ixN xs.length i with
 | none=>rfl
 | some j=>simp
theorem SG (ns:List Int) (i:Int):atI (tI ns) i=(atI ns i).map T.int:=SD _ _ _
theorem SF {α:Type}{xs:List α}{i:Nat}(h:i<xs.length):atI xs (i:Int)=some xs[i]:=FS (aJ1 h)
theorem SE {α:Type}{xs:List α}{i:Int}(h0:0<=i) (h:i<xs.length):atI xs i=some (xs[i.toNat]'(by lia)):=by
 have e:((i.toNat:Nat):Int)=i:=by lia
 have:=SF (xs:=xs) (i:=i.toNat) (by lia);rw[e] at this;exact this
theorem GQ {p:Rho->Option Bool}{f:Rho->Option T}{ρ:Rho}(c:T->Bool) (h:T->T):∀ ts:List T,(∀ t∈ts,p (ρ.set 0 (some t))=some (c t))->(∀ t∈ts,c t=true->f (ρ.set 0 (some t))=some (h t))->bL p f ρ ts=some ((ts.filter c).map h)
 | [],_,_=>rfl
 | t::ts,h1,h2=>by
  have ih:=GQ (p:=p) (f:=f) (ρ:=ρ) c h ts (fun u hu=>h1 u (aJ2 _ hu)) (fun u hu=>h2 u (aJ2 _ hu));unfold bL;rw[h1 t aJ3];cases hc:c t with
  | true=>
   have:=h2 t aJ3 hc;simp[this,ih,hc]
  | false=>simp[ih,hc]
theorem qL {f:Rho->Option T}{ρ:Rho}(h:T->T) (ts:List T) (h2:∀ t∈ts,f (ρ.set 0 (some t))=some (h t)):bL aR f ρ ts=some (ts.map h):=by
 rw[GQ (fun _=>true) h ts (fun _ _=>rfl) (fun t ht _=>h2 t ht)]
 congr 2
 exact List.filter_eq_self.mpr fun _ _=>rfl
theorem KO {lo:Int}{n:Nat}{t:T}(h:t∈rangeT lo n):∃ i:Nat,i<n/\t=.int (lo+i):=by
 unfold rangeT at h;obtain⟨i,hi,rfl⟩:=aKw.mp h;exact⟨i,aJ6.mp hi,rfl⟩
theorem TM {f:Rho->Option T}{ρ:Rho}{lo:Int}{n:Nat}(h:Nat->T) (h2:∀ i,i<n->f (ρ.set 0 (some (.int (lo+i))))=some (h i)):bL aR f ρ (rangeT lo n)=some ((List.range n).map h):=by
 have key:∀ is:List Nat,(∀ i∈is,i<n)->bL aR f ρ (is.map fun (i:Nat)=>T.int (lo+(i:Int)))=some (is.map h):=by
  intro is
  induction is with
  | nil=>intro _;rfl
  | cons i r ih=>
   intro hi;have e:=h2 i (hi i aJ3);have ih':=ih fun j hj=>hi j (aJ2 _ hj);rw[aKo];unfold bL;simp[e,ih']
 exact key (List.range n) fun i hi=>aJ6.mp hi
theorem gP (n:Nat) (h:n<2^62):dO [.int (n:Int)]=some (rangeT 0 n):=by
 unfold dO;dsimp only;rw[if_pos (by lia)];simp
theorem wW {j:Nat}{body:Rho->Option Out}(I:Nat->Rho->Prop) (ts:List T) (h:∀ i (hi:i<ts.length) ρ,I i ρ->∃ ρ',(body (ρ.set j (some ts[i]))=some (.nx ρ')\/body (ρ.set j (some ts[i]))=some (.ct ρ'))/\I (i+1) ρ'):
  ∀ ρ,I 0 ρ->∃ ρ',bO j body ts ρ=some (.nx ρ')/\I ts.length ρ':=by
 have key:∀ (us:List T) (k:Nat),us=ts.drop k->k<=ts.length->∀ ρ,I k ρ->∃ ρ',bO j body us ρ=some (.nx ρ')/\I ts.length ρ':=by
  intro us
  induction us with
  | nil=>
   intro k e hk ρ hI;have:ts.length<=k:=by
    have:=congrArg List.length e;simp at this;lia
   have e2:k=ts.length:=by lia
   subst e2;exact⟨ρ,rfl,hI⟩
  | cons u r ih=>
   intro k e hk ρ hI;have hk':k<ts.length:=by
    have:=congrArg List.length e;simp at this;lia
   rw[List.drop_eq_getElem_cons hk'] at e;cases e;obtain⟨ρ',hb,hI'⟩:=h k hk' ρ hI;obtain⟨ρ2,h2,hI2⟩:=ih (k+1) rfl hk' ρ' hI';refine⟨ρ2,?_,hI2⟩;unfold bO;rcases hb with hb | hb<;>rw[hb]<;>exact h2
 exact fun ρ hI=>key ts 0 (by simp) (aLq _) ρ hI
mutual
def bS:T->T->Bool
 | .non,.non=>true
 | .bl a,.bl b=>a == b
 | .int a,.int b=>a == b
 | .str a,.str b=>decide (a=b)
 | .lst xs,.lst ys=>sameL xs ys
 | .tup xs,.tup ys=>sameL xs ys
 | .exc a,.exc b=>decide (a=b)
 | .dct a,.dct b=>decide (a=b)
 | _,_=>false
def sameL:List T->List T->Bool
 | [],[]=>true
 | x::xs,y::ys=>bS x y&&sameL xs ys
 | _,_=>false
end
mutual
theorem MW:∀ (t u:T),bS t u=true->t=u
 | .non,u,h=>by cases u<;>simp[bS] at h ⊢
 | .bl a,u,h=>by cases u<;>simp[bS] at h ⊢;exact h
 | .int a,u,h=>by cases u<;>simp[bS] at h ⊢;exact h
 | .str a,u,h=>by cases u<;>simp[bS] at h ⊢;exact h
 | .exc a,u,h=>by cases u<;>simp[bS] at h ⊢;exact h
 | .dct a,u,h=>by cases u<;>simp[bS] at h ⊢;exact h
 | .own a,u,h=>by cases u<;>simp[bS] at h
 | .lst xs,.lst ys,h=>by rw[bS] at h;rw[sameL_eq xs ys h]
 | .tup xs,.tup ys,h=>by rw[bS] at h;rw[sameL_eq xs ys h]
 | .lst xs,.non,h=>by simp[bS] at h
 | .lst xs,.bl _,h=>by simp[bS] at h
 | .lst xs,.int _,h=>by simp[bS] at h
 | .lst xs,.str _,h=>by simp[bS] at h
 | .lst xs,.tup _,h=>by simp[bS] at h
 | .lst xs,.exc _,h=>by simp[bS] at h
 | .lst xs,.dct _,h=>by simp[bS] at h
 | .lst xs,.own _,h=>by simp[bS] at h
 | .tup xs,.non,h=>by simp[bS] at h
 | .tup xs,.bl _,h=>by simp[bS] at h
 | .tup xs,.int _,h=>by simp[bS] at h
 | .tup xs,.str _,h=>by simp[bS] at h
 | .tup xs,.lst _,h=>by simp[bS] at h
 | .tup xs,.exc _,h=>by simp[bS] at h
 | .tup xs,.dct _,h=>by simp[bS] at h
 | .tup xs,.own _,h=>by simp[bS] at h
theorem sameL_eq:∀ (xs ys:List T),sameL xs ys=true->xs=ys
 | [],[],_=>rfl
 | [],_::_,h=>by simp[sameL] at h
 | _::_,[],h=>by simp[sameL] at h
 | x::xs,y::ys,h=>by
  rw[sameL,aJc] at h;rw[MW x y h.1,sameL_eq xs ys h.2]
end
def zG:Option T->Option T->Bool
 | some t,some u=>bS t u
 | none,none=>true
 | _,_=>false
theorem DT {a b:Option T}(h:zG a b=true):a=b:=by
 cases a<;>cases b<;>first | rfl | cases h | skip
 rw[MW _ _ h]
theorem below {P:Int->Prop}(n:Nat) (f:Nat->Bool) (h:(List.range n).all f=true) (hP:∀ k:Nat,f k=true->P k) {g:Int}(h0:0<=g) (h1:g<n):P g:=by
 have:=aJ5.mp h g.toNat (aJ6.mpr (by lia));have:=hP _ this
 rwa [Int.toNat_of_nonneg h0] at this
def bX:List T->Option (List Int)
 | []=>some []
 | .int i::r=>(bX r).map (i :: ·)
 | _=>none
theorem mM:∀ ns:List Int,bX (tI ns)=some ns
 | []=>rfl
 | n::ns=>by
  show (bX (tI ns)).map (n :: ·)=_;rw[mM ns];rfl
theorem jN:∀ {ts:List T}{ns:List Int},bX ts=some ns->ts=tI ns
 | [],ns,h=>by cases (aIz h);rfl
 | .int i::r,ns,h=>by
  cases e:bX r with
  | none=>rw[bX,e] at h;cases h
  | some ms=>
   rw[bX,e] at h;cases (aIz h);rw[jN e];rfl
 | .non::_,_,h=>by cases h
 | .bl _::_,_,h=>by cases h
 | .str _::_,_,h=>by cases h
 | .lst _::_,_,h=>by cases h
 | .tup _::_,_,h=>by cases h
 | .exc _::_,_,h=>by cases h
 | .dct _::_,_,h=>by cases h
 | .own _::_,_,h=>by cases h
theorem DI (n:Nat):rangeT 0 n=(List.range n).map fun (i:Nat)=>T.int (i:Int):=by
 unfold rangeT;simp
theorem kG {K:PySem.W.Frag}{H:Hp}{A:Addr->Prop}:∀ {ns:List Int}{xs:List V},RepL K H A (tI ns) xs->xs=ns.map V.int
 | [],_,h=>h
 | n::ns,_,h=>by
  obtain⟨x,r,e,h1,h2⟩:=h;rw[e,kG h2,(show x=.int n from h1)];rfl
def tB (bs:List Bool):List T:=bs.map T.bl
theorem MI {K:PySem.W.Frag}{H:Hp}{A:Addr->Prop}:∀ {ns:List Bool}{xs:List V},RepL K H A (G.tB ns) xs->xs=ns.map V.bl
 | [],_,h=>h
 | n::ns,_,h=>by
  obtain⟨x,r,e,h1,h2⟩:=h;rw[e,MI h2,(show x=.bl n from h1)];rfl
def gI:List T->Option (List Bool)
 | []=>some []
 | .bl i::r=>(gI r).map (i :: ·)
 | _=>none
theorem FN:∀ ns:List Bool,gI (G.tB ns)=some ns
 | []=>rfl
 | n::ns=>by
  show (gI (G.tB ns)).map (n :: ·)=_;rw[FN ns];rfl
theorem FM:∀ {ts:List T}{ns:List Bool},gI ts=some ns->ts=G.tB ns
 | [],ns,h=>by cases (aIz h);rfl
 | .bl i::r,ns,h=>by
  cases e:gI r with
  | none=>rw[gI,e] at h;cases h
  | some ms=>
   rw[gI,e] at h;cases (aIz h);rw[FM e];rfl
 | .non::_,_,h=>by cases h
 | .int _::_,_,h=>by cases h
 | .str _::_,_,h=>by cases h
 | .lst _::_,_,h=>by cases h
 | .tup _::_,_,h=>by cases h
 | .exc _::_,_,h=>by cases h
 | .dct _::_,_,h=>by cases h
 | .own _::_,_,h=>by cases h
theorem LW (ns:List Int):∀ j,j<=ns.length->preSum (fun i=>ns.getD i 0) j=(ns.take j).sum
 | 0,_=>by simp[preSum]
 | j+1,h=>by
  rw[preSum,LW ns j (by lia),List.take_succ,List.sum_append];simp[aJ0,show j<ns.length by lia]
section
variable {X:Cx}{B:Hp}{fl:List Nat}{e:Expr}{es:List Expr}{f:Rho->Option T}{fa:Rho->Option (List T)}{n n':Bool}{l l' k:Nat}{pos p' p2:Pos}{x:Str}{ps:List Str}{F:List T->Option T}
theorem CD {pins:List (Addr × Obj)}{σ:St}{H:Hp}{s s':Shared}(I:Inv X pins σ H s) (o:Obj) (m:Moved [s.heap.objs.size] (fun a b=>b=a) { s with heap:=s.heap.push o } s'):Inv X pins σ H s':=by
 have I2:Inv X pins σ H { s with heap:=s.heap.push o }:=I.kept (t':=s.toks) fun b ob q=>aJa _ q;obtain⟨h',g',d',t',o'⟩:=s';obtain⟨m1,m2,m3,m4,m5⟩:=m;cases (show g'=s.gens from m2);cases (show d'=s.drawn from m3);cases (show o'=s.os from m4);have fp:=I.fpOk (aL8 s.heap.objs.size) (I.hok.fresh (aL8 _));exact L2.Inv.turned (s:={ s with heap:=s.heap.push o }) (h':=h') (t':=t') (it:=s.heap.objs.size) I2 (fun b ob hb q=>m1 b ob (by simpa using hb) q) fp.1 fp.2.1 fp.2.2.2.1 fp.2.2.2.2.1 fp.2.2.2.2.2
theorem SU (hc:X.calm=true):eR X (.builtin "sum") (fun xs H Q=>∃ (a:Addr) (ns:List Int),xs=[.ref a]/\SqL X.K H a (ns.map V.int)/\Q (.int ns.sum) H):=by
 intro pins s σ H xs us Q I r h;obtain⟨a,ns,rfl,hS,q⟩:=h;obtain⟨u,rfl,ru⟩:=rT r;cases ru;obtain⟨its,rv,p,hz⟩:=I.list hS;have hl:=rv.length;have ha:a<s.heap.objs.size:=by obtain⟨o,n,e,_⟩:=p;exact aJj e
 refine call_sum_walkAnyS (wpAny_pyIter_list p.isList ?_);refine⟨s.heap.objs.size,[s.heap.objs.size,a],[s.heap.objs.size],_,its.toArray.size,_,_,fun i=>ns.getD i 0,rfl,(Walks.list (A:=X.A.in1) (I.ok.hd hc) s.heap.objs.size a (aLh ha) its.toArray).toS,⟨⟨_,aJi _ rfl,rfl,rfl⟩,p.isList.push _⟩,fun b hb=>?_,fun i v hv=>?_,fun s' t' mv=>?_⟩
 ·simp only[aJb,List.mem_nil_iff,or_false] at hb
  rw[aJk];rcases hb with rfl | rfl
  ·exact aLd _
  ·exact Nat.lt_succ_of_lt ha
 ·have hv':its[i]?=some v:=by simpa using hv
  have hi:i<its.length:=(aJ4.mp hv').1;have hin:i<ns.length:=by rw[aKg] at hl;lia
  have e1:(ns.map V.int)[i]?=some (V.int (ns.getD i 0)):=by
   rw[aKa,aJ1 hin];simp[aJ0,hin]
  obtain⟨u,e2,ru⟩:=rv.get e1;rw[hv'] at e2;cases (aIz e2);exact ru
 ·have es:its.toArray.size=ns.length:=by simp only[aJ8];rw[<- hl];simp
  rw[es,LW ns ns.length (aL8 _),List.take_length];exact⟨.int ns.sum,H,CD I _ mv,⟨_,rfl⟩,q⟩
theorem SO (hc:X.calm=true):eR X (.builtin "all") (fun xs H Q=>∃ (a:Addr) (bs:List Bool),xs=[.ref a]/\SqL X.K H a (bs.map V.bl)/\Q (.bl (bs.all id)) H):=by
 intro pins s σ H xs us Q I r h;obtain⟨a,ns,rfl,hS,q⟩:=h;obtain⟨u,rfl,ru⟩:=rT r;cases ru;obtain⟨its,rv,p,hz⟩:=I.list hS;have hl:=rv.length;have ha:a<s.heap.objs.size:=by obtain⟨o,n,e,_⟩:=p;exact aJj e
 refine call_all_walkS (wpAny_pyIter_list p.isList ?_);refine⟨s.heap.objs.size,[s.heap.objs.size,a],[s.heap.objs.size],_,its.toArray.size,_,_,fun i=>ns.getD i true,rfl,(Walks.list (A:=X.A.in1) (I.ok.hd hc) s.heap.objs.size a (aLh ha) its.toArray).toS,⟨⟨_,aJi _ rfl,rfl,rfl⟩,p.isList.push _⟩,fun i v s0 Q0 E0 hv hq=>?_,fun s' mv=>?_⟩
 ·have hv':its[i]?=some v:=by simpa using hv
  have hi:i<its.length:=(aJ4.mp hv').1;have hin:i<ns.length:=by rw[aKg] at hl;lia
  have e1:(ns.map V.bl)[i]?=some (V.bl (ns.getD i true)):=by
   rw[aKa,aJ1 hin];simp[aJ0,hin]
  obtain⟨u,e2,ru⟩:=rv.get e1;rw[hv'] at e2;cases (aIz e2);cases ru;exact wpAny_truthy_bool hq
 ·have es:its.toArray.size=ns.length:=by simp only[aJ8];rw[<- hl];simp
  have ea:(List.range ns.length).all (fun i=>ns.getD i true)=ns.all id:=by
   rw[aJe,aJ5,aJ5]
   constructor
   ·intro h x hx
    obtain⟨i,hi,rfl⟩:=aKv.mp hx;have:=h i (aJ6.mpr hi)
    simpa [aJ0,hi] using this
   ·intro h i hi
    have hi:=aJ6.mp hi;have:=h ns[i] (List.getElem_mem hi)
    simpa [aJ0,hi] using this
  rw[es,ea];exact⟨.bl (ns.all id),H,CD I _ mv,rfl,q⟩
def tH:List T->Option T
 | [.lst ts]=>(bX ts).map fun ns=>.int ns.sum
 | _=>none
def qW:List T->Option T
 | [.lst ts]=>(gI ts).map fun ns=>.bl (ns.all id)
 | _=>none
theorem IH (hx:x = "sum") (hc:X.calm=true) (hg:Gl X x) (hm:X.mg x=none) (ha:GA X B fl (e::es) fa l)
  (he:starEach (e::es) X.env=(false,eval e X.env)::starEach es X.env:=by rfl) (hpl:(backTo pos (starEach es X.env)).any (·.1)=false:=by rfl):GE X B fl (.Call (.Name x p') (e::es) [] pos) (aG fa tH) true 3:=by
 subst hx;refine bI (kD (SU hc) hg hm PyProof.Rows.boot_sum ha (by decide) (by decide) he hpl) ?_;rintro σ H Q ⟨Ex,ρ,M,t,S,hf,q⟩;obtain⟨ts,hts,hf⟩:=bind_some hf;refine⟨Ex,ρ,M,ts,S,hts,fun vs H1 s1 r1=>?_⟩
 match ts,hf with
 | [.lst us],hf=>
  have hf:(bX us).map (fun ns=>T.int ns.sum)=some t:=hf;cases ea:bX us with
  | none=>rw[ea] at hf;cases hf
  | some ns=>
   rw[ea] at hf;cases (aIz hf);cases jN ea;obtain⟨y,rfl,ry⟩:=eG r1;obtain⟨p,xs,rfl,h1,h2⟩:=ry.sqL;cases kG h2;exact⟨p,ns,rfl,h1,q _ H1 s1 ((aN.scal rfl).mpr rfl)⟩
theorem BA (hx:x = "all") (hc:X.calm=true) (hg:Gl X x) (hm:X.mg x=none) (ha:GA X B fl (e::es) fa l)
  (he:starEach (e::es) X.env=(false,eval e X.env)::starEach es X.env:=by rfl) (hpl:(backTo pos (starEach es X.env)).any (·.1)=false:=by rfl):GE X B fl (.Call (.Name x p') (e::es) [] pos) (aG fa qW) true 3:=by
 subst hx;refine bI (kD (SO hc) hg hm (by decide +kernel) ha (by decide) (by decide) he hpl) ?_;rintro σ H Q ⟨Ex,ρ,M,t,S,hf,q⟩;obtain⟨ts,hts,hf⟩:=bind_some hf;refine⟨Ex,ρ,M,ts,S,hts,fun vs H1 s1 r1=>?_⟩
 match ts,hf with
 | [.lst us],hf=>
  have hf:(gI us).map (fun ns=>T.bl (ns.all id))=some t:=hf;cases ea:gI us with
  | none=>rw[ea] at hf;cases hf
  | some ns=>
   rw[ea] at hf;cases (aIz hf);cases FM ea;obtain⟨y,rfl,ry⟩:=eG r1;obtain⟨p,xs,rfl,h1,h2⟩:=ry.sqL;cases MI h2;exact⟨p,ns,rfl,h1,q _ H1 s1 ((aN.scal rfl).mpr rfl)⟩
def sY:List T->Option T
 | [.int i,.int j]=>some (.int (if j<i then j else i))
 | _=>none
theorem IE (hx:x = "min") (hc:X.calm=true) (hg:Gl X x) (hm:X.mg x=none) (ha:GA X B fl (e::es) fa l)
  (he:starEach (e::es) X.env=(false,eval e X.env)::starEach es X.env:=by rfl) (hpl:(backTo pos (starEach es X.env)).any (·.1)=false:=by rfl):GE X B fl (.Call (.Name x p') (e::es) [] pos) (aG fa sY) true 3:=by
 subst hx;refine bI (kD (SR hc) hg hm PyProof.Rows.boot_min ha (by decide) (by decide) he hpl) ?_;rintro σ H Q ⟨Ex,ρ,M,t,S,hf,q⟩;obtain⟨ts,hts,hf⟩:=bind_some hf;refine⟨Ex,ρ,M,ts,S,hts,fun vs H1 s1 r1=>?_⟩
 match ts,hf with
 | [.int i,.int j],hf=>
  cases (aIz hf);obtain⟨y,r,e,ry,h2⟩:=r1;obtain⟨y2,rfl,ry2⟩:=eG h2;subst e;cases (show _=_ from ry);cases (show _=_ from ry2);exact⟨i,j,rfl,q _ H1 s1 ((aN.scal rfl).mpr rfl)⟩
end
theorem LC (ns:List Int):tH [.lst (tI ns)]=some (.int ns.sum):=by simp[tH,mM]
theorem CO (ns:List Bool):qW [.lst (G.tB ns)]=some (.bl (ns.all id)):=by simp[qW,FN]
def bF:Out->Option T
 | .rt t=>some t
 | .nx _=>some .non
 | _=>none
def Fof (np k:Nat) (run:Rho->Option Out) (ts:List T):Option T:=if ts.length=np then (run (ts.map some++List.replicate k none)).bind bF else none
theorem bB {np k:Nat}{run:Rho->Option Out}{ts:List T}{t:T}(h:Fof np k run ts=some t):ts.length=np:=by
 unfold Fof at h;split at h
 ·assumption
 ·cases h
theorem bC {np k:Nat}{run:Rho->Option Out}{ts:List T}{t:T}(h:Fof np k run ts=some t):∃ o,run (ts.map some++List.replicate k none)=some o/\rW o t:=by
 unfold Fof at h;split at h
 ·obtain⟨o,e,h⟩:=bind_some h
  refine⟨o,e,?_⟩;cases o with
  | rt u=>exact aIz h
  | nx _=>exact (aIz h).symm
  | bk _=>cases h
  | ct _=>cases h
 ·cases h
@[simp] theorem outT_rt (t:T):bF (.rt t)=some t:=rfl
@[simp] theorem outT_nx (ρ:Rho):bF (.nx ρ)=some .non:=rfl
def tU:Rho->Option Out:=fun _=>none
@[simp] theorem rNone_at (ρ:Rho):tU ρ=none:=rfl
theorem BQ {X:Cx}{B:Hp}{fl:List Nat}{n:Bool}{l:Nat}{st:Stmt}:GS X B fl n l st tU:=fun pins s σ H D I h=>by
 obtain⟨_,_,_,_,_,h,_⟩:=h;cases h
def tGR (K:PySem.W.Frag) (B:Hp) (fl:List Nat) (f:Rho->Option T) (n:Bool) (l:Nat):TE:=fun σ H Q=>
 ∃ Ex ρ M t,Sl K B fl Ex σ ρ M H/\f ρ=some t/\∀ v H',aO H H'->RtX K B H' n l t v->Q v H'
def GR (X:Cx) (B:Hp) (fl:List Nat) (e:Expr) (f:Rho->Option T) (n:Bool) (l:Nat):Prop:=PE X e (tGR X.K B fl f n l)
def aFm (K:PySem.W.Frag) (B:Hp) (fl:List Nat) (f:Rho->Option (List T)) (l:Nat):TA:=fun σ H Q=>
 ∃ Ex ρ M ts,Sl K B fl Ex σ ρ M H/\f ρ=some ts/\∀ vs H',aO H H'->RepL K H' (Ad B B [] l) ts vs->Q vs H'
def GRA (X:Cx) (B:Hp) (fl:List Nat) (es:List Expr) (f:Rho->Option (List T)) (l:Nat):Prop:=PA X es (aFm X.K B fl f l)
def gL (i:Nat):Rho->Option T:=fun ρ=>(aA i ρ).bind fun t=>match t with | .lst ts=>if bU ts then some (.lst ts) else none | _=>none
@[simp] theorem fMut_at (i:Nat) (ρ:Rho):gL i ρ=(aA i ρ).bind fun t=>match t with | .lst ts=>if bU ts then some (.lst ts) else none | _=>none:=rfl
section
variable {X:Cx}{B:Hp}{fl:List Nat}{a b c e:Expr}{es:List Expr}{f g:Rho->Option T}{fa:Rho->Option (List T)}{p:Rho->Option Bool}{n n':Bool}{l l':Nat}{pos pos':Pos}{x:Str}
theorem bA (he:GE X B fl e f n' l') (h:((!n||n')&&(decide (l=0)||decide (2<=l'))&&decide (l≠4))=true):GR X B fl e f n l:=by
 refine bI he ?_;rintro σ H Q ⟨Ex,ρ,M,t,S,e1,q⟩;rw[aJc] at h;refine⟨Ex,ρ,M,t,S,e1,fun v H1 s1 rx=>q v H1 s1 ((RtX.of (of_decide_eq_true h.2)).mpr (aEg S ?_ rx))⟩;have h:=h.1;cases n<;>cases n'<;>simp at h ⊢<;>exact h
theorem mU (i:Nat) (hN:X.N[i]?=some x:=by rfl) (hv:Vis X.env.scope x:=by first | exact Or.inl rfl | exact Or.inr (Or.inl rfl) | exact Or.inr (Or.inr rfl)) (h4:(decide (fl.getD i 1=0)&&decide (l≠4))=true:=by rfl) (hd:(x == ("__debug__" : Str))=false:=by decide)
  (hcd:(x == ("__classdict__" : Str))=false:=by decide):GR X B fl (.Name x pos') (gL i) n l:=by
 have h4:=aJd.mp h4;have h0:fl.getD i 1=0:=of_decide_eq_true h4.1;refine bI (pv (X:=X) i hN hv hd hcd) ?_;rintro σ H Q ⟨Ex,ρ,M,t,S,hr,q⟩;obtain⟨t',e1,hr⟩:=bind_some hr;cases t'<;>first | (cases hr;done) | skip
 dsimp only at hr;split at hr
 ·rename_i hfl
  cases (aIz hr);obtain⟨a,ts,xs,e2,e3,e4,e5,e6⟩:=S.muL i _ (jS e1) h0;cases e2;refine⟨_,e3,q _ H (aO.refl H) ((RtX.of (of_decide_eq_true h4.2)).mpr ?_)⟩;cases n with
  | true=>exact⟨a,xs,rfl,(S.mB a e6).1,e4,yI hfl e5⟩
  | false=>exact⟨a,xs,rfl,.inl ⟨⟨fun _ z=>by simp at z,fun _=>(S.mB a e6).1,fun _=>(S.mB a e6).1⟩,.inl e4⟩,yI hfl e5⟩
 ·cases hr
def AS (i:Nat):Rho->Option T:=fun ρ=>(aA i ρ).bind fun t=>match t with | .lst ts=>some (.lst ts) | _=>none
@[simp] theorem fMutD_at (i:Nat) (ρ:Rho):AS i ρ=(aA i ρ).bind fun t=>match t with | .lst ts=>some (.lst ts) | _=>none:=rfl
theorem XM (i:Nat) (hN:X.N[i]?=some x:=by rfl) (hv:Vis X.env.scope x:=by first | exact Or.inl rfl | exact Or.inr (Or.inl rfl) | exact Or.inr (Or.inr rfl)) (h4:(decide (fl.getD i 1=0)&&(decide (l≠4)&&(decide (lc fl=2)||decide (l<=1))))=true:=by rfl) (hd:(x == ("__debug__" : Str))=false:=by decide)
  (hcd:(x == ("__classdict__" : Str))=false:=by decide):GR X B fl (.Name x pos') (AS i) n l:=by
 have h4:=aJd.mp h4;have h0:fl.getD i 1=0:=of_decide_eq_true h4.1;have h42:=aJd.mp h4.2;have lcp:=fK fl;have h43:lc fl=2\/l<=1:=(Bool.or_eq_true_iff.mp h42.2).imp of_decide_eq_true of_decide_eq_true;refine bI (pv (X:=X) i hN hv hd hcd) ?_;rintro σ H Q ⟨Ex,ρ,M,t,S,hr,q⟩;obtain⟨t',e1,hr⟩:=bind_some hr;cases t'<;>first | (cases hr;done) | skip
 cases (aIz hr);obtain⟨a,ts,xs,e2,e3,e4,e5,e6⟩:=S.muL i _ (jS e1) h0;cases e2;refine⟨_,e3,q _ H (aO.refl H) ((RtX.of (of_decide_eq_true h42.1)).mpr ?_)⟩;have w:∀ b,Ad B H M (lc fl) b->Ad B B [] l b:=fun b x=>⟨fun _ z=>by simp at z,fun z=>x.2.1 (by lia),fun z=>x.2.1 (by lia)⟩;cases n with
 | true=>exact⟨a,xs,rfl,(S.mB a e6).1,e4,e5.weak fun b x=>⟨w b x,fun z=>x.1 (by lia) (by rw[z];exact e6)⟩⟩
 | false=>exact⟨a,xs,rfl,.inl ⟨⟨fun _ z=>by simp at z,fun _=>(S.mB a e6).1,fun _=>(S.mB a e6).1⟩,.inl e4⟩,e5.weak w⟩
theorem aN.any {K:PySem.W.Frag}{H':Hp}{t:T}{v:V}(h:aN K B B [] H' n l t v):Rep K H' (Ad B B [] l) t v:=by
 cases n with
 | false=>cases t<;>exact h
 | true=>
  cases t with
  | lst ts=>
   obtain⟨a,xs,e,h1,h2,r⟩:=h;exact⟨a,xs,e,.inl ⟨⟨fun _ z=>by simp at z,fun _=>h1,fun _=>h1⟩,.inl h2⟩,r.weak fun b x=>x.1⟩
  | non=>exact h
  | bl _=>exact h
  | int _=>exact h
  | str _=>exact h
  | tup _=>exact h
  | exc _=>exact h
  | dct _=>exact h
  | own _=>exact h
theorem BO:GRA X B fl [] aE l:=tM nD fun σ H Q ⟨Ex,ρ,M,ts,S,hf,q⟩=>q _ H (aO.refl H) (by cases (aIz hf);rfl)
theorem mV (ha:GR X B fl e f false l) (hr:GRA X B fl es fa l) (hs:starEach (e::es) X.env=(false,eval e X.env)::starEach es X.env:=by rfl) (h4:(l == 4)=false:=by rfl):GRA X B fl (e::es) (aC f fa) l:=by
 refine tM (jF ha hr hs) ?_;rintro σ H Q ⟨Ex,ρ,M,ts,S,hf,q⟩;obtain⟨x,hx,hf⟩:=bind_some hf;obtain⟨xs,hxs,hf⟩:=bind_some hf;cases (aIz hf);exact⟨Ex,ρ,M,x,S,hx,fun v H1 s1 r1=>⟨Ex,ρ,M,xs,S.grow s1,hxs,fun vs H2 s2 r2=>q _ H2 (s1.trans s2) ⟨v,vs,rfl,((RtX.of (by simpa using h4)).mp r1).any.grow s2,r2⟩⟩⟩
theorem BN {k:Nat}(ha:GRA X B fl es fa l) (h4:(l == 4)=false:=by rfl):GR X B fl (.Tuple es k pos) (dM fa) n l:=by
 refine bI (LR ha) ?_;rintro σ H Q ⟨Ex,ρ,M,t,S,hf,q⟩;obtain⟨ts,hts,hf⟩:=bind_some hf;split at hf
 ·rename_i hl
  cases (aIz hf);refine⟨Ex,ρ,M,ts,S,hts,fun vs H1 s1 r1=>⟨by rw[<- r1.length];exact aL7 (gJ hl),fun p hp=>q _ _ (s1.trans (dZ hp _)) ((RtX.of (by simpa using h4)).mpr ?_)⟩⟩;have z:Rep X.K (upd H1 p (.tup vs)) (Ad B B [] l) (.tup ts) (.ref p):=⟨p,vs,rfl,.inl (.inl dA),r1.grow (dZ hp _)⟩;cases n<;>exact z
 ·cases hf
theorem bZ.grow {K:PySem.W.Frag}{H M H' H''}(s:aO H' H''):∀ {ts:List T}{xs:List V},bZ K B H M H' ts xs->bZ K B H M H'' ts xs
 | [],_,h=>h
 | _::ts,_,⟨x,r,e,h1,h2,h3⟩=>⟨x,r,e,h1,h2.grow s,bZ.grow s h3⟩
theorem bZ.length {K:PySem.W.Frag}{H M H'}:∀ {ts:List T}{xs:List V},bZ K B H M H' ts xs->ts.length=xs.length
 | [],_,h=>by cases (show _=[] from h);rfl
 | _::ts,_,⟨x,r,e,h1,h2,h3⟩=>by subst e;simp[bZ.length h3]
theorem bZ.rep {K:PySem.W.Frag}{H'}:∀ {ts:List T}{xs:List V},bZ K B B [] H' ts xs->RepL K H' (Ad B B [] 3) ts xs
 | [],_,h=>h
 | _::ts,_,⟨x,r,e,h1,h2,h3⟩=>⟨x,r,e,h2.any,bZ.rep h3⟩
theorem wL.rep {K:PySem.W.Frag}{H'}{t:T}{v:V}(h:wL K B B [] H' t v):aN K B B [] H' n 3 t v:=by
 obtain⟨p,ts,xs,rfl,rfl,h1,h2,_⟩:=h;have z:Rep K H' (Ad B B [] 3) (.tup ts) (.ref p):=⟨p,xs,rfl,.inl h1,h2.rep⟩;cases n<;>exact z
def RW (f:Rho->Option T) (g:Rho->Option (List T)):Rho->Option (List T):=fun ρ=>(f ρ).bind fun x=>if okO x then (g ρ).bind fun y=>some (x::y) else none
@[simp] theorem aConsO_at (f:Rho->Option T) (g:Rho->Option (List T)) (ρ:Rho):RW f g ρ=(f ρ).bind fun x=>if okO x then (g ρ).bind fun y=>some (x::y) else none:=id rfl
@[simp] theorem okO_lst (ts:List T):okO (.lst ts)=true:=id rfl
@[simp] theorem okO_int (i:Int):okO (.int i)=true:=id rfl
@[simp] theorem okO_str (i:Str):okO (.str i)=true:=id rfl
theorem Sl.there {K:PySem.W.Frag}{H:Hp}{Ex:List (T × V)}{σ:St}{ρ:Rho}{M:List Addr}(S:Sl K B fl Ex σ ρ M H) {j:Nat}{ws:List T}{a:Addr}(h1:ρ[j]?=some (some (.lst ws))) (h2:fl.getD j 1=0) (h3:σ[j]?=some (some (.ref a))):H a≠none:=by
 obtain⟨b,ts,xs,_,e1,e2,_⟩:=S.muL j ws h1 h2;rw[e1] at h3;cases (aIz (aIz h3));rw[e2];simp
theorem aY (he:GR X B fl e f n l):GS X B fl n l (.Return (some e) pos) (aU f):=by
 refine dP (aDd he) ?_;rintro D σ H ⟨Ex,ρ,M,o,S,hr,q⟩;unfold aU at hr;cases e1:f ρ with
 | none=>rw[e1] at hr;cases hr
 | some t=>
  rw[e1] at hr;cases (aIz hr);exact⟨Ex,ρ,M,t,S,e1,fun v H1 s1 rx=>q v H1 (S.same.trans s1) rx⟩
end
@[simp] theorem forT_nil (j:Nat) (body:Rho->Option Out) (ρ:Rho):bO j body [] ρ=some (.nx ρ):=rfl
theorem sH (j:Nat) (body:Rho->Option Out) (t:T) (ts:List T) (ρ:Rho):bO j body (t::ts) ρ =
 (body (ρ.set j (some t))).bind fun o=>match o with | .nx ρ'=>bO j body ts ρ' | .ct ρ'=>bO j body ts ρ' | .bk ρ'=>some (.nx ρ') | .rt t=>some (.rt t):=rfl
theorem aA5 {i j:Int}(h:i.natAbs<2^64):fN i j=true:=by unfold fN;rw[decide_eq_true h];rfl
theorem aA7 {i j:Int}(h:j.natAbs<2^64):fN i j=true:=by unfold fN;rw[decide_eq_true h];simp
theorem kB {i j:Int}(n m:Nat) (h:i.natAbs<2^n) (h':j.natAbs<2^m) (hn:n<=1048576) (hm:m<=1048576):fN i j=true:=by
 have a:Builtin.Int.intBits i<=2^20:=aL9 (intBits_le h) hn;have b:Builtin.Int.intBits j<=2^20:=aL9 (intBits_le h') hm;unfold fN;rw[decide_eq_true a,decide_eq_true b];simp
theorem xT {i j:Int}(h:i.natAbs<2^64):bG (.int i) (.int j)=some (.int (i*j)):=jE (aA5 h)
theorem sZ {i j:Int}(h:j.natAbs<2^64):bG (.int i) (.int j)=some (.int (i*j)):=jE (aA7 h)
theorem xH {n:Nat}{i:Int}(h0:0<=i) (h:i<n):ixN n i=some i.toNat:=by unfold ixN;rw[if_pos h0,if_pos h]
theorem zN (ns:List Int) (j:Nat) (x:Int):(tI ns).set j (.int x)=tI (ns.set j x):=by unfold tI;rw[List.map_set]
theorem NP (ns:List Int) (j:Nat):(tI ns)[j]?=(ns[j]?).map T.int:=by unfold tI;rw[aKa]
theorem rZ {ns:List Int}{i:Int}(h0:0<=i) (h:i<ns.length):atI (tI ns) i=some (.int (ns.getD i.toNat 0)):=by
 have hl:i.toNat<ns.length:=by lia
 rw[SG,SE h0 h,aJ0,aJ1 hl];rfl
theorem eA {ns:List Int}{i:Nat}(h:i<ns.length):atI (tI ns) (i:Int)=some (.int (ns.getD i 0)):=by
 rw[rZ (by lia) (by lia)];simp
theorem CS {i j:Int}(h0:i.natAbs<2^62) (h:j.natAbs<2^62):gQ [.int i,.int j]=some (rangeT i (j-i).toNat):=by
 unfold gQ;dsimp only;rw[if_pos ⟨h0,h⟩]
theorem nG (lo:Int) (n:Nat):(rangeT lo n).length=n:=by simp[rangeT]
theorem DH {lo:Int}{n i:Nat}(h:i<(rangeT lo n).length):(rangeT lo n)[i]=.int (lo+i):=by simp[rangeT]
theorem TH {f:Rho->Option T}{ρ:Rho}{lo:Int}{n:Nat}(h:Nat->Int) (h2:∀ i,i<n->f (ρ.set 0 (some (.int (lo+i))))=some (.int (h i))):bL aR f ρ (rangeT lo n)=some (tI ((List.range n).map h)):=by
 rw[TM (fun i=>.int (h i)) h2];simp[tI]
theorem AG {f:Rho->Option T}{ρ:Rho}{ns:List Int}(h:Int->Int) (h2:∀ i∈ns,f (ρ.set 0 (some (.int i)))=some (.int (h i))):bL aR f ρ (tI ns)=some (tI (ns.map h)):=by
 rw[qL (fun t=>match t with | .int i=>.int (h i) | t=>t) (tI ns) (fun t ht=>by
  unfold tI at ht;obtain⟨i,hi,rfl⟩:=aKw.mp ht;exact h2 i hi)]
 simp[tI]
@[simp] theorem gScal_int' (i:Int):aZ (.int i)=some (.int i):=rfl
@[simp] theorem flat_tI' (ns:List Int):bU (tI ns)=true:=AW ns
theorem rA (i:Int) (j:Nat) (h:decide ((Builtin.Int.intBits i:Int)*(j:Int)<=2^27)=true):dX (.int i) (.int (j:Int))=some (.int (i^j)):=by
 unfold dX;simp only[oI_int];rw[if_pos (by simpa using h)];simp
theorem aEb {n i:Nat}(h:i<(rangeT 0 n).length):(rangeT 0 n)[i]=.int (i:Int):=by simp[rangeT]
theorem GP {f:Rho->Option T}{ρ:Rho}{n:Nat}(h:Nat->Int) (h2:∀ i,i<n->f (ρ.set 0 (some (.int (i:Int))))=some (.int (h i))):bL aR f ρ (rangeT 0 n)=some (tI ((List.range n).map h)):=
 TH h fun i hi=>by rw[Int.zero_add];exact h2 i hi
theorem mQ {j n:Nat}{body:Rho->Option Out}(I:Nat->Rho->Prop) (h:∀ i,i<n->∀ ρ,I i ρ->∃ ρ',body (ρ.set j (some (.int (i:Int))))=some (.nx ρ')/\I (i+1) ρ') (ρ:Rho) (h0:I 0 ρ):∃ ρ',bO j body (rangeT 0 n) ρ=some (.nx ρ')/\I n ρ':=by
 have:=wW (j:=j) (body:=body) I (rangeT 0 n) (fun i hi ρ hI=>by
  have hi':i<n:=by rw[nG] at hi;exact hi
  obtain⟨ρ',e,q⟩:=h i hi' ρ hI;refine⟨ρ',.inl ?_,q⟩;rw[aEb];exact e) ρ h0
 rwa [nG] at this
theorem sC (a b:Nat):Builtin.bitAnd (a:Int) (b:Int)=((a&&&b:Nat):Int):=by
 unfold Builtin.bitAnd;simp
theorem wN (a:Nat):Builtin.bitAnd (a:Int) 1=((a%2:Nat):Int):=by
 have:=sC a 1;rw[Nat.and_one_is_mod] at this;exact this
theorem AC (a b:Nat):Builtin.bitOr (a:Int) (b:Int)=((a|||b:Nat):Int):=by
 unfold Builtin.bitOr Builtin.bitAnd Builtin.bitNot;have h1:¬ (0 <= -(a:Int)-1):=by lia
 have h2:¬ (0 <= -(b:Int)-1):=by lia
 rw[decide_eq_false h1,decide_eq_false h2];show -(-(((-(-(a:Int)-1)-1).toNat|||(-(-(b:Int)-1)-1).toNat:Nat):Int)-1)-1=_;have e1:(-(-(a:Int)-1)-1).toNat=a:=by lia
 have e2:(-(-(b:Int)-1)-1).toNat=b:=by lia
 rw[e1,e2];lia
theorem xV (a b:Nat):nC (.int (a:Int)) (.int (b:Int))=some (.int ((a / 2^b:Nat):Int)):=by
 rw[aAj (by lia)];simp
theorem aAi {a b:Nat}(h:a<2^64) (h2:b<=1000000):eE (.int (a:Int)) (.int (b:Int))=some (.int ((a*2^b:Nat):Int)):=by
 rw[aAh (by lia) (by lia) (by lia)];simp
theorem nB {b:Nat}(h2:b<=1000000):eE (.int 1) (.int (b:Int))=some (.int ((2^b:Nat):Int)):=by
 have:=aAi (a:=1) (b:=b) (by decide) h2;rw[Nat.one_mul] at this;exact this
theorem LV {α:Type}(xs:List α) (a:Nat):∀ k,((List.range k).map (a + ·)).filterMap (xs[·]?)=(xs.drop a).take k
 | 0=>by simp
 | k+1=>by
  rw[List.range_succ,List.map_append,List.filterMap_append,LV xs a k,List.take_add_one]
  congr 1
  simp only[aKo,aKq,aK0,List.filterMap_nil,List.getElem?_drop];cases xs[a+k]?<;>rfl
theorem NC {α:Type}(xs:List α) (lo hi:Option Int):cC xs lo hi none=(xs.drop (lo.elim 0 (clipAt xs.length))).take ((hi.elim xs.length (clipAt xs.length))-(lo.elim 0 (clipAt xs.length))):=by
 unfold cC;rw[sliceBounds_plain,sliceRange_one,LV]
theorem SZ {n:Nat}{i:Int}(h:0<=i):clipAt n i=min i.toNat n:=by unfold clipAt;lia
theorem aF7 {α:Type}(xs:List α) {i:Int}(h:0<=i):cC xs (some i) none none=xs.drop i.toNat:=by
 rw[NC];simp only[Option.elim,SZ h];rw[List.take_of_length_le (by simp)]
 by_cases h':i.toNat<=xs.length
 ·rw[Nat.min_eq_left h']
 ·rw[Nat.min_eq_right (by lia),List.drop_eq_nil_of_le (aL8 _),List.drop_eq_nil_of_le (by lia)]
def dC {α:Type} (xs:List α) (i:Int) (y:α):List α:=xs.take (min i.toNat xs.length)++y::xs.drop (min i.toNat xs.length)
def aDx:V->List V->Hp->VK->Prop:=fun x vs H Q=>∃ l xs i y,x=.ref l/\vs=[.int i,y]/\H l=some (.lst xs)/\0<=i/\i<2^63/\xs.length<sizeLine/\Q .non (upd H l (.lst (dC xs i y)))
theorem aGn {xs:List V}{us:List Value}(h:aI xs us):∀ n,aI (xs.take n) (us.take n):=by
 induction h with
 | nil=>intro n;simp;exact .nil
 | cons r t ih=>
  intro n;cases n with
  | zero=>exact .nil
  | succ n=>exact .cons r (ih n)
theorem aGm {xs:List V}{us:List Value}(h:aI xs us):∀ n,aI (xs.drop n) (us.drop n):=by
 induction h with
 | nil=>intro n;simp;exact .nil
 | cons r t ih=>
  intro n;cases n with
  | zero=>exact .cons r t
  | succ n=>exact ih n
theorem aA4 {X:Cx}:MtM X "list.insert" aDx:=by
 intro pins s σ H x vs v us Q I rx rv h;obtain⟨l,xs,i,y,rfl,rfl,hH,h0,h1,hz,q⟩:=h;cases rx;obtain⟨u1,u,rfl,r1,ru⟩:=rv.two;obtain⟨tk,rfl⟩:=r1;obtain⟨z,its,n,r,hl,e⟩:=I.lstM hH;refine call_meets PySem.F.slot_list_insert ⟨_,e,rfl⟩ PySem.F.entry_list_insert (PySem.F.args_list_insert_3 _ _ _) (PySem.AutoListH.list_insert_list_int_val_1 l its.toArray n i tk u (by unfold Builtin.List.listFitsIndex;simp;lia) (by rw[aJ8];lia)) ⟨e,?_⟩;refine⟨.non,_,I.lset (its':=dC its i u) hH e ?_ ?_ ?_,rfl,q⟩
 ·unfold dC
  have h0':¬ i<0:=by lia
  simp[h0'];exact List.take_of_length_le (by simp)
 ·unfold dC
  rw[hl];exact (aGn r _).append (.cons ru (aGm r _))
 ·unfold dC;simp;lia
def DF (i:Nat) (fk f:Rho->Option T):Rho->Option Out:=fun ρ=>(aA i ρ).bind fun t=>(fk ρ).bind fun k=>(f ρ).bind fun x=>match t,k with | .lst ts,.int j=>if ts.length<cap/\0<=j/\j<2^63 then some (.nx (ρ.set i (some (.lst (dC ts j x))))) else none | _,_=>none
@[simp] theorem rIns_at (i:Nat) (fk f:Rho->Option T) (ρ:Rho):DF i fk f ρ=(aA i ρ).bind fun t=>(fk ρ).bind fun k=>(f ρ).bind fun x=>match t,k with | .lst ts,.int j=>if ts.length<cap/\0<=j/\j<2^63 then some (.nx (ρ.set i (some (.lst (dC ts j x))))) else none | _,_=>none:=rfl
theorem aEd {K:PySem.W.Frag}{H:Hp}{A:Addr->Prop}{ts:List T}{xs:List V}{t:T}{x:V}(h:RepL K H A ts xs) (r:Rep K H A t x) (i:Int):RepL K H A (dC ts i t) (dC xs i x):=by
 unfold dC;rw[h.length];exact RepL.app (h.take _) ⟨x,_,rfl,r,h.drop _⟩
section
variable {X:Cx}{B:Hp}{fl:List Nat}{e k:Expr}{f fk:Rho->Option T}{n n' nk:Bool}{l l' lk:Nat}{pos pos':Pos}{x:Str}
theorem XQ (i:Nat) {apos p2:Pos}(hk:GE X B fl k fk nk lk) (he:GE X B fl e f n' l') (h1:(decide (fl.getD i 1=0)&&decide (lc fl<=l'))=true) (hN:X.N[i]?=some x:=by rfl) (hv:Vis X.env.scope x:=by first | exact Or.inl rfl | exact Or.inr (Or.inl rfl) | exact Or.inr (Or.inr rfl))
  (hd:(x == ("__debug__" : Str))=false:=by decide) (hcd:(x == ("__classdict__" : Str))=false:=by decide)
  (hbase:attributeBase (.Name x p2) "insert" X.env (eval (.Name x p2) X.env)=eval (.Name x p2) X.env:=by rfl)
  (hfew:((backTo pos' (starEach [k,e] X.env)).all (fun x=>!x.1)&&(backToKw pos' (keywordEach [] X.env)).all (fun x=>x.1.isSome)
   && decide (([k,e]:List Expr).length+([]:List Keyword).length+(if ([]:List Keyword).isEmpty then 0 else 1)<30))=true:=by rfl)
  (hline:(apos.endLine == pos'.line)=true:=by rfl) (hs:starEach [k,e] X.env=(false,eval k X.env)::starEach [e] X.env:=by rfl) (hs2:starEach [e] X.env=[(false,eval e X.env)]:=by rfl) (hpl:(backTo pos' (starEach [e] X.env)).any (·.1)=false:=by rfl) (hsw:swapsWith (.Call (.Attribute (.Name x p2) "insert" apos) [k,e] [] pos') none pos.line X.env=pure false:=by rfl):
  GS X B fl n l (.Expr (.Call (.Attribute (.Name x p2) "insert" apos) [k,e] [] pos') pos) (DF i fk f):=by
 simp only[aJc,decide_eq_true_eq] at h1;refine dP (yD (yA PySem.F.plainAttrs_list PySem.F.slot_list_insert PySem.F.type_list_insert aA4 (pv (X:=X) i hN hv hd hcd) (jF hk (jF he nD hs2) hs) hbase hfew hline hs hpl) hsw) ?_;rintro D σ H ⟨Ex,ρ,M,o,S,hr,q⟩;obtain⟨t,e1,hr⟩:=bind_some hr;obtain⟨j,e0,hr⟩:=bind_some hr;obtain⟨y,e2,hr⟩:=bind_some hr;cases t<;>first | (cases hr;done) | skip
 cases j<;>first | (cases hr;done) | skip
 dsimp only at hr;split at hr
 ·rename_i hl
  cases (aIz hr);have e1':=jS e1;have lcl:=jB fl;have lcp:=fK fl;obtain⟨a,ts,xs,e3,e4,e5,e6,e7⟩:=S.muL i _ e1' h1.1;cases e3;refine⟨_,e4,.inl ⟨rfl,xs,SqL.of e5⟩,?_⟩;refine⟨Ex,ρ,M,_,S,e0,fun v0 H0 s0 r0=>?_⟩;cases (aN.scal rfl).mp r0;have S0:=S.grow s0;refine⟨Ex,ρ,M,y,S0,e2,fun v H1 s1 rx=>?_⟩;refine⟨a,xs,_,v,rfl,rfl,s1 _ _ (s0 _ _ e5),hl.2.1,hl.2.2,by rw[<- e6.length];exact gJ (aL7 hl.1),?_⟩;refine q σ M _ ((S0.grow s1).write h1.1 e1' e4 e7 (s1 _ _ (s0 _ _ e5)) (aEd (((e6.grow s0).grow s1).weak fun b x=>x.any (by lia)) ((rx.rep S0).weak fun b x=>?_) _));exact⟨fun z=>x.1 (by lia),fun z=>x.2.1 (by lia),fun z=>by lia⟩
 ·cases hr
end
theorem JJ:∀ {ns:List Int}{us:List Value},aI (ns.map V.int) us->IntsAre us ns
 | [],_,h=>by cases h;exact .nil
 | n::ns,_,h=>by
  cases h with
  | cons r t=>
   obtain⟨k,rfl⟩:=r;exact .cons n k (JJ t)
theorem aA3 {X:Cx}:MtR X "list.index" (fun x xs H Q=>∃ (a:Addr) (ns:List Int) (k:Int),x=.ref a/\xs=[.int k]/\SqL X.K H a (ns.map V.int)/\k∈ns/\Q (.int (ns.idxOf k:Nat)) H):=by
 intro pins s σ H x xs v us Q I rx rv h;obtain⟨a,ns,k,rfl,rfl,hS,hk,q⟩:=h;cases rx;obtain⟨u,rfl,ru⟩:=rv.one;obtain⟨t,rfl⟩:=ru;obtain⟨its,r,p,hz⟩:=I.list hS;have hi:=JJ r;have hlen:=hi.length;have hj:ns.idxOf k<ns.length:=List.idxOf_lt_length_iff.mpr hk;have hz':ns.length<=sizeLine:=by simpa using hz
 rw[sizeLine_eq] at hz';obtain⟨⟨cls,dd,data,sl⟩,ho,hc,n,hd⟩:=p.isList;simp only at hc hd;subst hc hd;refine call_meets PySem.F.slot_list_index ⟨_,ho,rfl⟩ PySem.F.entry_list_index (PySem.F.args_list_index_2 _ _)
  (PySem.SeqAt.list_indexAt a its.toArray n dd sl (.int k t) (isInt k) (ns.idxOf k) (by simpa [hlen] using hj) (by lia) ?_ ?_) ⟨ho,fun y hy=>(eq_isInt k t hi y (by simpa using hy)).at _ _,⟨.int _,H,I.tok _,⟨_,rfl⟩,q⟩⟩
 ·show isInt k its[ns.idxOf k]=true
  rw[isInt_at k hi _ (by lia) hj]
  simpa using List.getElem_idxOf hj
 ·intro j hjs hlt
  show isInt k its[j]=false;rw[isInt_at k hi j (by simpa using hjs) (by lia)];exact ne_of_lt_idxOf hlt _
def xQ:T->T->Option T
 | .lst ts,.int k=>(bX ts).bind fun ns=>if k∈ns then some (.int (ns.idxOf k:Nat)) else none
 | _,_=>none
theorem aAb {ns:List Int}{k:Int}(h:k∈ns):xQ (.lst (tI ns)) (.int k)=some (.int (ns.idxOf k:Nat)):=by simp[xQ,mM,h]
theorem WV {X:Cx}{B:Hp}{fl:List Nat}{o e:Expr}{f g:Rho->Option T}{n n':Bool}{l l':Nat}{apos pos:Pos}(ho:GE X B fl o f n l) (he:GE X B fl e g n' l')
  (hbase:attributeBase o "index" X.env (eval o X.env)=eval o X.env:=by rfl)
  (hfew:((backTo pos (starEach [e] X.env)).all (fun x=>!x.1)&&(backToKw pos (keywordEach [] X.env)).all (fun x=>x.1.isSome)
   && decide (([e]:List Expr).length+([]:List Keyword).length+(if ([]:List Keyword).isEmpty then 0 else 1)<30))=true:=by rfl)
  (hline:(apos.endLine == pos.line)=true:=by rfl) (hs:starEach [e] X.env=[(false,eval e X.env)]:=by rfl):GE X B fl (.Call (.Attribute o "index" apos) [e] [] pos) (f2 f g xQ) true 3:=by
 refine bI (yA PySem.F.plainAttrs_list PySem.F.slot_list_index PySem.F.type_list_index aA3 ho (jF he nD hs) hbase hfew hline hs rfl) ?_;rintro σ H Q ⟨Ex,ρ,M,t,S,hf,q⟩;obtain⟨x,hx,hf⟩:=bind_some hf;obtain⟨y,hy,hf⟩:=bind_some hf;cases x<;>first | (cases y<;>cases hf;done) | skip
 cases y<;>first | (cases hf;done) | skip
 rename_i us _ k;obtain⟨ns,ea,hg⟩:=bind_some (show ((bX us).bind fun ns=>if k∈ns then some (T.int (ns.idxOf k:Nat)) else none)=some t from hf);cases jN ea
 by_cases hk:k∈ns
 ·rw[if_pos hk] at hg
  cases (aIz hg);refine⟨Ex,ρ,M,_,S,hx,fun v H1 s1 rx=>?_⟩;obtain⟨p,xs,rfl,h1,h2⟩:=(rx.rep S).sqL;cases kG h2;refine⟨.inl ⟨rfl,_,h1⟩,Ex,ρ,M,_,S.grow s1,hy,fun v2 H2 s2 ry=>?_⟩;cases (aN.scal rfl).mp ry;have h1':SqL X.K H2 p (ns.map V.int):=by
   rcases h1 with h | h
   ·exact .inl (fO (fun o q=>s2 _ _ q) h)
   ·exact .inr h
  exact⟨p,ns,k,rfl,rfl,h1',hk,q _ _ (s1.trans s2) ((aN.scal rfl).mpr rfl)⟩
 ·rw[if_neg hk] at hg
  cases hg
section
variable {X:Cx}{pins:List (Addr × Obj)}{σ:St}{H:Hp}{s:Shared}{h':Heap}
theorem JM {t':Nat}{fs:List Addr}{T:Addr}{ys:List V}(I:Inv X pins σ H s) (hT:s.heap.objs.size<=T) (k:∀ b o,b ∉ fs->s.heap.get? b=some o->h'.get? b=some o) (hf:∀ b∈fs,fA X pins H b)
  (new:dB X.prog X.w (upd H T (.tup ys)) h' T (.tup ys)):Inv X pins σ (upd H T (.tup ys)) { s with heap:=h',toks:=t' }:=by
 have hn:H T=none:=I.hok.fresh hT;have nfs:∀ b u,H b=some u->b ∉ fs:=fun b u e z=>by rw[(hf b z).1] at e;cases e
 have nT:∀ b (o:Obj),s.heap.get? b=some o->b≠T:=fun b o e z=>absurd (aJ7 (aJj e) (by rw[z];exact hT)) (aLa _);refine I.step (g':=s.gens) (d':=s.drawn) (ch:=fs) (fun b hb=>⟨(hf b hb).2.2.2.1,(hf b hb).2.1,(hf b hb).2.2.2.2.1,(hf b hb).2.2.2.2.2⟩) (fun b o _ _ hc e _=>k b o hc e) (fun b o _ _ hc e _=>⟨o.slots,k b o hc e⟩)
  (fun b o hc e n=>by rw[aV (nT b o e)];exact n) (fun b o hc e=>⟨o,k b o hc e⟩) (fun b xs e=>by rw[aV (gA e hn)];exact e) (fun b o u e=>by rw[aV (gA e hn)];exact e) (fun b ps e=>⟨#[],by rw[aV (gA e hn),e];simp⟩) (fun m hm=>?_) (fun b u e=>?_) I.bare
 ·obtain⟨o,es,ep,ho,r⟩:=hm
  exact⟨o,es,ep,k _ o (fun z=>(hf _ z).2.1 rfl) ho,r⟩
 ·by_cases hb:b=T
  ·subst hb;rw[dA] at e;cases e;exact new
  ·rw[aV hb] at e
   refine (I.hok b u e).stay (fun c v hc q=>k c v ?_ q) (fun c q=>by rw[aV (gA q hn)];exact q) fun c xs q=>by rw[aV (gA q hn)];exact q
   rcases hc with z | z
   ·rw[z];exact nfs b u e
   ·exact nfs c _ z
theorem JL {t':Nat}{fs:List Addr}(I:Inv X pins σ H s) (k:∀ b o,b ∉ fs->s.heap.get? b=some o->h'.get? b=some o) (hf:∀ b∈fs,fA X pins H b):Inv X pins σ H { s with heap:=h',toks:=t' }:=by
 have nfs:∀ b u,H b=some u->b ∉ fs:=fun b u e z=>by rw[(hf b z).1] at e;cases e
 refine I.step (g':=s.gens) (d':=s.drawn) (ch:=fs) (fun b hb=>⟨(hf b hb).2.2.2.1,(hf b hb).2.1,(hf b hb).2.2.2.2.1,(hf b hb).2.2.2.2.2⟩) (fun b o _ _ hc e _=>k b o hc e) (fun b o _ _ hc e _=>⟨o.slots,k b o hc e⟩)
  (fun _ _ _ _ n=>n) (fun b o hc e=>⟨o,k b o hc e⟩) (fun _ _ e=>e) (fun _ _ _ e=>e) (fun b ps e=>⟨#[],by rw[e];simp⟩) (fun m hm=>?_) (fun b u e=>?_) I.bare
 ·obtain⟨o,es,ep,ho,r⟩:=hm
  exact⟨o,es,ep,k _ o (fun z=>(hf _ z).2.1 rfl) ho,r⟩
 ·refine (I.hok b u e).stay (fun c v hc q=>k c v ?_ q) (fun _ q=>q) fun _ _ q=>q
  rcases hc with z | z
  ·rw[z];exact nfs b u e
  ·exact nfs c _ z
end
def Ite (K:PySem.W.Frag) (a:Addr):It:=
 ⟨fun i H=>∃ xs x,SqL K H a xs/\xs[i]?=some x,fun i H x H'=>∃ T y,(∀ xs,SqL K H a xs->xs[i]?=some y)/\H T=none/\x=.ref T/\H'=upd H T (.tup [.int (i:Nat),y]),fun i H=>∃ xs,SqL K H a xs/\xs.length<=i⟩
theorem cP {h:Heap}{a b:Addr}{o o':Obj}(e:h.get? a=some o) (e':h.get? b=some o') (hc:o.cls≠o'.cls):a≠b:=fun z=>by
 subst z;rw[e] at e';cases e';exact hc rfl
theorem aGc {P:Program}{w:World}{K:PySem.W.Frag}{elts:List Expr}{k:Nat}{pos:Pos}(a e it:Addr) (hei:e≠it):Turn P w K (.Tuple elts k pos) (Ite K a) [e,it] e (fun i h=>(∃ old,IsEnum h e it i old)/\h.IsListIter it a i) where
 mem:=by simp
 obj:=fun i h st b hb=>by
  obtain⟨⟨old,he⟩,hit⟩:=st;rcases aJb.mp hb with rfl | hb
  ·exact⟨_,he,fun v z=>by cases (show Data.fields _=Data.cell v from z)⟩
  ·have eb:b=it:=by simpa using hb
   subst eb;obtain⟨o,q,c,d⟩:=hit;exact⟨o,q,fun v z=>by rw[d] at z;cases z⟩
 keep:=fun i h h' st kp=>by
  obtain⟨⟨old,he⟩,hit⟩:=st;exact⟨⟨old,kp e (by simp) _ he⟩,hit.at fun o q=>kp it (by simp) o q⟩
 item:=by
  intro X hP hw hK hc i pins s σ H E I hf st hg;subst hP hw hK;obtain⟨xs,x,hq,hx⟩:=hg;obtain⟨its,rv,p,hz⟩:=I.list hq;obtain⟨u,hu,ru⟩:=rv.get hx;obtain⟨⟨old,he⟩,hit⟩:=st;obtain⟨oit,eit,cit,dit⟩:=id hit;obtain⟨ol,el,cl,nl,dl⟩:=id p.isList;have hle:a≠e:=cP el he (by rw[cl];simp);have hli:a≠it:=cP el eit (by rw[cl,cit];simp);have W:=WalksT.enumerate (prog:=X.prog) (w:=X.w) (I.ok.hd hc) e it a hei hle hli its.toArray;have hi:i<its.toArray.size:=by
   have:=(aJ4.mp hu).1
   simpa using this
  refine W.item i s _ E hi ⟨⟨old,he⟩,hit,p.isList⟩ fun T vals h1 tk hPt hT hTup hMid keep1=>⟨_,rfl,?_⟩;refine W.go elts k pos i T { s with heap:=h1,toks:=tk } _ E hMid fun h2 hSt keep2=>?_;obtain⟨t,v,hv,rfl⟩:=hPt;have hvu:v=u:=by
   have:its[i]?=some v:=by simpa using hv
   rw[hu] at this;exact (aIz this).symm
  subst hvu;have hTw:=W.apart i T h1 hMid;obtain⟨oT,eT,cT,nT,dT⟩:=hTup;have eT2:h2.get? T=some oT:=keep2 T oT hTw eT;have new:dB X.prog X.w (upd H T (.tup [.int (i:Nat),x])) h2 T (.tup [.int (i:Nat),x]):=by
   refine⟨by rw[sizeLine_eq];show 2<=16777216;decide,[.int (i:Nat) t,v],.cons ⟨t,rfl⟩ (.cons ru .nil),⟨oT,eT2,cT,nT,dT⟩⟩
  have I2:Inv X pins σ (upd H T (.tup [.int (i:Nat),x])) { s with heap:=h2,toks:=tk }:=JM (fs:=[e,it]) I hT (fun b o hb q=>keep2 b o hb (keep1 b o hb q)) hf new;refine⟨.ref T,_,I2,rfl,⟨T,x,fun ys hy=>by rw[I.list_inj hy hq];exact hx,I.hok.fresh hT,rfl,rfl⟩,⟨hSt.1,hSt.2.1⟩,fun b hb=>?_⟩;rw[aV (fun z=>hTw (by rw[<- z];exact hb))];exact (hf b hb).1
 done:=by
  intro X hP hw hK hc i pins s σ H E I hf st hg;subst hP hw hK;obtain⟨xs,hq,hx⟩:=hg;obtain⟨its,rv,p,hz⟩:=I.list hq;obtain⟨⟨old,he⟩,hit⟩:=st;obtain⟨oit,eit,cit,dit⟩:=id hit;obtain⟨ol,el,cl,nl,dl⟩:=id p.isList;have hle:a≠e:=cP el he (by rw[cl];simp);have hli:a≠it:=cP el eit (by rw[cl,cit];simp);have hl:=rv.length;exact wpAny_pyNext_enum_end (I.ok.hd hc) he hit p.isList (by simp;lia) fun h' hx=>⟨rfl,JL (t':=s.toks) (fs:=[e,it]) I (fun b o hb q=>hx b o (fun z=>hb (by simp[z])) q) hf⟩
 self:=fun A i s Q E st h=>by
  obtain⟨⟨old,he⟩,hit⟩:=st;exact wpAny_pyIter_enum he h
def Itz (K:PySem.W.Frag) (a b:Addr):It:=
  ⟨fun i H=>∃ xs ys x y,SqL K H a xs/\SqL K H b ys/\xs[i]?=some x/\ys[i]?=some y,
   fun i H x H'=>∃ T y z,(∀ xs,SqL K H a xs->xs[i]?=some y)/\(∀ ys,SqL K H b ys->ys[i]?=some z)/\H T=none/\x=.ref T/\H'=upd H T (.tup [y,z]),
   fun i H=>∃ xs ys,SqL K H a xs/\SqL K H b ys/\(xs.length<=i\/ys.length<=i)⟩
structure ZA (z TI TO i1 i2:Addr):Prop where
 TIz:TI≠z
 TOz:TO≠z
 i1z:i1≠z
 i2z:i2≠z
 TITO:TI≠TO
 TIi1:TI≠i1
 TIi2:TI≠i2
 TOi1:TO≠i1
 TOi2:TO≠i2
 i12:i1≠i2
theorem aGt (n:Nat):ZA (n+4) (n+2) (n+3) n (n+1):=by
 have h:∀ a b:Nat,a<b->(a:Addr)≠b/\(b:Addr)≠a:=fun a b q=>⟨aLh q,aLg q⟩;exact⟨(h _ _ (by lia)).1,(h _ _ (by lia)).1,(h _ _ (by lia)).1,(h _ _ (by lia)).1,(h _ _ (by lia)).1,(h _ _ (by lia)).2,(h _ _ (by lia)).2,(h _ _ (by lia)).2,(h _ _ (by lia)).2,(h _ _ (by lia)).1⟩
theorem aGf {P:Program}{w:World}{K:PySem.W.Frag}{elts:List Expr}{k:Nat}{pos:Pos}(a b z TI TO i1 i2:Addr) (A0:ZA z TI TO i1 i2):Turn P w K (.Tuple elts k pos) (Itz K a b) [z,TI,TO,i1,i2] z
  (fun i h=>IsZip h z TI TO .none/\IsPair h TI (.ref i1) (.ref i2)/\(∃ a b,IsPair h TO a b)/\h.IsListIter i1 a i/\h.IsListIter i2 b i) where
 mem:=by simp
 obj:=fun i h st c hc=>by
  obtain⟨hz,hTI,⟨u,v,hTO⟩,h1,h2⟩:=st;simp only[aJb,List.mem_nil_iff,or_false] at hc;rcases hc with rfl | rfl | rfl | rfl | rfl
  ·exact⟨_,hz,fun v z=>by cases (show Data.fields _=Data.cell v from z)⟩
  ·exact⟨_,hTI,fun v z=>by cases (show Data.seq _ _=Data.cell v from z)⟩
  ·exact⟨_,hTO,fun v z=>by cases (show Data.seq _ _=Data.cell v from z)⟩
  ·obtain⟨o,q,c,d⟩:=h1
   exact⟨o,q,fun v z=>by rw[d] at z;cases z⟩
  ·obtain⟨o,q,c,d⟩:=h2
   exact⟨o,q,fun v z=>by rw[d] at z;cases z⟩
 keep:=fun i h h' st kp=>by
  obtain⟨hz,hTI,⟨u,v,hTO⟩,h1,h2⟩:=st;exact⟨kp z (by simp) _ hz,kp TI (by simp) _ hTI,⟨u,v,kp TO (by simp) _ hTO⟩,h1.at fun o q=>kp i1 (by simp) o q,h2.at fun o q=>kp i2 (by simp) o q⟩
 item:=by
  intro X hP hw hK hc i pins s σ H E I hf st hg;subst hP hw hK;obtain⟨xs,ys,x,y,hq,hq',hx,hy⟩:=hg;obtain⟨its,rv,p,hzl⟩:=I.list hq;obtain⟨its',rv',p',hzl'⟩:=I.list hq';obtain⟨u,hu,ru⟩:=rv.get hx;obtain⟨u',hu',ru'⟩:=rv'.get hy;obtain⟨hz,hTI,⟨w1,w2,hTO⟩,h1,h2⟩:=st;obtain⟨o1,e1,c1,d1⟩:=id h1;obtain⟨o2,e2,c2,d2⟩:=id h2;obtain⟨ol,el,cl,nl,dl⟩:=id p.isList;obtain⟨ol',el',cl',nl',dl'⟩:=id p'.isList;have D:ZipApart z TI TO i1 i2 a b:=⟨A0.TIz,A0.TOz,A0.i1z,A0.i2z,A0.TITO,A0.TIi1,A0.TIi2,A0.TOi1,A0.TOi2,A0.i12,
   cP el hz (by rw[cl];simp),cP el hTO (by rw[cl];simp),cP el e1 (by rw[cl,c1];simp),cP el e2 (by rw[cl,c2];simp),
   cP el' hz (by rw[cl'];simp),cP el' hTO (by rw[cl'];simp),cP el' e1 (by rw[cl',c1];simp),cP el' e2 (by rw[cl',c2];simp)⟩
  have W:=WalksT.zip2 (prog:=X.prog) (w:=X.w) (I.ok.hd hc) z TI TO i1 i2 a b D its.toArray its'.toArray;have hi:i<min its.toArray.size its'.toArray.size:=by
   have a1:=(aJ4.mp hu).1;have a2:=(aJ4.mp hu').1;simp;lia
  refine W.item i s _ E hi ⟨hz,hTI,⟨w1,w2,hTO⟩,h1,h2,p.isList,p'.isList⟩ fun T vals h1 tk hPt hT hTup hMid keep1=>⟨_,rfl,?_⟩;refine W.go elts k pos i T { s with heap:=h1,toks:=tk } _ E hMid fun h2 hSt keep2=>?_;obtain⟨v,v',hv,hv',rfl⟩:=hPt;have hvu:v=u:=by
   have:its[i]?=some v:=by simpa using hv
   rw[hu] at this;exact (aIz this).symm
  have hvu':v'=u':=by
   have:its'[i]?=some v':=by simpa using hv'
   rw[hu'] at this;exact (aIz this).symm
  subst hvu hvu';have hTw:=W.apart i T h1 hMid;obtain⟨oT,eT,cT,nT,dT⟩:=hTup;have eT2:h2.get? T=some oT:=keep2 T oT hTw eT;have new:dB X.prog X.w (upd H T (.tup [x,y])) h2 T (.tup [x,y]):=by
   refine⟨by rw[sizeLine_eq];show 2<=16777216;decide,[v,v'],.cons ru (.cons ru' .nil),⟨oT,eT2,cT,nT,dT⟩⟩
  have hsub:∀ c∈[z,TO,i1,i2],c∈[z,TI,TO,i1,i2]:=by simp
  have I2:Inv X pins σ (upd H T (.tup [x,y])) { s with heap:=h2,toks:=tk }:=JM (fs:=[z,TO,i1,i2]) I hT (fun b o hb q=>keep2 b o hb (keep1 b o hb q)) (fun b hb=>hf b (hsub b hb)) new;have hTn:∀ c∈[z,TI,TO,i1,i2],c≠T:=fun c hcm zz=>by
   by_cases hcT:c=TI
   ·exact absurd (aJ7 (aJj hTI) hT) (by rw[<- hcT,zz];exact aLa _)
   ·refine hTw ?_
    rw[<- zz];simp only[aJb,List.mem_nil_iff,or_false] at hcm ⊢;rcases hcm with q | q | q | q | q
    ·exact .inl q
    ·exact absurd q hcT
    ·exact .inr (.inl q)
    ·exact .inr (.inr (.inl q))
    ·exact .inr (.inr (.inr q))
  refine⟨.ref T,_,I2,rfl,⟨T,x,y,fun zs hz=>by rw[I.list_inj hz hq];exact hx,fun zs hz=>by rw[I.list_inj hz hq'];exact hy,I.hok.fresh hT,rfl,rfl⟩,⟨hSt.1,hSt.2.1,hSt.2.2.1,hSt.2.2.2.1,hSt.2.2.2.2.1⟩,fun c hcm=>?_⟩;rw[aV (hTn c hcm)];exact (hf c hcm).1
 done:=by
  intro X hP hw hK hc i pins s σ H E I hf st hg;subst hP hw hK;obtain⟨xs,ys,hq,hq',hx⟩:=hg;obtain⟨its,rv,p,hzl⟩:=I.list hq;obtain⟨its',rv',p',hzl'⟩:=I.list hq';obtain⟨hz,hTI,⟨w1,w2,hTO⟩,h1,h2⟩:=st;obtain⟨o1,e1,c1,d1⟩:=id h1;obtain⟨o2,e2,c2,d2⟩:=id h2;obtain⟨ol,el,cl,nl,dl⟩:=id p.isList;obtain⟨ol',el',cl',nl',dl'⟩:=id p'.isList;have D:ZipApart z TI TO i1 i2 a b:=⟨A0.TIz,A0.TOz,A0.i1z,A0.i2z,A0.TITO,A0.TIi1,A0.TIi2,A0.TOi1,A0.TOi2,A0.i12,
   cP el hz (by rw[cl];simp),cP el hTO (by rw[cl];simp),cP el e1 (by rw[cl,c1];simp),cP el e2 (by rw[cl,c2];simp),
   cP el' hz (by rw[cl'];simp),cP el' hTO (by rw[cl'];simp),cP el' e1 (by rw[cl',c1];simp),cP el' e2 (by rw[cl',c2];simp)⟩
  have hl:=rv.length;have hl':=rv'.length;have hend:its.toArray[i]?=none\/its'.toArray[i]?=none:=by
   rcases hx with hx | hx
   ·exact .inl (by simp;lia)
   ·exact .inr (by simp;lia)
  exact wpAny_pyNext_zip_end (I.ok.hd hc) D hz hTI hTO h1 h2 p.isList p'.isList hend fun h' hk=>⟨rfl,JL (t':=s.toks) (fs:=[z,TI,TO,i1,i2]) I (fun b o hb q=>hk b o (fun x=>hb (by simp[x])) (fun x=>hb (by simp[x])) (fun x=>hb (by simp[x])) (fun x=>hb (by simp[x])) q) hf⟩
 self:=fun A i s Q E st h=>wpAny_pyIter_zip st.1 h
section
variable {X:Cx}{elts:List Expr}{k:Nat}{p2:Pos}
def YC (K:PySem.W.Frag) (ta:TA):TI:=fun σ H R=>ta σ H fun vs H1=>∃ l xs,vs=[.ref l]/\SqL K H1 l xs/\R (Ite K l) H1
theorem aD1 {a:Expr}{ta:TA}{p pos:Pos}(hg:Gl X "enumerate") (hm:X.mg "enumerate" = none) (ha:PA X [a] ta) (hs:starEach [a] X.env=[(false,eval a X.env)]:=by rfl):PI X (.Tuple elts k p2) (.Call (.Name "enumerate" p) [a] [] pos) (YC X.K ta):=by
 intro pins s σ H R I h;refine Call_ (gN I hg hm PyProof.Rows.boot_enumerate (aLu (thn (ha pos pins s σ H _ I h) fun us s1 ⟨vs,H1,I1,r1,q1⟩=>?_) hs rfl));obtain⟨l,xs,e,hq,q⟩:=q1;subst e;cases r1 with
 | cons r rr=>
  cases rr;cases r;obtain⟨its,rv,p,hz⟩:=I1.list hq;refine call_enumerate_list p.isList fun h' he hit hsz keep=>wpAny_pyIter_enum he ?_;refine⟨_,[s1.heap.objs.size+1,s1.heap.objs.size],_,_,H1,rfl,I1.kept (t':=s1.toks) keep,aGc l _ _ (aLg (aLd _)),⟨⟨_,he⟩,hit⟩,fun b hb=>?_,q⟩;have hb':s1.heap.objs.size<=b:=by
   simp only[aJb,List.mem_nil_iff,or_false] at hb;rcases hb with rfl | rfl<;>lia
  exact I1.fpOk hb' (I1.hok.fresh hb')
def YF (K:PySem.W.Frag) (ta:TA):TI:=fun σ H R=>ta σ H fun vs H1=>∃ l l' xs ys,vs=[.ref l,.ref l']/\SqL K H1 l xs/\SqL K H1 l' ys/\R (Itz K l l') H1
theorem aD4 {a b:Expr}{ta:TA}{p pos:Pos}(hg:Gl X "zip") (hm:X.mg "zip" = none) (ha:PA X [a,b] ta) (hs:starEach [a,b] X.env=[(false,eval a X.env),(false,eval b X.env)]:=by rfl) (hs2:starEach [b] X.env=[(false,eval b X.env)]:=by rfl):PI X (.Tuple elts k p2) (.Call (.Name "zip" p) [a,b] [] pos) (YF X.K ta):=by
 intro pins s σ H R I h;refine Call_ (gN I hg hm PyProof.Rows.boot_zip (aLu (thn (ha pos pins s σ H _ I h) fun us s1 ⟨vs,H1,I1,r1,q1⟩=>?_) (by rw[hs,hs2]) (by rw[hs2];rfl)));obtain⟨l,l',xs,ys,e,hq,hq',q⟩:=q1;subst e;cases r1 with
 | cons r rr=>
  cases rr with
  | cons r' rr=>
   cases rr;cases r;cases r';obtain⟨its,rv,p,hz⟩:=I1.list hq;obtain⟨its',rv',p',hz'⟩:=I1.list hq';refine call_zip_2 p.isList p'.isList fun h' a1 a2 a3 a4 a5 hsz keep=>wpAny_pyIter_zip a1 ?_;refine⟨_,[s1.heap.objs.size+4,s1.heap.objs.size+2,s1.heap.objs.size+3,s1.heap.objs.size,s1.heap.objs.size+1],_,_,H1,rfl,I1.kept (t':=s1.toks) keep,aGf l l' _ _ _ _ _ (aGt _),⟨a1,a2,⟨_,_,a3⟩,a4,a5⟩,fun b hb=>?_,q⟩;have hb':s1.heap.objs.size<=b:=by
    simp only[aJb,List.mem_nil_iff,or_false] at hb;rcases hb with rfl | rfl | rfl | rfl | rfl<;>lia
   exact I1.fpOk hb' (I1.hok.fresh hb')
end
def cU (n:Nat):List T->List T
 | []=>[]
 | u::us=>.tup [.int (n:Int),u]::cU (n+1) us
theorem AM:∀ (us:List T) (n i:Nat),(cU n us)[i]?=(us[i]?).map fun u=>.tup [.int ((n+i:Nat):Int),u]
 | [],n,i=>by simp[cU]
 | u::us,n,0=>by simp[cU]
 | u::us,n,i+1=>by
  rw[cU,List.getElem?_cons_succ,AM us (n+1) i,List.getElem?_cons_succ]
  congr 2
  funext u
  congr 4
  omega
theorem HC:∀ (us:List T) (n:Nat),(cU n us).length=us.length
 | [],n=>rfl
 | u::us,n=>by simp[cU,HC us (n+1)]
def mO (fi:Rho->Option (List T)):Rho->Option (List T):=fun ρ=>(fi ρ).map (cU 0)
@[simp] theorem fEnum_at (fi:Rho->Option (List T)) (ρ:Rho):mO fi ρ=(fi ρ).map (cU 0):=rfl
def eI (xs ys:List T):List T:=List.zipWith (fun x y=>.tup [x,y]) xs ys
def qM (fi gi:Rho->Option (List T)):Rho->Option (List T):=fun ρ=>(fi ρ).bind fun xs=>(gi ρ).map fun ys=>eI xs ys
@[simp] theorem fZip_at (fi gi:Rho->Option (List T)) (ρ:Rho):qM fi gi ρ=(fi ρ).bind fun xs=>(gi ρ).map fun ys=>eI xs ys:=rfl
theorem zY {K:PySem.W.Frag}{H H':Hp}{A:Addr->Prop}{u:T}{y:V}{sc:Bool}(hsc:sc=true->im u=true) (s:aO H H') (r:Rep K H A u y):Rep K H' (Am sc A H) u y:=by
 cases sc with
 | false=>exact (r.grow s).weak fun b x=>⟨rfl,.inl x⟩
 | true=>exact rE u (hsc rfl) (r.grow s)
theorem aGo {K:PySem.W.Frag}{a:Addr}{us:List T}{sc:Bool}(hsc:sc=true->bU us=true):rY K (Ite K a) [(.lst us,.ref a)] (cU 0 us) sc:=by
 intro H A hA i;obtain⟨a',xs,e,hs,hr⟩:=(hA _ aJ3).sqL;cases e;refine⟨fun t ht=>?_,fun hi=>⟨xs,hs,by rw[<- hr.length,<- HC us 0];exact hi⟩⟩;rw[AM] at ht;cases hu:us[i]? with
 | none=>rw[hu] at ht;cases ht
 | some u=>
  rw[hu] at ht;cases (aIz ht);obtain⟨y,hy,ry⟩:=hr.get hu;refine⟨⟨xs,y,hs,hy⟩,fun x H' hx=>?_⟩;obtain⟨T,y',hy',hT,rfl,rfl⟩:=hx;have:=hy' xs hs;rw[hy] at this;cases (aIz this);have sn:=dZ hT (.tup [.int (i:Nat),y]);refine⟨sn,T,[.int (i:Nat),y],rfl,.inl (.inl dA),.int (i:Nat),[y],rfl,?_,y,[],rfl,zY (fun z=>aJ5.mp (hsc z) u (aKy hu)) sn ry,rfl⟩;show V.int _=V.int _
  congr 1
  omega
theorem aGp {K:PySem.W.Frag}{a b:Addr}{us ws:List T}{sc:Bool}(hsc:sc=true->bU us=true/\bU ws=true):rY K (Itz K a b) [(.lst us,.ref a),(.lst ws,.ref b)] (eI us ws) sc:=by
 intro H A hA i;obtain⟨a',xs,e,hs,hr⟩:=(hA _ aJ3).sqL;obtain⟨b',ys,e',hs',hr'⟩:=(hA _ (aJ2 _ aJ3)).sqL;cases e;cases e';refine⟨fun t ht=>?_,fun hi=>⟨xs,ys,hs,hs',?_⟩⟩
 ·unfold eI at ht
  rw[List.getElem?_zipWith] at ht;cases hu:us[i]? with
  | none=>rw[hu] at ht;cases ht
  | some u=>
   cases hw:ws[i]? with
   | none=>rw[hu,hw] at ht;cases ht
   | some w=>
    rw[hu,hw] at ht;cases (aIz ht);obtain⟨y,hy,ry⟩:=hr.get hu;obtain⟨z,hz,rz⟩:=hr'.get hw;refine⟨⟨xs,ys,y,z,hs,hs',hy,hz⟩,fun x H' hx=>?_⟩;obtain⟨T,y',z',hy',hz',hT,rfl,rfl⟩:=hx;have q1:=hy' xs hs;have q2:=hz' ys hs';rw[hy] at q1;rw[hz] at q2;cases (aIz q1);cases (aIz q2);have sn:=dZ hT (.tup [y,z]);exact⟨sn,T,[y,z],rfl,.inl (.inl dA),y,[z],rfl,zY (fun z=>aJ5.mp (hsc z).1 u (aKy hu)) sn ry,z,[],rfl,zY (fun z=>aJ5.mp (hsc z).2 w (aKy hw)) sn rz,rfl⟩
 ·unfold eI at hi
  rw[List.length_zipWith] at hi;rw[<- hr.length,<- hr'.length];omega
section
variable {X:Cx}{B:Hp}{fl:List Nat}{e e':Expr}{f g:Rho->Option T}{n n':Bool}{l l':Nat}{pos p' p2:Pos}{x:Str}{elts:List Expr}{k:Nat}
theorem Ad.min3 {H:Hp}{M:List Addr}{a:Addr}(h:Ad B H M (min l 3) a):Ad B H M l a:=⟨fun z=>h.1 (by omega),fun z=>h.2.1 (by omega),fun z=>h.2.2 (by omega)⟩
theorem CG {t:T}{us:List T}(h:mY t=some us):t=.lst us/\bU us=true:=by
 cases t<;>first | (cases h;done) | skip
 unfold mY at h;dsimp only at h;split at h
 ·rename_i hfl
  cases (aIz h);exact⟨rfl,hfl⟩
 ·cases h
theorem XE {sc:Bool}{fi:Rho->Option (List T)}(hfi:∀ ρ us,fi ρ=some us->f ρ=some (.lst us)/\(sc=true->bU us=true)) (hx:x = "enumerate") (hg:Gl X x) (hm:X.mg x=none) (he:GE X B fl e f n l) (hs:starEach [e] X.env=[(false,eval e X.env)]):
  GI X B fl (.Tuple elts k p2) (.Call (.Name x p') [e] [] pos) (mO fi) l sc:=by
 subst hx;refine tQ (aD1 hg hm (aD he aF hs) hs) ?_;rintro σ H R ⟨Ex,ρ,M,ts,S,hf,q⟩;unfold mO at hf;cases hu:fi ρ with
 | none=>rw[hu] at hf;cases hf
 | some us=>
  rw[hu] at hf;cases (aIz hf);obtain⟨h1,h2⟩:=hfi ρ us hu;refine⟨Ex,ρ,M,[.lst us],S,by unfold aC aE;rw[h1];rfl,fun vs H1 s1 r1=>?_⟩;obtain⟨y,rfl,ry⟩:=eG r1;obtain⟨p,xs,rfl,h3,h4⟩:=ry.sqL;exact⟨p,xs,rfl,h3,q _ H1 [(.lst us,.ref p)] s1 (fun pv hp=>by cases aKz.mp hp;exact ry.weak fun b x=>x.min3) (aGo h2)⟩
theorem BG (hx:x = "enumerate") (hg:Gl X x) (hm:X.mg x=none) (he:GE X B fl e f n l) (hs:starEach [e] X.env=[(false,eval e X.env)]:=by rfl):
  GI X B fl (.Tuple elts k p2) (.Call (.Name x p') [e] [] pos) (mO (fFL f)) l true:=
 XE (fun ρ us h=>by
  obtain⟨t,h1,h2⟩:=bind_some h;obtain⟨h3,h4⟩:=CG h2;exact⟨by rw[h1,h3],fun _=>h4⟩) hx hg hm he hs
theorem XF {sc:Bool}{fi gi:Rho->Option (List T)}(hfi:∀ ρ us,fi ρ=some us->f ρ=some (.lst us)/\(sc=true->bU us=true)) (hgi:∀ ρ us,gi ρ=some us->g ρ=some (.lst us)/\(sc=true->bU us=true)) (hx:x = "zip") (hg:Gl X x) (hm:X.mg x=none) (he:GE X B fl e f n l) (he':GE X B fl e' g n' l')
  (hs:starEach [e,e'] X.env=[(false,eval e X.env),(false,eval e' X.env)]) (hs2:starEach [e'] X.env=[(false,eval e' X.env)]):
  GI X B fl (.Tuple elts k p2) (.Call (.Name x p') [e,e'] [] pos) (qM fi gi) (min l l') sc:=by
 subst hx;refine tQ (aD4 hg hm (aD he (aD he' aF hs2) (by rw[hs,hs2])) hs hs2) ?_;rintro σ H R ⟨Ex,ρ,M,ts,S,hf,q⟩;obtain⟨us,hu,hf⟩:=bind_some hf;cases hw:gi ρ with
 | none=>rw[hw] at hf;cases hf
 | some ws=>
  rw[hw] at hf;cases (aIz hf);obtain⟨h1,h2⟩:=hfi ρ us hu;obtain⟨h1',h2'⟩:=hgi ρ ws hw;refine⟨Ex,ρ,M,[.lst us,.lst ws],S,by simp only[aC,aE,h1,h1',aLt],fun vs H1 s1 r1=>?_⟩;obtain⟨y,r,rfl,ry,r2⟩:=r1;obtain⟨z,rfl,rz⟩:=eG r2;obtain⟨p,xs,rfl,h3,h4⟩:=ry.sqL;obtain⟨p2,ys,rfl,h3',h4'⟩:=rz.sqL;have wk:∀ a,Ad B H M (min l (min l' 3)) a->Ad B H M (min l l') a:=fun a h=>⟨fun z=>h.1 (by omega),fun z=>h.2.1 (by omega),fun z=>h.2.2 (by omega)⟩;refine⟨p,p2,xs,ys,rfl,h3,h3',q _ H1 [(.lst us,.ref p),(.lst ws,.ref p2)] s1 (fun pv hp=>?_) (aGp fun z=>⟨h2 z,h2' z⟩)⟩;rcases aJb.mp hp with rfl | hp
  ·exact ry.weak wk
  ·cases aKz.mp hp
   exact rz.weak wk
theorem BI (hx:x = "zip") (hg:Gl X x) (hm:X.mg x=none) (he:GE X B fl e f n l) (he':GE X B fl e' g n' l') (hs:starEach [e,e'] X.env=[(false,eval e X.env),(false,eval e' X.env)]:=by rfl) (hs2:starEach [e'] X.env=[(false,eval e' X.env)]:=by rfl):
  GI X B fl (.Tuple elts k p2) (.Call (.Name x p') [e,e'] [] pos) (qM (fFL f) (fFL g)) (min l l') true:=
 XF (fun ρ us h=>by
  obtain⟨t,h1,h2⟩:=bind_some h;obtain⟨h3,h4⟩:=CG h2;exact⟨by rw[h1,h3],fun _=>h4⟩) (fun ρ us h=>by
  obtain⟨t,h1,h2⟩:=bind_some h;obtain⟨h3,h4⟩:=CG h2;exact⟨by rw[h1,h3],fun _=>h4⟩) hx hg hm he he' hs hs2
end
def setL (ρ:Rho):List Nat->List T->Option Rho
 | [],[]=>some ρ
 | j::js,t::ts=>setL (ρ.set j (some t)) js ts
 | _,_=>none
def gY (σ:St):List Nat->List V->St
 | j::js,v::vs=>gY (σ.set j (some v)) js vs
 | _,_=>σ
def gNs (js:List Nat):TGs:=fun vs σ H Q=>vs.length=js.length/\Q (gY σ js vs) H
theorem fY {X:Cx}:PGs X [] (gNs []):=by
 intro pins s σ H vs us Q I r h;refine aD0 pins s σ H vs us Q I r ⟨List.length_eq_zero_iff.mp h.1,?_⟩;have e:=List.length_eq_zero_iff.mp h.1;subst e;exact h.2
theorem cH {X:Cx}{j:Nat}{x:Str}{pos:Pos}{es:List Expr}{js:List Nat}(hN:X.N.Nodup) (hi:X.N[j]?=some x) (hx:Loc X.env.scope x) (h2:PGs X es (gNs js)) (hf:X.fn x=true\/X.env.scope.names.lookup x=some .local:=by first | exact .inl rfl | exact .inr rfl | assumption)
  (hs:(assignEach ((.Name x pos)::es) X.env).map (·.2)=assign (.Name x pos) X.env::(assignEach es X.env).map (·.2):=by rfl):PGs X ((.Name x pos)::es) (gNs (j::js)):=by
 intro pins s σ H vs us Q I r h;refine aCz (yC hN hi hx hf) h2 hs pins s σ H vs us Q I r ?_
 match vs,h with
 | v::vr,h=>exact⟨v,vr,rfl,by simpa using h.1,h.2⟩
theorem NA:∀ (js:List Nat) (vs:List V) (σ:St),(gY σ js vs).length=σ.length
 | [],_,_=>rfl
 | _::_,[],_=>rfl
 | j::js,v::vs,σ=>by rw[gY,NA js vs];simp
theorem MZ:∀ (js:List Nat) (vs:List V) (σ:St) (i:Nat),i ∉ js->(gY σ js vs)[i]?=σ[i]?
 | [],_,_,_,_=>rfl
 | _::_,[],_,_,_=>rfl
 | j::js,v::vs,σ,i,h=>by
  have h1:i≠j:=fun z=>h (by rw[z];exact aJ3);have h2:i ∉ js:=fun z=>h (aJ2 _ z);rw[gY,MZ js vs _ i h2,aJ9 (Ne.symm h1)]
theorem DZ:∀ (js:List Nat) (ts:List T) (ρ ρ':Rho),setL ρ js ts=some ρ'->ts.length=js.length
 | [],[],_,_,_=>rfl
 | [],_::_,_,_,h=>by cases h
 | _::_,[],_,_,h=>by cases h
 | j::js,t::ts,ρ,ρ',h=>by simp[DZ js ts _ ρ' h]
theorem Sl.setL {K:PySem.W.Frag}{B H:Hp}{fl:List Nat}{Ex:List (T × V)}{M:List Addr}{lv:Nat}:∀ (js:List Nat) (ts:List T) (vs:List V) {σ:St}{ρ ρ':Rho},Sl K B fl Ex σ ρ M H->(∀ j∈js,j<fl.length/\1<=fl.getD j 1/\min (fl.getD j 1) 2<=lv)->RepL K H (Ad B H M lv) ts vs->G.setL ρ js ts=some ρ'->Sl K B fl Ex (gY σ js vs) ρ' M H
 | [],[],vs,σ,ρ,ρ',S,_,r,h=>by
  cases (aIz h);cases (show vs=[] from r);exact S
 | [],_::_,_,_,_,_,_,_,_,h=>by cases h
 | _::_,[],_,_,_,_,_,_,_,h=>by cases h
 | j::js,t::ts,vs,σ,ρ,ρ',S,hj,r,h=>by
  obtain⟨v,vr,rfl,r1,r2⟩:=r;have h0:=hj j aJ3;exact Sl.setL js ts vr (S.set h0.1 (.inl h0.2.1) (r1.weak fun b x=>⟨fun z=>x.1 (by omega),fun z=>x.2.1 (by omega),fun z=>by omega⟩)) (fun i hi=>hj i (aJ2 _ hi)) r2 h
def eC (js:List Nat) (body:Rho->Option Out):List T->Rho->Option Out
 | [],ρ=>some (.nx ρ)
 | .tup us::ts,ρ=>(setL ρ js us).bind fun ρ1=>(body ρ1).bind fun o=>match o with | .nx ρ'=>eC js body ts ρ' | .ct ρ'=>eC js body ts ρ' | .bk ρ'=>some (.nx ρ') | .rt t=>some (.rt t)
 | _::_,_=>none
def tT (js:List Nat) (fi:Rho->Option (List T)) (body:Rho->Option Out):Rho->Option Out:=fun ρ=>(fi ρ).bind fun ts=>eC js body ts ρ
@[simp] theorem rForT_at (js:List Nat) (fi:Rho->Option (List T)) (body:Rho->Option Out) (ρ:Rho):tT js fi body ρ=(fi ρ).bind fun ts=>eC js body ts ρ:=rfl
theorem WH {js:List Nat}{body:Rho->Option Out}{t:T}{ts:List T}{ρ:Rho}{o:Out}(h:eC js body (t::ts) ρ=some o):∃ us ρ1 o1,t=.tup us/\setL ρ js us=some ρ1/\body ρ1=some o1/\(match o1 with | .nx ρ'=>eC js body ts ρ' | .ct ρ'=>eC js body ts ρ' | .bk ρ'=>some (.nx ρ') | .rt t=>some (.rt t))=some o:=by
 cases t with
 | tup us=>
  obtain⟨ρ1,h1,h⟩:=bind_some h;obtain⟨o1,h2,h⟩:=bind_some h;exact⟨us,ρ1,o1,rfl,h1,h2,h⟩
 | exc _=>cases h
 | dct _=>cases h
 | own _=>cases h
 | non=>cases h
 | bl _=>cases h
 | int _=>cases h
 | str _=>cases h
 | lst _=>cases h
theorem MN {K:PySem.W.Frag}{H:Hp}{A:Addr->Prop}{us:List T}{v:V}(h:Rep K H A (.tup us) v):∃ a xs,v=.ref a/\SqT K H a xs/\RepL K H A us xs:=h.sqT
theorem BP {X:Cx}{B:Hp}{fl:List Nat}{n:Bool}{l:Nat}{body:List Stmt}{r:Rho->Option Out}{pos p2:Pos}{k m:Nat}(js:List Nat) {iter:Expr}{elts:List Expr}{fi:Rho->Option (List T)}{li:Nat}{sc:Bool}(hp:PassesOwn (model X.prog X.w) X.A X.env X.xe) (hc:X.calm=true) (hi:GI X B fl (.Tuple elts k p2) iter fi li sc)
  (hg:PGs X elts (gNs js)) (hb:GSs X B fl n l body r) (hfl:(js.all fun j=>decide (j<fl.length)&&decide (fl.getD j 1=1))=true) (hli:decide (1<=li)=true)
  (hn:(assignEach elts X.env).length=m:=by rfl) (hst:(assignEach elts X.env).findIdx? (·.1)=none:=by rfl) (hm:js.length=m:=by rfl)
  (hs:∀ x,foldedSetIterable iter X.env x=pure x:=by intro _;rfl):
  GS X B fl n l (.For (.Tuple elts k p2) iter body [] pos) (tT js fi r):=by
 have hfl':∀ j∈js,j<fl.length/\1<=fl.getD j 1/\min (fl.getD j 1) 2<=1:=fun j hj=>by
  have:=aJ5.mp hfl j hj;simp only[aJc,decide_eq_true_eq] at this;exact⟨this.1,by omega,by omega⟩
 have hli:=of_decide_eq_true hli;refine dP (LX hp hc hi (LU hc hg hn hst) hb hs) ?_;rintro D σ H ⟨Ex,ρ,M,o,S,hr,q⟩;obtain⟨ts,hts,hr⟩:=bind_some hr;refine⟨Ex,ρ,M,ts,S,hts,fun J H1 ps s1 rp wk=>?_⟩;refine⟨fun i m σ1 H2=>m=ts.length-i/\i<=ts.length/\∃ ρ1 M1,Sl X.K B fl (ps++Ex) σ1 ρ1 M1 H2/\eC js r (ts.drop i) ρ1=some o,⟨ts.length,by simp,aLq _,ρ,M,(S.grow s1).plus (fun p hp=>(rp p hp).weak fun b x=>⟨fun z=>x.1 (by omega),fun z=>by omega,fun z=>by omega⟩),hr⟩,?_⟩;rintro i m' σ1 H2 ⟨rfl,hi,ρ1,M1,S1,e1⟩;have w:=wk H2 _ (fun p hp=>S1.ex p (List.mem_append_left _ hp)) i
 by_cases hlt:i<ts.length
 ·have et:ts[i]?=some ts[i]:=aJ1 hlt
  obtain⟨go,yl⟩:=w.1 _ et;rw[List.drop_eq_getElem_cons hlt] at e1;obtain⟨us,ρ2,o1,eu,h0,h1,e1⟩:=WH e1;refine .inr ⟨go,fun σ' H'=>∃ ρ1 M1,Sl X.K B fl (ps++Ex) σ' ρ1 M1 H'/\eC js r (ts.drop (i+1)) ρ1=some o,fun σ' H' ⟨ρ',M',S',e'⟩=>⟨ts.length-(i+1),by omega,rfl,hlt,ρ',M',S',e'⟩,fun y H3 hy=>?_⟩;obtain⟨s23,ry⟩:=yl y H3 hy;have ry':Rep X.K H3 (Ad B H3 M1 1) ts[i] y:=ry.weak fun c hc=>by
   obtain⟨_,hc⟩:=hc;rcases hc with hc | hc
   ·exact⟨fun z=>hc.1 (aL8 _),fun z=>by omega,fun z=>by omega⟩
   ·exact⟨fun _ z=>(S1.mB c z).2 hc,fun z=>by omega,fun z=>by omega⟩
  rw[eu] at ry';obtain⟨a,xs,rfl,hsq,rl⟩:=MN ry';have hlen:xs.length=js.length:=by rw[<- rl.length];exact DZ js us ρ1 ρ2 h0
  refine⟨a,xs,rfl,hsq,by rw[hlen,hm],hlen,?_⟩;refine⟨ps++Ex,_,M1,o1,(S1.grow s23).setL js us xs hfl' rl h0,h1,?_⟩;cases o1 with
  | nx ρ'=>exact fun σ' M' H' S'=>⟨ρ',M',S',e1⟩
  | ct ρ'=>exact fun σ' M' H' S'=>⟨ρ',M',S',e1⟩
  | bk ρ'=>cases (aIz e1);exact fun σ' M' H' S'=>q σ' M' H' S'.fewer
  | rt t=>cases (aIz e1);exact q
 ·have ei:i=ts.length:=by omega
  subst ei;rw[List.drop_eq_nil_of_le (aL8 _)] at e1;cases (aIz (show some (Out.nx ρ1)=some o from e1));exact .inl ⟨w.2 (aL8 _),q σ1 M1 H2 S1.fewer⟩
def bR (js:List Nat) (p:Rho->Option Bool) (f:Rho->Option T) (ρ:Rho):List T->Option (List T)
 | []=>some []
 | .tup us::ts=>(setL ρ js us).bind fun ρ1=>(p ρ1).bind fun b=>if b then (f ρ1).bind fun y=>(bR js p f ρ ts).map (y :: ·) else bR js p f ρ ts
 | _::_=>none
def eB (js:List Nat) (fi:Rho->Option (List T)) (src:List (Option Nat)) (p:Rho->Option Bool) (f:Rho->Option T):Rho->Option T:=fun ρ=>
 (fi ρ).bind fun ts=>(bR js p f (bJ src ρ) ts).bind fun us=>if us.length<=cap then some (.lst us) else none
@[simp] theorem fCompT_at (js:List Nat) (fi:Rho->Option (List T)) (src:List (Option Nat)) (p:Rho->Option Bool) (f:Rho->Option T) (ρ:Rho):eB js fi src p f ρ =
 (fi ρ).bind fun ts=>(bR js p f (bJ src ρ) ts).bind fun us=>if us.length<=cap then some (.lst us) else none:=rfl
theorem TK {js:List Nat}{p:Rho->Option Bool}{f:Rho->Option T}{ρ:Rho}{t:T}{ts us:List T}(h:bR js p f ρ (t::ts)=some us):
  ∃ xs ρ1 b,t=.tup xs/\setL ρ js xs=some ρ1/\p ρ1=some b/\((b=true/\∃ y r,f ρ1=some y/\bR js p f ρ ts=some r/\us=y::r)\/(b=false/\bR js p f ρ ts=some us)):=by
 cases t with
 | tup xs=>
  obtain⟨ρ1,h1,h⟩:=bind_some h;obtain⟨b,h2,h⟩:=bind_some h;refine⟨xs,ρ1,b,rfl,h1,h2,?_⟩;cases b with
  | true=>
   obtain⟨y,h3,h⟩:=bind_some (show ((f ρ1).bind fun y=>(bR js p f ρ ts).map (y :: ·))=some us from h);cases e:bR js p f ρ ts with
   | none=>rw[e] at h;cases h
   | some r=>rw[e] at h;cases (aIz h);exact .inl ⟨rfl,y,r,h3,rfl,rfl⟩
  | false=>exact .inr ⟨rfl,h⟩
 | exc _=>cases h
 | dct _=>cases h
 | own _=>cases h
 | non=>cases h
 | bl _=>cases h
 | int _=>cases h
 | str _=>cases h
 | lst _=>cases h
structure FlT (X:Cx) (N':List Str) (src:List (Option Nat)) (fl fl':List Nat) (li:Nat) (sc:Bool) (js:List Nat):Prop where
 nd:N'.Nodup
 own:∀ j∈js,src[j]?=some none
 cap:∀ (j i:Nat),src[j]?=some (some i)->fl'.getD j 1=fl.getD i 1
 pos:∀ j∈js,1<=fl'.getD j 1
 le:sc=false->∀ j∈js,fl'.getD j 1<=li
 xN:∀ (j i:Nat),src[j]?=some (some i)->N'[j]?=X.N[i]?/\j<N'.length
 lf:fl'.length=src.length
 lcs:lc fl'<=lc fl\/∀ j,fl'.getD j 1≠0
def GK (N N':List Str) (src:List (Option Nat)) (fl fl':List Nat) (li:Nat) (sc:Bool) (js:List Nat):Bool:=
 sW N'&&(js.all fun j=>(match src[j]? with | some none=>true | _=>false)&&decide (1<=fl'.getD j 1)&&(sc||decide (fl'.getD j 1<=li)))&&(fl'.length == src.length)&&(src.length == N'.length) &&
 (List.range src.length).all (fun j=>match src[j]? with | some (some i)=>(match N'[j]?,N[i]? with | some a,some b=>a == b | _,_=>false)&&(fl'.getD j 1 == fl.getD i 1) | _=>true)&&(decide (lc fl'<=lc fl) || !fl'.contains 0)
theorem jO {X:Cx}{N':List Str}{src:List (Option Nat)}{fl fl':List Nat}{li:Nat}{sc:Bool}{js:List Nat}(h:GK X.N N' src fl fl' li sc js=true):FlT X N' src fl fl' li sc js:=by
 unfold GK at h;have h8:=KD (aJd.mp h).2;simp only[aJc] at h;obtain⟨⟨⟨⟨⟨h1,h2⟩,h5⟩,h6⟩,h7⟩,_⟩:=h;have key:∀ j i,src[j]?=some (some i)->(N'[j]?=X.N[i]?/\j<N'.length)/\fl'.getD j 1=fl.getD i 1:=fun j i e=>by
  have hj:j<src.length:=(aJ4.mp e).1;have t:=aJ5.mp h7 j (aJ6.mpr hj);rw[e] at t;simp only[aJc] at t;refine⟨⟨?_,by rw[<- eq_of_beq h6];exact hj⟩,eq_of_beq t.2⟩;have t1:=t.1;cases q:N'[j]? with
  | none=>rw[q] at t1;cases t1
  | some a=>
   cases q2:X.N[i]? with
   | none=>rw[q,q2] at t1;cases t1
   | some b=>
    rw[q,q2] at t1;rw[eq_of_beq t1]
 have own:∀ j∈js,src[j]?=some none/\1<=fl'.getD j 1/\(sc=false->fl'.getD j 1<=li):=fun j hj=>by
  have t:=aJ5.mp h2 j hj;simp only[aJc,decide_eq_true_eq] at t;refine⟨?_,t.1.2,fun z=>by simpa [z] using t.2⟩;have t1:=t.1.1;cases q:src[j]? with
  | none=>rw[q] at t1;cases t1
  | some o=>
   cases o with
   | none=>rfl
   | some _=>rw[q] at t1;cases t1
 exact⟨cX h1,fun j hj=>(own j hj).1,fun j i e=>(key j i e).2,fun j hj=>(own j hj).2.1,fun z j hj=>(own j hj).2.2 z,fun j i e=>(key j i e).1,eq_of_beq h5,h8⟩
section
variable {X:Cx}{K:PySem.W.Frag}{B H:Hp}{fl fl':List Nat}{src:List (Option Nat)}{N':List Str}{Ex:List (T × V)}{σ σ1:St}{ρ:Rho}{M:List Addr}{li:Nat}{sc:Bool}{js:List Nat}
theorem Sl.block0 (F:FlT X N' src fl fl' li sc js) (S:Sl K B fl Ex σ ρ M H) (h0:∀ j,j ∉ js->σ1[j]?=(cM src σ)[j]?) (hl:σ1.length=src.length):Sl K B fl' Ex σ1 (bJ src ρ) M H:=by
 have get:∀ j u,(bJ src ρ)[j]?=some (some u)->∃ i,src[j]?=some (some i)/\ρ[i]?=some (some u)/\j ∉ js:=fun j u e=>by
  obtain⟨i,e1,e2⟩:=NX e;exact⟨i,e1,e2,fun z=>by rw[F.own j z] at e1;cases e1⟩
 have put:∀ j i v,j ∉ js->src[j]?=some (some i)->σ[i]?=some (some v)->σ1[j]?=some (some v):=fun j i v hj e1 e2=>by
  rw[h0 j hj];exact NY e1 e2
 obtain⟨g,hg,ap⟩:=S.mu;refine⟨S.same,fun j u e k=>?_,⟨fun j=>g (((src[j]?).join).getD 0),fun j u e k hm=>?_,fun j j' c d u u' us ws hne e e' k k' hm hm'=>?_⟩,S.ex,S.mB,by rw[hl];exact aL6 F.lf⟩
 ·obtain⟨i,e1,e2,hj⟩:=get j u e
  rw[F.cap j i e1] at k ⊢;obtain⟨v,e3,r3⟩:=S.slot i u e2 k;exact⟨v,put j i v hj e1 e3,r3⟩
 ·obtain⟨i,e1,e2,hj⟩:=get j u e
  rw[F.cap j i e1] at k;obtain⟨v,e4,e5,e6⟩:=hg i u e2 k hm;simp only[show ((src[j]?).join).getD 0=i by rw[e1];rfl];refine⟨v,put j i _ hj e1 e4,e5,fun c us h=>?_⟩;obtain⟨xs,q1,q2,q3⟩:=e6 c us h;rcases F.lcs with lk | lk
  ·exact⟨xs,q1,q2.weak fun b x=>x.le lk,q3⟩
  ·exact absurd ((F.cap j i e1).trans k) (lk j)
 ·obtain⟨i,e1,e2,hj⟩:=get j u e
  obtain⟨i',e1',e2',hj'⟩:=get j' u' e';rw[F.cap j i e1] at k;rw[F.cap j' i' e1'] at k';have hii:j≠j'->i≠i':=fun hjj z=>by
   subst z;have q1:=F.xN j i e1;have q2:=F.xN j' i e1';have:N'[j]?=N'[j']?:=q1.1.trans q2.1.symm;rw[aJ1 q1.2,aJ1 q2.2] at this;exact hjj ((List.getElem_inj F.nd).mp (aIz this))
  simp only[show ((src[j]?).join).getD 0=i by rw[e1];rfl,show ((src[j']?).join).getD 0=i' by rw[e1'];rfl];exact ap i i' c d u u' us ws (hne.imp hii id) e2 e2' k k' hm hm'
end
def RV (K:PySem.W.Frag) (H₁:Hp) (J:It) (ps:List (T × V)) (ts:List T) (sc:Bool):Prop:=
 ∀ (H:Hp) (A:Addr->Prop),aO H₁ H->(∀ p∈ps,Rep K H A p.1 p.2)->∀ i:Nat,(∀ t,ts[i]?=some t->J.go i H/\∀ x H',J.yld i H x H'->aO H H'/\Rep K H' (Am sc A H) t x)/\(ts.length<=i->J.stop i H)
def wC (K:PySem.W.Frag) (B:Hp) (fl:List Nat) (f:Rho->Option (List T)) (l:Nat) (sc:Bool):TI:=fun σ H R=>
 ∃ Ex ρ M ts,Sl K B fl Ex σ ρ M H/\f ρ=some ts/\∀ J H' ps,aO H H'->(∀ p∈ps,Rep K H' (Ad B H M l) p.1 p.2)->RV K H' J ps ts sc->R J H'
def GIc (X:Cx) (B:Hp) (fl:List Nat) (tg e:Expr) (f:Rho->Option (List T)) (l:Nat) (sc:Bool):Prop:=PI X tg e (wC X.K B fl f l sc)
theorem GI.c {X:Cx}{B:Hp}{fl:List Nat}{tg e:Expr}{f:Rho->Option (List T)}{l:Nat}{sc:Bool}(h:GI X B fl tg e f l sc):GIc X B fl tg e f l sc:=
 tQ h fun _ _ _ ⟨Ex,ρ,M,ts,S,hf,q⟩=>⟨Ex,ρ,M,ts,S,hf,fun J H' ps s r w=>q J H' ps s r fun H2 A _ hA=>w H2 A hA⟩
section
variable {X:Cx}{B:Hp}{fl fl':List Nat}{elt iter:Expr}{elts:List Expr}{ifs:List Expr}{scope:Scope}{pos p2:Pos}{N':List Str}{src:List (Option Nat)}{fi:Rho->Option (List T)}{p:Rho->Option Bool}{f:Rho->Option T}{n sc:Bool}{l li k m:Nat}{js:List Nat}
theorem AI (F:FlT X N' src fl fl' li sc js) (hl1':1<=l) (hm:js.length=m) {σ:St}{H:Hp}{Q:VK}(h:tG X.K B fl (eB js fi src p f) true l σ H Q):
  wB (wC X.K B fl fi li sc) (cM src) (hU X.K m (gNs js)) (tGT X.K B fl' p) (tG X.K B fl' f n l) σ H Q:=by
 obtain⟨Ex,ρ,M,t,S,hf,q⟩:=h;obtain⟨ts,hts,hf⟩:=bind_some hf;obtain⟨fin,hfin,hf⟩:=bind_some hf;split at hf
 rotate_left
 ·cases hf
 rename_i hcap;cases (aIz hf);refine⟨Ex,ρ,M,ts,S,hts,fun J H1 ps s01 rp wk=>?_⟩;intro D hD;refine⟨fun i m σ1 H2=>m=ts.length-i/\i<=ts.length/\aO H1 H2/\σ1.length=src.length/\(∀ j,j ∉ js->σ1[j]?=(cM src σ)[j]?) /\
  ∃ us rest xs,us++rest=fin/\bR js p f (bJ src ρ) (ts.drop i)=some rest/\H2 D=some (.lst xs)/\RepL X.K H2 (fun b=>Ad B H M l b/\b≠D) us xs,?_,?_⟩
 ·refine⟨ts.length,by simp,aLq _,dZ hD _,by unfold cM;simp,fun _ _=>rfl,[],fin,[],rfl,by simpa using hfin,dA,rfl⟩
 ·rintro i m' σ1 H2 ⟨rfl,hi,s12,hl1,hσ,us,rest,xs,e1,e2,e3,e4⟩
  have hD2:H2 D≠none:=by rw[e3];simp
  have S2:=(S.grow s01).more hD s12 hD2;have rp1:∀ pv∈ps,Rep X.K H1 (fun b=>Ad B H M li b/\b≠D) pv.1 pv.2:=fun pv hpv=>Rep.keep (fun _ _ e=>e) (fun _ _ _ e=>e) (fun b x y=>⟨x,fun z=>y (z ▸ hD)⟩) pv.1 (rp pv hpv);have w:=wk H2 _ s12 (fun pv hpv=>(rp1 pv hpv).grow s12) i
  by_cases hlt:i<ts.length
  ·refine .inr ?_
   have et:ts[i]?=some ts[i]:=aJ1 hlt;obtain⟨go,yl⟩:=w.1 _ et;refine⟨go,fun x H3 hy=>?_⟩;obtain⟨s23,rx⟩:=yl x H3 hy;rw[List.drop_eq_getElem_cons hlt] at e2;obtain⟨ws,ρ1,b,ew,hset,hb,hcase⟩:=TK e2;have S3:=S2.grow s23;have rx':Rep X.K H3 (Ad B H3 (D::M) (if sc then 2 else min li 2)) ts[i] x:=rx.weak fun c hc=>by
    obtain⟨h0,hc⟩:=hc;rw[if_neg (by rw[h0];simp)];rcases hc with hc | hc
    ·refine⟨fun z w=>?_,fun z=>hc.1.2.1 (by omega),fun z=>by omega⟩
     rcases aJb.mp w with rfl | w
     ·exact hc.2 rfl
     ·exact hc.1.1 (by omega) w
    ·exact⟨fun _ z=>(S2.mB c z).2 hc,fun _=>S2.same.free hc,fun z=>by omega⟩
   rw[ew] at rx';obtain⟨a,vs,rfl,hsq,rl⟩:=MN rx';have hlen:vs.length=js.length:=by rw[<- rl.length];exact DZ js ws _ _ hset
   have hjs:∀ j∈js,j<fl'.length/\1<=fl'.getD j 1/\min (fl'.getD j 1) 2<=(if sc then 2 else min li 2):=fun j hj=>by
    refine⟨by rw[F.lf];exact (aJ4.mp (F.own j hj)).1,F.pos j hj,?_⟩;cases hsc:sc with
    | true=>simp only[if_true];omega
    | false=>
     have:=F.le hsc j hj;simp only[aJf,if_false];omega
   have Sb:=(Sl.block0 (σ1:=σ1) F S3 hσ hl1).setL js ws vs hjs rl hset;refine⟨a,vs,rfl,hsq,by rw[hlen,hm],hlen,?_⟩;show tGT X.K B fl' p (gY σ1 js vs) H3 _;refine⟨Ex,_,D::M,b,Sb,hb,fun H5 s35=>?_⟩;have hσ':∀ j,j ∉ js->(gY σ1 js vs)[j]?=(cM src σ)[j]?:=fun j hj=>by rw[MZ js vs σ1 j hj];exact hσ j hj
   have hl1'':(gY σ1 js vs).length=src.length:=by rw[NA];exact hl1
   rcases hcase with ⟨rfl,y,r,hy',hr,rfl⟩ | ⟨rfl,hr⟩
   ·refine jZ ⟨Ex,_,D::M,y,Sb.grow s35,hy',fun v H6 s56 rv=>?_⟩
    have s26:=(s23.trans s35).trans s56;have e5:=s26 _ _ e3;have hl:xs.length<sizeLine:=by
     rw[<- e4.length];refine gJ (aL9 ?_ hcap);rw[<- e1];simp
    refine⟨xs,e5,hl,ts.length-(i+1),by omega,rfl,hlt,?_,hl1'',hσ',us++[y],r,xs++[v],by rw[<- e1];simp,hr,dA,?_⟩
    ·intro c o hc
     have:c≠D:=fun z=>by rw[z,hD] at hc;cases hc
     rw[aV this];exact (s12.trans s26) c o hc
    ·have k1:RepL X.K H6 (fun b=>Ad B H M l b/\b≠D) us xs:=e4.grow s26
     have k2:Rep X.K H6 (fun b=>Ad B H M l b/\b≠D) y v:=by
      have z:=rv.rep (Sb.grow s35);exact z.weak fun c hc=>⟨⟨fun k w=>hc.1 k (aJ2 _ w),hc.2.1,fun k=>((s01.trans s12).trans (s23.trans s35)).free (hc.2.2 k)⟩,fun w=>hc.1 hl1' (by rw[w];exact aJ3)⟩
     exact (RepL.app k1 (RepL.one k2)).keep (fun c _ e=>gR e5 e) (fun c o hc e=>by rw[aV hc.2];exact e) (fun c hc _=>hc) _
   ·refine jY ⟨ts.length-(i+1),by omega,rfl,hlt,(s12.trans s23).trans s35,hl1'',hσ',us,rest,xs,e1,hr,(s23.trans s35) _ _ e3,e4.grow (s23.trans s35)⟩
  ·have ei:i=ts.length:=by omega
   subst ei;refine .inl ⟨w.2 (aL8 _),?_⟩;rw[List.drop_eq_nil_of_le (aL8 _)] at e2;cases (aIz (show some []=some rest from e2));rw[List.append_nil] at e1;subst e1;exact q _ H2 (s01.trans s12) ⟨D,xs,rfl,s01.free hD,e3,e4⟩
theorem qO (S:BlkOk X scope N' src) (F:FlT X N' src fl fl' li sc js) (hl1:1<=l) (hc:X.calm=true) (hi:GI X B fl (.Tuple elts k p2) iter fi li sc)
  (hg:∀ cl C s H ex,PG (cxB X scope N' cl C s H ex) (.Tuple elts k p2) (hU X.K m (gNs js))) (hm:js.length=m)
  (hb:∀ cl C s H ex,GIf (cxB X scope N' cl C s H ex) B fl' ifs p/\GE (cxB X scope N' cl C s H ex) B fl' elt f n l)
  (hs:∀ x,foldedSetIterable iter X.env x=pure x:=by intro _;rfl):GE X B fl (.ListComp elt [⟨.Tuple elts k p2,iter,ifs,0⟩] scope pos) (eB js fi src p f) true l:=
 bI (LQ (wi:=wC X.K B fl fi li sc) (g:=hU X.K m (gNs js)) (tc:=tGT X.K B fl' p) (te:=tG X.K B fl' f n l) S hc hi.c (fun cl C s H ex=>⟨hg cl C s H ex,(hb cl C s H ex).1,(hb cl C s H ex).2⟩) hs) fun σ H Q h=>AI F hl1 hm h
theorem XT (i:Nat) {x:Str}{pos' spos:Pos}{l':Nat}{n':Bool}{N0:Bool}{L0:Nat}(S:BlkOk X scope N' src) (F:FlT X N' src fl fl' li sc js) (hc:X.calm=true) (hi:GI X B fl (.Tuple elts k p2) iter fi li sc)
  (hg:∀ cl C s H ex,PG (cxB X scope N' cl C s H ex) (.Tuple elts k p2) (hU X.K m (gNs js))) (hm:js.length=m)
  (hb:∀ cl C s H ex,GIf (cxB X scope N' cl C s H ex) B fl' ifs p/\GE (cxB X scope N' cl C s H ex) B fl' elt f n' l') (hN:X.N.Nodup) (hiN:X.N[i]?=some x) (hx:Loc X.env.scope x) (hfl:(decide (i<fl.length)&&decide (1<=fl.getD i 1)&&decide (fl.getD i 1<=l')&&decide (1<=l'))=true)
  (hsw:swapsWith (.ListComp elt [⟨.Tuple elts k p2,iter,ifs,0⟩] scope pos) (some (.Name x pos')) spos.line X.env=pure true:=by rfl)
  (hs:∀ x,foldedSetIterable iter X.env x=pure x:=by intro _;rfl) (hf:X.fn x=true\/X.env.scope.names.lookup x=some .local:=by first | exact .inl rfl | exact .inr rfl | assumption):
  GS X B fl N0 L0 (.Assign [.Name x pos'] (.ListComp elt [⟨.Tuple elts k p2,iter,ifs,0⟩] scope pos) spos) (aQ i (eB js fi src p f)):=by
 refine dP (DC (wi:=wC X.K B fl fi li sc) (g:=hU X.K m (gNs js)) (tc:=tGT X.K B fl' p) (te:=tG X.K B fl' f n' l') hN hiN hx S hc hi.c (fun cl C s H ex=>⟨hg cl C s H ex,(hb cl C s H ex).1,(hb cl C s H ex).2⟩) hsw hs hf) ?_;rintro D σ H ⟨Ex,ρ,M,o,S,hr,q⟩;simp only[aJc,decide_eq_true_eq] at hfl;unfold aQ at hr;cases e1:eB js fi src p f ρ with
 | none=>rw[e1] at hr;cases hr
 | some t=>
  rw[e1] at hr;cases (aIz hr);refine AI F hfl.2 hm ⟨Ex,ρ,M,t,S,e1,fun v H1 s1 rx=>q _ M H1 ((S.grow s1).set hfl.1.1.1 (.inl hfl.1.1.2) ?_)⟩;exact (rx.rep S).weak fun b x=>⟨fun z=>x.1 (by omega),fun z=>x.2.1 (by omega),fun z=>by omega⟩
theorem XS (i:Nat) {x:Str}{pos' spos:Pos}{l':Nat}{n':Bool}{N0:Bool}{L0:Nat}(S:BlkOk X scope N' src) (F:FlT X N' src fl fl' li sc js) (hc:X.calm=true) (hi:GI X B fl (.Tuple elts k p2) iter fi li sc)
  (hg:∀ cl C s H ex,PG (cxB X scope N' cl C s H ex) (.Tuple elts k p2) (hU X.K m (gNs js))) (hm:js.length=m)
  (hb:∀ cl C s H ex,GIf (cxB X scope N' cl C s H ex) B fl' ifs p/\GE (cxB X scope N' cl C s H ex) B fl' elt f n' l') (hN:X.N.Nodup) (hiN:X.N[i]?=some x) (hx:Loc X.env.scope x) (hfl:(decide (i<fl.length)&&decide (fl.getD i 1=0)&&decide (lc fl<=l'))=true)
  (hsw:swapsWith (.ListComp elt [⟨.Tuple elts k p2,iter,ifs,0⟩] scope pos) (some (.Name x pos')) spos.line X.env=pure true:=by rfl)
  (hs:∀ x,foldedSetIterable iter X.env x=pure x:=by intro _;rfl) (hf:X.fn x=true\/X.env.scope.names.lookup x=some .local:=by first | exact .inl rfl | exact .inr rfl | assumption):
  GS X B fl N0 L0 (.Assign [.Name x pos'] (.ListComp elt [⟨.Tuple elts k p2,iter,ifs,0⟩] scope pos) spos) (dH i (eB js fi src p f)):=by
 refine dP (DC (wi:=wC X.K B fl fi li sc) (g:=hU X.K m (gNs js)) (tc:=tGT X.K B fl' p) (te:=tG X.K B fl' f n' l') hN hiN hx S hc hi.c (fun cl C s H ex=>⟨hg cl C s H ex,(hb cl C s H ex).1,(hb cl C s H ex).2⟩) hsw hs hf) ?_;rintro D σ H ⟨Ex,ρ,M,o,S,hr,q⟩;simp only[aJc,decide_eq_true_eq,and_assoc] at hfl;obtain⟨t,e1,hr⟩:=bind_some hr;exact AI F (by have:=hfl.2.2;have:=fK fl;omega) hm ⟨Ex,ρ,M,t,S,e1,fun v H1 s1 rx=>EA S hfl hr q s1 rx⟩
end
theorem pgT {X:Cx}{elts:List Expr}{k m:Nat}{p2:Pos}{js:List Nat}(hc:X.calm=true) (h:PGs X elts (gNs js)) (hn:(assignEach elts X.env).length=m:=by rfl) (hst:(assignEach elts X.env).findIdx? (·.1)=none:=by rfl):PG X (.Tuple elts k p2) (hU X.K m (gNs js)):=LU hc h hn hst
def YM:Expr->Option Int
 | .Constant (.int i) _ _=>some i
 | _=>none
def xE:List Expr->Option (List Int)
 | []=>some []
 | e::es=>(YM e).bind fun i=>(xE es).map (i :: ·)
theorem HV {X:Cx}{B:Hp}{fl:List Nat}:∀ (es:List Expr) (ns:List Int),xE es=some ns->GA X B fl es (fun _=>some (tI ns)) 3
 | [],ns,h=>by
  cases (aIz h);exact aF
 | e::es,ns,h=>by
  obtain⟨i,h1,h⟩:=bind_some h;cases h2:xE es with
  | none=>rw[h2] at h;cases h
  | some ms=>
   rw[h2] at h;cases (aIz h);have ih:=HV (X:=X) (B:=B) (fl:=fl) es ms h2;cases e<;>first | (cases h1;done) | skip
   rename_i c j pos;cases c<;>first | (cases h1;done) | skip
   cases (aIz h1);have:=aD (X:=X) (B:=B) (fl:=fl) (ge_int (i:=i) (j:=j) (pos:=pos)) ih (by rfl);exact this
theorem sJ {X:Cx}{B:Hp}{fl:List Nat}{es:List Expr}{pos:Pos}{ns:List Int}(h:xE es=some ns) (hl:decide (ns.length<=cap)=true):GE X B fl (.List es pos) (fC (.lst (tI ns))) true 3:=by
 refine bI (fW (B:=B) (fl:=fl) (HV es ns h)) ?_;rintro σ H Q ⟨Ex,ρ,M,t,S,hf,q⟩;refine⟨Ex,ρ,M,t,S,?_,q⟩;cases (aIz hf);show (if (tI ns).length<=cap then some (T.lst (tI ns)) else none)=_;rw[if_pos (by rw[tI_length];exact of_decide_eq_true hl)]
@[simp] theorem setL_nil (ρ:Rho):setL ρ [] []=some ρ:=rfl
@[simp] theorem setL_cons (ρ:Rho) (j:Nat) (js:List Nat) (t:T) (ts:List T):setL ρ (j::js) (t::ts)=setL (ρ.set j (some t)) js ts:=rfl
theorem TF {f:Rho->Option T}{ρ:Rho}{ns:List Int}(h:Nat->Int) (h2:∀ i,i<ns.length->f ((ρ.set 0 (some (.int (i:Int)))).set 1 (some (.int (ns.getD i 0))))=some (.int (h i))):
  bR [0,1] aR f ρ (cU 0 (tI ns))=some (tI ((List.range ns.length).map h)):=by
 have key:∀ (ms:List Int) (n:Nat),(∀ i,i<ms.length->f ((ρ.set 0 (some (.int ((n+i:Nat):Int)))).set 1 (some (.int (ms.getD i 0))))=some (.int (h (n+i))))->bR [0,1] aR f ρ (cU n (tI ms))=some (tI ((List.range' n ms.length).map h)):=by
  intro ms
  induction ms with
  | nil=>intro n _;rfl
  | cons m ms ih=>
   intro n hh;have e0:=hh 0 (by simp);have ih':=ih (n+1) (fun i hi=>by
    have:=hh (i+1) (by simpa using hi);rw[show n+1+i=n+(i+1) by lia]
    simpa using this)
   rw[Nat.add_zero] at e0;show (setL ρ [0,1] [.int (n:Int),.int m]).bind _=_;simp only[setL_cons,setL_nil,aLt,aR,if_true];rw[show f ((ρ.set 0 (some (.int (n:Int)))).set 1 (some (.int m)))=some (.int (h n)) from e0];show ((bR [0,1] aR f ρ (cU (n+1) (tI ms))).map (T.int (h n) :: ·))=_;rw[ih']
   rfl
 have:=key ns 0 (fun i hi=>by rw[aLp];exact h2 i hi)
 rwa [<- List.range_eq_range'] at this
theorem AY {j:Nat}{body:Rho->Option Out}(I:Rho->Prop) (c:T->Option T):∀ ts:List T,(∀ t∈ts,∀ ρ,I ρ->(c t=none/\∃ ρ',body (ρ.set j (some t))=some (.nx ρ')/\I ρ')\/(∃ r,c t=some r/\body (ρ.set j (some t))=some (.rt r)))->∀ ρ,I ρ ->
  (ts.findSome? c=none/\∃ ρ',bO j body ts ρ=some (.nx ρ')/\I ρ')\/(∃ r,ts.findSome? c=some r/\bO j body ts ρ=some (.rt r))
 | [],_,ρ,h=>.inl ⟨rfl,ρ,rfl,h⟩
 | t::ts,hb,ρ,h=>by
  rw[sH];rcases hb t aJ3 ρ h with ⟨h1,ρ',h2,h3⟩ | ⟨r,h1,h2⟩
  ·rw[h2]
   simp only[aLt,aK3,h1];exact AY I c ts (fun u hu=>hb u (aJ2 _ hu)) ρ' h3
  ·rw[h2]
   simp only[aLt,aK3,h1];exact .inr ⟨r,rfl,rfl⟩
theorem HQ {js:List Nat}{body:Rho->Option Out}(I:Rho->Prop) (c:T->Option T):∀ ts:List T,(∀ t∈ts,∀ ρ,I ρ->∃ us ρ1,t=.tup us/\setL ρ js us=some ρ1/\((c t=none/\∃ ρ',body ρ1=some (.nx ρ')/\I ρ')\/(∃ r,c t=some r/\body ρ1=some (.rt r))))->∀ ρ,I ρ ->
  (ts.findSome? c=none/\∃ ρ',eC js body ts ρ=some (.nx ρ')/\I ρ')\/(∃ r,ts.findSome? c=some r/\eC js body ts ρ=some (.rt r))
 | [],_,ρ,h=>.inl ⟨rfl,ρ,rfl,h⟩
 | t::ts,hb,ρ,h=>by
  obtain⟨us,ρ1,rfl,hs,hc⟩:=hb t aJ3 ρ h;have e:eC js body (.tup us::ts) ρ=(body ρ1).bind fun o=>match o with | .nx ρ'=>eC js body ts ρ' | .ct ρ'=>eC js body ts ρ' | .bk ρ'=>some (.nx ρ') | .rt t=>some (.rt t):=by
   show (setL ρ js us).bind _=_;rw[hs];rfl
  rw[e];rcases hc with ⟨h1,ρ',h2,h3⟩ | ⟨r,h1,h2⟩
  ·rw[h2]
   simp only[aLt,aK3,h1];exact HQ I c ts (fun u hu=>hb u (aJ2 _ hu)) ρ' h3
  ·rw[h2]
   simp only[aLt,aK3,h1];exact .inr ⟨r,rfl,rfl⟩
theorem AN (ns:List Int):cU 0 (tI ns)=(List.range ns.length).map fun p=>.tup [.int (p:Int),.int (ns.getD p 0)]:=by
 apply List.ext_getElem?
 intro i;rw[AM,NP,aKa,aLp]
 by_cases h:i<ns.length
 ·rw[List.getElem?_range h,aJ1 h]
  simp[aJ0,h]
 ·rw[List.getElem?_eq_none (Nat.le_of_not_lt h),List.getElem?_eq_none (by simpa using h)];rfl
theorem HK {α β:Type}(q:α->Bool) (g:α->β):∀ l:List α,l.findSome? (fun x=>if q x then some (g x) else none)=(l.find? q).map g
 | []=>rfl
 | a::l=>by
  rw[aK3,aK2];cases q a with
  | true=>rfl
  | false=>exact HK q g l
theorem wT {α β:Type}{f g:α->Option β}:∀ {l:List α},(∀ x∈l,f x=g x)->l.findSome? f=l.findSome? g
 | [],_=>rfl
 | a::l,h=>by
  rw[aK3,aK3,h a aJ3,wT fun x hx=>h x (aJ2 _ hx)]
def dF:List Int->Int
 | []=>0
 | x::r=>r.foldl (fun a b=>if b<a then b else a) x
theorem FP (c:Int->Int->Bool) (ns:List Int):∀ k,k<ns.length ->
  ns.getD (argBest (fun i j=>c (ns.getD i 0) (ns.getD j 0)) k) 0=((ns.take (k+1)).drop 1).foldl (fun a b=>if c b a then b else a) (ns.getD 0 0)
 | 0,h=>by
  cases ns with
  | nil=>simp at h
  | cons x r=>simp[argBest]
 | k+1,h=>by
  have ih:=FP c ns k (by lia);have e:(ns.take (k+1+1)).drop 1=(ns.take (k+1)).drop 1++[ns.getD (k+1) 0]:=by
   rw[List.take_succ,List.drop_append_of_le_length (by rw[aKl];lia)];simp[aJ0,h]
  rw[e,List.foldl_append,<- ih];rw[argBest];cases hb:c (ns.getD (k+1) 0) (ns.getD (argBest (fun i j=>c (ns.getD i 0) (ns.getD j 0)) k) 0) with
  | true=>simp only[aK5,List.foldl_nil,hb,if_true]
  | false=>simp only[aK5,List.foldl_nil,hb,aJf,if_false]
theorem SC {ns:List Int}(h:0<ns.length):ns.getD (argBest (fun i j=>decide (ns.getD i 0<ns.getD j 0)) (ns.length-1)) 0=dF ns:=by
 have:=FP (fun a b=>decide (a<b)) ns (ns.length-1) (by lia);rw[this];cases ns with
 | nil=>simp at h
 | cons x r=>simp[dF]
theorem wU:∀ (r:List Int) (x:Int),r.foldl (fun a b=>if b<a then b else a) x<=x/\(∀ y∈r,r.foldl (fun a b=>if b<a then b else a) x<=y)/\(r.foldl (fun a b=>if b<a then b else a) x=x\/r.foldl (fun a b=>if b<a then b else a) x∈r)
 | [],x=>⟨Int.le_refl _,by simp,.inl rfl⟩
 | z::r,x=>by
  rw[aK5];obtain⟨h1,h2,h3⟩:=wU r (if z<x then z else x);have hw:(if z<x then z else x)=z/\z<x\/(if z<x then z else x)=x/\¬ z<x:=by
   by_cases h:z<x
   ·exact .inl ⟨if_pos h,h⟩
   ·exact .inr ⟨if_neg h,h⟩
  generalize (if z<x then z else x)=w at h1 h2 h3 hw;refine⟨by lia,fun y hy=>?_,?_⟩
  ·rcases aJb.mp hy with rfl | hy
   ·lia
   ·exact h2 y hy
  ·rcases h3 with h3 | h3
   ·rw[h3]
    rcases hw with hw | hw
    ·rw[hw.1];exact .inr aJ3
    ·exact .inl hw.1
   ·exact .inr (aJ2 _ h3)
theorem KP {ns:List Int}(h:ns≠[]):dF ns∈ns:=by
 cases ns with
 | nil=>exact absurd rfl h
 | cons x r=>
  rcases (wU r x).2.2 with e | e
  ·rw[dF,e];exact aJ3
  ·exact aJ2 _ e
theorem ZX {ns:List Int}{y:Int}(h:y∈ns):dF ns<=y:=by
 cases ns with
 | nil=>cases h
 | cons x r=>
  rcases aJb.mp h with rfl | h
  ·exact (wU r _).1
  ·exact (wU r x).2.1 y h
def xS:List T->Option T
 | [.lst ts]=>(bX ts).bind fun ns=>if ns=[] then none else some (.int (dF ns))
 | _=>none
theorem aAe {ns:List Int}(h:ns≠[]):xS [.lst (tI ns)]=some (.int (dF ns)):=by simp[xS,mM,h]
section
variable {X:Cx}{B:Hp}{fl:List Nat}{e:Expr}{es:List Expr}{f:Rho->Option T}{fa:Rho->Option (List T)}{n n':Bool}{l l' k:Nat}{pos p' p2:Pos}{x:Str}{ps:List Str}{F:List T->Option T}
theorem SS (hc:X.calm=true):eR X (.builtin "min") (fun xs H Q=>∃ (a:Addr) (ns:List Int),xs=[.ref a]/\ns≠[]/\SqL X.K H a (ns.map V.int)/\Q (.int (dF ns)) H):=by
 intro pins s σ H xs us Q I r h;obtain⟨a,ns,rfl,hne,hS,q⟩:=h;obtain⟨u,rfl,ru⟩:=rT r;cases ru;obtain⟨its,rv,p,hz⟩:=I.list hS;have hl:=rv.length;have ha:a<s.heap.objs.size:=by obtain⟨o,n,e,_⟩:=p;exact aJj e
 have es:its.toArray.size=ns.length:=by simp only[aJ8];rw[<- hl];simp
 have hpos:0<ns.length:=List.length_pos_iff.mpr hne;have val:∀ i v,its.toArray[i]?=some v->∃ t,v=Value.int (ns.getD i 0) t:=fun i v hv=>by
  have hv':its[i]?=some v:=by simpa using hv
  have hi:i<its.length:=(aJ4.mp hv').1;have hin:i<ns.length:=by rw[aKg] at hl;lia
  have e1:(ns.map V.int)[i]?=some (V.int (ns.getD i 0)):=by
   rw[aKa,aJ1 hin];simp[aJ0,hin]
  obtain⟨u,e2,ru⟩:=rv.get e1;rw[hv'] at e2;cases (aIz e2);exact ru
 refine call_min_walkS (wpAny_pyIter_list p.isList ?_);refine⟨s.heap.objs.size,[s.heap.objs.size,a],[s.heap.objs.size],_,its.toArray.size,_,_,_,rfl,(Walks.list (A:=X.A.in1) (I.ok.hd hc) s.heap.objs.size a (aLh ha) its.toArray).toS,⟨⟨_,aJi _ rfl,rfl,rfl⟩,p.isList.push _⟩,fun b hb=>?_,by lia,CmpOf.ints_lt (fun i=>ns.getD i 0) val,fun v s' hP mv=>?_⟩
 ·simp only[aJb,List.mem_nil_iff,or_false] at hb
  rw[aJk];rcases hb with rfl | rfl
  ·exact aLd _
  ·exact Nat.lt_succ_of_lt ha
 ·obtain⟨t,rfl⟩:=val _ _ hP
  rw[es,SC hpos];exact⟨.int (dF ns),H,CD I _ mv,⟨_,rfl⟩,q⟩
theorem WY (hx:x = "min") (hc:X.calm=true) (hg:Gl X x) (hm:X.mg x=none) (ha:GA X B fl (e::es) fa l)
  (he:starEach (e::es) X.env=(false,eval e X.env)::starEach es X.env:=by rfl) (hpl:(backTo pos (starEach es X.env)).any (·.1)=false:=by rfl):GE X B fl (.Call (.Name x p') (e::es) [] pos) (aG fa xS) true 3:=by
 subst hx;refine bI (kD (SS hc) hg hm PyProof.Rows.boot_min ha (by decide) (by decide) he hpl) ?_;rintro σ H Q ⟨Ex,ρ,M,t,S,hf,q⟩;obtain⟨ts,hts,hf⟩:=bind_some hf;refine⟨Ex,ρ,M,ts,S,hts,fun vs H1 s1 r1=>?_⟩
 match ts,hf with
 | [.lst us],hf=>
  obtain⟨ns,ea,hg⟩:=bind_some (show ((bX us).bind fun ns=>if ns=[] then none else some (T.int (dF ns)))=some t from hf);cases jN ea
  by_cases hne:ns=[]
  ·rw[if_pos hne] at hg;cases hg
  ·rw[if_neg hne] at hg
   cases (aIz hg);obtain⟨y,rfl,ry⟩:=eG r1;obtain⟨p,xs,rfl,h1,h2⟩:=ry.sqL;cases kG h2;exact⟨p,ns,rfl,hne,h1,q _ H1 s1 ((aN.scal rfl).mpr rfl)⟩
def tE:T->T->Option T
 | .int i,.lst ts=>(bX ts).map fun ns=>.bl (!ns.contains i)
 | .int i,.tup ts=>(bX ts).map fun ns=>.bl (!ns.contains i)
 | _,_=>none
theorem CB (i:Int):∀ ns:List Int,inV (.int i) (ns.map V.int)=ns.contains i
 | []=>rfl
 | n::ns=>by
  have ih:=CB i ns;unfold inV at ih ⊢;rw[aKo,aJw,ih,List.contains_cons];have:eqV (.int n) (.int i)=(i == n):=by
   show (n == i)=(i == n);exact Bool.beq_comm
  rw[this]
theorem AV:∀ ns:List Int,(ns.map V.int).all hJ=true
 | []=>rfl
 | n::ns=>by rw[aKo,List.all_cons,AV ns];rfl
theorem XJ {K:PySem.W.Frag}:GOp K (rIn K true) tE:=by
 intro x y t h;cases x<;>first | (cases h;done) | skip
 rename_i i;cases y<;>first | (cases h;done) | skip
 ·rename_i us
  have h:(bX us).map (fun ns=>T.bl (!ns.contains i))=some t:=h;cases ea:bX us with
  | none=>rw[ea] at h;cases h
  | some ns=>
   rw[ea] at h;cases (aIz h);cases jN ea;refine⟨rfl,fun H A A' vx vy rx ry Q q=>?_⟩;cases (show _=_ from rx);obtain⟨p,xs,rfl,h1,h2⟩:=ry.sqL;cases kG h2;refine⟨p,_,rfl,.inl h1,rfl,AV ns,?_⟩;rw[CB];exact q
 ·rename_i us
  have h:(bX us).map (fun ns=>T.bl (!ns.contains i))=some t:=h;cases ea:bX us with
  | none=>rw[ea] at h;cases h
  | some ns=>
   rw[ea] at h;cases (aIz h);cases jN ea;refine⟨rfl,fun H A A' vx vy rx ry Q q=>?_⟩;cases (show _=_ from rx);obtain⟨p,xs,rfl,h1,h2⟩:=ry.sqT;cases kG h2;refine⟨p,_,rfl,.inr h1,rfl,AV ns,?_⟩;rw[CB];exact q
variable {a b:Expr}{g:Rho->Option T}
theorem XW (ha:GE X B fl a f n l) (hb:GE X B fl b g n' l') (hm:behindInMarks .NotIn b=false:=by rfl):GT X B fl (.Compare a [.NotIn] [b] pos) (fB (f2 f g tE)):=jU aC7 XJ ha hb hm
def yF (f:Rho->Option T):Rho->Option Out:=fun ρ=>(f ρ).map fun _=>.nx ρ
theorem XN (he:GE X B fl e f n' l') (hs:swapsWith e none pos.line X.env=pure false:=by rfl):GS X B fl n l (.Expr e pos) (yF f):=by
 refine dP (yD he hs) ?_;rintro D σ H ⟨Ex,ρ,M,o,S,hr,q⟩;unfold yF at hr;cases e1:f ρ with
 | none=>rw[e1] at hr;cases hr
 | some t=>
  rw[e1] at hr;cases (aIz hr);exact⟨Ex,ρ,M,t,S,e1,fun v H1 s1 rx=>q _ M H1 (S.grow s1)⟩
def cD (p:Rho->Option Bool) (r:Rho->Option Out):Nat->Rho->Option Out
 | 0,_=>none
 | k+1,ρ=>(p ρ).bind fun b=>if b then (r ρ).bind fun o=>match o with | .nx ρ'=>cD p r k ρ' | .ct ρ'=>cD p r k ρ' | .bk ρ'=>some (.nx ρ') | .rt t=>some (.rt t) else some (.nx ρ)
def nF (p:Rho->Option Bool) (r:Rho->Option Out):Rho->Option Out:=cD p r 100000
theorem BS {c:Expr}{body:List Stmt}{p:Rho->Option Bool}{r:Rho->Option Out}(hp:PassesOwn (model X.prog X.w) X.A X.env X.xe) (hc:GT X B fl c p) (hb:GSs X B fl n l body r):GS X B fl n l (.While c body [] pos) (nF p r):=by
 refine dP (aDe hp hc hb) ?_;rintro D σ H ⟨Ex,ρ,M,o,S,hr,q⟩;refine⟨fun m σ1 H1=>∃ ρ1 M1,Sl X.K B fl Ex σ1 ρ1 M1 H1/\cD p r m ρ1=some o,⟨_,ρ,M,S,hr⟩,?_⟩;rintro m σ1 H1 ⟨ρ1,M1,S1,e1⟩;cases m with
 | zero=>cases e1
 | succ m=>
  obtain⟨b,hb,e1⟩:=bind_some (show ((p ρ1).bind fun b=>if b then (r ρ1).bind fun o=>match o with | .nx ρ'=>cD p r m ρ' | .ct ρ'=>cD p r m ρ' | .bk ρ'=>some (.nx ρ') | .rt t=>some (.rt t) else some (.nx ρ1))=some o from e1)
  refine⟨Ex,ρ1,M1,b,S1,hb,fun H2 s2=>?_⟩;cases b with
  | false=>
   cases (aIz (show some (Out.nx ρ1)=some o from e1));exact jY (q σ1 M1 H2 (S1.grow s2))
  | true=>
   obtain⟨o1,h1,e1⟩:=bind_some (show ((r ρ1).bind fun o=>match o with | .nx ρ'=>cD p r m ρ' | .ct ρ'=>cD p r m ρ' | .bk ρ'=>some (.nx ρ') | .rt t=>some (.rt t))=some o from e1)
   refine jZ ⟨fun σ' H'=>∃ ρ1 M1,Sl X.K B fl Ex σ' ρ1 M1 H'/\cD p r m ρ1=some o,fun σ' H' h=>⟨m,aLd m,h⟩,Ex,ρ1,M1,o1,S1.grow s2,h1,?_⟩;cases o1 with
   | nx ρ'=>exact fun σ' M' H' S'=>⟨ρ',M',S',e1⟩
   | ct ρ'=>exact fun σ' M' H' S'=>⟨ρ',M',S',e1⟩
   | bk ρ'=>cases (aIz e1);exact fun σ' M' H' S'=>q σ' M' H' S'
   | rt t=>cases (aIz e1);exact q
end
@[simp] theorem rDrop_at (f:Rho->Option T) (ρ:Rho):yF f ρ=(f ρ).map fun _=>.nx ρ:=id rfl
@[simp] theorem rWhile_at (p:Rho->Option Bool) (r:Rho->Option Out) (ρ:Rho):nF p r ρ=cD p r 100000 ρ:=id rfl
theorem aAf (i:Int) (ns:List Int):tE (.int i) (.lst (tI ns))=some (.bl (!ns.contains i)):=by simp[tE,mM]
theorem FZ (g k:Nat):(g / 2^k%2 == 1)=g.testBit k:=by
 rw[Nat.testBit_eq_decide_div_mod_eq];rw[aJe];simp
theorem CL {g n k:Nat}(h:g<2^n) (hk:n<=k):g.testBit k=false:=Nat.testBit_lt_two_pow (aJ7 h (aLj (by decide) hk))
theorem cN {a b:Nat}(h:∀ i,a.testBit i=b.testBit i):a=b:=Nat.eq_of_testBit_eq h
theorem SB (a b p:Nat):(a&&&b)&&&p=(a&&&p)&&&(b&&&p):=cN fun i=>by
 simp only[aLm];cases a.testBit i<;>cases b.testBit i<;>cases p.testBit i<;>rfl
theorem or3 (a b p:Nat):(a|||b)&&&p=(a&&&p)|||(b&&&p):=cN fun i=>by
 simp only[aLm,aLn];cases a.testBit i<;>cases b.testBit i<;>cases p.testBit i<;>rfl
def gvS (row:List Int):List Nat->Nat->Int
 | [],_=>0
 | k::ks,g=>(if g.testBit k then row.getD k 0 else 0)+gvS row ks g
def gv (row:List Int) (g:Nat):Int:=gvS row (List.range row.length) g
theorem IR (row:List Int) (g:Nat):∀ ks:List Nat,((ks.filter fun k=>g / 2^k%2 == 1).map fun k=>row.getD k 0).sum=gvS row ks g
 | []=>rfl
 | k::ks=>by
  have ih:=IR row g ks;rw[aK1,gvS,<- ih,FZ];cases g.testBit k<;>simp
theorem IU (row:List Int) (a b:Nat):∀ ks:List Nat,gvS row ks (a|||b)+gvS row ks (a&&&b)=gvS row ks a+gvS row ks b
 | []=>rfl
 | k::ks=>by
  have ih:=IU row a b ks;simp only[gvS,aLn,aLm];generalize row.getD k 0=x;cases a.testBit k<;>cases b.testBit k<;>simp<;>lia
theorem sN (row:List Int) (a b:Nat):gv row (a|||b)+gv row (a&&&b)=gv row a+gv row b:=IU row a b _
theorem IW (row:List Int):∀ ks:List Nat,gvS row ks 0=0
 | []=>rfl
 | k::ks=>by
  rw[gvS,IW row ks,aLr];rfl
theorem mW (row:List Int):gv row 0=0:=IW row _
theorem GV {n a:Nat}(h:a<2^n) (k:Nat):(2^n-1-a).testBit k=(decide (k<n) && !a.testBit k):=by
 have e:2^n-1-a=2^n-(a+1):=by lia
 rw[e,Nat.testBit_two_pow_sub_succ h]
theorem wY (n k:Nat):(2^n-1).testBit k=decide (k<n):=Nat.testBit_two_pow_sub_one n k
theorem IY {row:List Int}{a:Nat}(h:a<2^row.length):gv row (2^row.length-1-a)+gv row a=gv row (2^row.length-1):=by
 have e1:a|||(2^row.length-1-a)=2^row.length-1:=cN fun k=>by
  rw[aLn,GV h,wY]
  by_cases hk:k<row.length
  ·simp[hk]
  ·rw[CL h (by lia)];simp[hk]
 have e2:a&&&(2^row.length-1-a)=0:=cN fun k=>by
  rw[aLm,GV h,aLr];cases a.testBit k<;>simp
 have:=sN row a (2^row.length-1-a);rw[e1,e2,mW] at this;lia
def Sub (n:Nat) (t:List Int):Prop:=∀ a b,a<2^n->b<2^n->t.getD (a|||b) 0+t.getD (a&&&b) 0<=t.getD a 0+t.getD b 0
def aM (g:Nat):Nat:=g%2+g / 2%2+g / 4%2+g / 8%2+g / 16%2+g / 32%2
theorem SW:((List.range 64).all fun a=>(List.range 64).all fun b=>(aM (a|||b)+aM (a&&&b) == aM a+aM b)&&decide (aM (a&&&b)<=aM a)&&decide (aM (a&&&b)<=aM b))=true:=by decide +kernel
theorem GD {a b:Nat}(ha:a<64) (hb:b<64):aM (a|||b)+aM (a&&&b)=aM a+aM b/\aM (a&&&b)<=aM a/\aM (a&&&b)<=aM b:=by
 have h:=aJ5.mp (aJ5.mp SW a (aJ6.mpr ha)) b (aJ6.mpr hb);simp only[aJc,decide_eq_true_eq,beq_iff_eq] at h;exact⟨h.1.1,h.1.2,h.2⟩
def mn (a:Nat) (m:Int):Int:=if m<(a:Int) then m else (a:Int)
theorem aA0 {a b p:Nat}{m:Int}(ha:a<64) (hb:b<64):mn (aM ((a|||b)&&&p)) m+mn (aM ((a&&&b)&&&p)) m<=mn (aM (a&&&p)) m+mn (aM (b&&&p)) m:=by
 rw[or3,SB];have h1:a&&&p<64:=aLb Nat.and_le_left ha;have h2:b&&&p<64:=aLb Nat.and_le_left hb;obtain⟨q1,q2,q3⟩:=GD h1 h2;unfold mn;generalize aM ((a&&&p)|||(b&&&p))=u at *;generalize aM ((a&&&p)&&&(b&&&p))=v at *;generalize aM (a&&&p)=s at *;generalize aM (b&&&p)=w at *
 split<;>split<;>split<;>split<;>lia
def sq (k:Nat):Nat:=aM k*aM k
theorem aF9:((List.range 64).all fun a=>(List.range 64).all fun b=>((a|||b == a)&&(a&&&b == b))||((a|||b == b)&&(a&&&b == a))||decide (sq a+sq b+2<=sq (a|||b)+sq (a&&&b)))=true:=by decide +kernel
theorem aA9 {n:Nat}(h6:n<=6) {wide:Int}(hw:0<wide) {t:List Int}(h:∀ k,k<2^n->∃ e:Int,0<=e/\e<wide/\t.getD k 0=e-wide*((sq k:Nat):Int)):Sub n t:=by
 have h64:2^n<=64:=aL9 (aLj (by decide) h6) (by decide:2^6<=64);intro a b ha hb;have c:=aJ5.mp (aJ5.mp aF9 a (aJ6.mpr (by lia))) b (aJ6.mpr (by lia));simp only[aJh,aJc,beq_iff_eq,decide_eq_true_eq] at c;rcases c with (⟨e1,e2⟩ | ⟨e1,e2⟩) | c
 ·rw[e1,e2];lia
 ·rw[e1,e2];lia
 ·obtain⟨x1,p1,q1,r1⟩:=h _ (aLi ha hb)
  obtain⟨x2,p2,q2,r2⟩:=h _ (aLb (Nat.and_le_left (n:=a) (m:=b)) ha);obtain⟨x3,p3,q3,r3⟩:=h _ ha;obtain⟨x4,p4,q4,r4⟩:=h _ hb;rw[r1,r2,r3,r4];have m:=aJq (show ((sq a:Nat):Int)+(sq b:Nat)+2<=(sq (a|||b):Nat)+(sq (a&&&b):Nat) by lia) (aJn hw);rw[aJp,aJp,aJp] at m;lia
theorem FR {ns:List Int}(h:0<ns.length):atI (tI ns) (-1)=some (.int (ns.getD (ns.length-1) 0)):=by
 unfold atI ixN;rw[if_neg (by lia),if_pos (by rw[tI_length];lia),aLt,NP,tI_length];have e:(-1+(ns.length:Int)).toNat=ns.length-1:=by lia
 rw[e,aJ0,aJ1 (by lia)];rfl
@[simp] theorem oLen_tup (ts:List T):dN [.tup ts]=some (.int ts.length):=rfl
@[simp] theorem oList_tup (ts:List T):LA [.tup ts]=some (.lst ts):=rfl
def tP {α:Type} (tp:α->List T) (xs:List α):List T:=xs.map fun x=>.tup (tp x)
theorem AH {α:Type}{js:List Nat}{p:Rho->Option Bool}{f:Rho->Option T}{ρ:Rho}(tp:α->List T) (c:α->Bool) (h:α->T):∀ xs:List α,(∀ x∈xs,∃ ρ1,setL ρ js (tp x)=some ρ1/\p ρ1=some (c x)/\(c x=true->f ρ1=some (h x)))->bR js p f ρ (tP tp xs)=some ((xs.filter c).map h)
 | [],_=>rfl
 | x::xs,hx=>by
  have ih:=AH tp c h xs fun y hy=>hx y (aJ2 _ hy);obtain⟨ρ1,e1,e2,e3⟩:=hx x aJ3;show (setL ρ js (tp x)).bind _=_;rw[e1,aLt,e2,aLt,aK1];cases hc:c x with
  | true=>
   rw[if_pos rfl,if_pos rfl,e3 hc,aLt];show ((bR js p f ρ (tP tp xs)).map _)=_;rw[ih];rfl
  | false=>
   rw[if_neg (by decide),if_neg (by decide)];exact ih
theorem wV {α:Type}{js:List Nat}{body:Rho->Option Out}(tp:α->List T) (I:List α->Rho->Prop):∀ (xs ys:List α),(∀ x∈xs,∀ ys ρ,I ys ρ->∃ ρ1 ρ',setL ρ js (tp x)=some ρ1/\body ρ1=some (.nx ρ')/\I (ys++[x]) ρ')->∀ ρ,I ys ρ->∃ ρ',eC js body (tP tp xs) ρ=some (.nx ρ')/\I (ys++xs) ρ'
 | [],ys,_,ρ,h=>⟨ρ,rfl,by simpa using h⟩
 | x::xs,ys,hx,ρ,h=>by
  obtain⟨ρ1,ρ',e1,e2,h2⟩:=hx x aJ3 ys ρ h;obtain⟨ρ'',e3,h3⟩:=wV tp I xs (ys++[x]) (fun y hy=>hx y (aJ2 _ hy)) ρ' h2;refine⟨ρ'',?_,by simpa using h3⟩;show (setL ρ js (tp x)).bind _=_;rw[e1,aLt,e2];exact e3
theorem sT {m g:Nat}{f:Nat->Int}(h:g<m):((List.range m).map f).getD g 0=f g:=by
 simp[aJ0,h]
where ite_le2 (c:Bool) {x:Int} (h:0<=x):(if c then x else 0)<=x:=by cases c<;>simp<;>lia
theorem aGq (g k:Nat):((2^k&&&g:Nat) == 2^k)=g.testBit k:=by
 rw[aJe,beq_iff_eq]
 constructor
 ·intro h
  have:=congrArg (fun x=>x.testBit k) h
  simpa [aLm,Nat.testBit_two_pow_self] using this
 ·intro h
  refine cN fun i=>?_;rw[aLm,aLo]
  by_cases hk:k=i
  ·subst hk;simp[h]
  ·simp[hk]
theorem BY (row:List Int) (g k:Nat):∀ ks:List Nat,gvS row (ks++[k]) g=gvS row ks g+if g.testBit k then row.getD k 0 else 0
 | []=>by simp[gvS]
 | j::ks=>by rw[List.cons_append,gvS,BY row g k ks,gvS];lia
theorem VR (ns:List Int):cU 0 (tI ns)=tP (fun p:Nat=>[T.int (p:Int),T.int (ns.getD p 0)]) (List.range ns.length):=AN ns
theorem FY (g i:Nat):((((g / 2^i%2:Nat):Int)) == 1)=g.testBit i:=by
 rw[<- FZ];generalize g / 2^i=m;rw[aJe];simp;lia
theorem IV {row:List Int}{h:Nat}{x:Int}(hh:h<row.length) (g:Nat):∀ ks:List Nat,ks.Nodup->gvS (row.set h x) ks g=gvS row ks g+(if h∈ks then (if g.testBit h then x-row.getD h 0 else 0) else 0)
 | [],_=>by simp[gvS]
 | k::ks,hn=>by
  have ih:=IV (x:=x) hh g ks (aL1.mp hn).2;have hk:=(aL1.mp hn).1;rw[gvS,gvS,ih]
  by_cases e:k=h
  ·subst e
   rw[if_neg hk,if_pos aJ3,aJ0,aKc hh];simp only[Option.getD_some];cases g.testBit k<;>simp<;>lia
  ·have e':¬ h=k:=fun z=>e z.symm
   rw[aJ0,aJ9 (fun z=>e z.symm),<- List.getD_eq_getElem?_getD];simp only[aJb,e',false_or];lia
theorem CA {row:List Int}{h:Nat}{x:Int}(hh:h<row.length) (g:Nat):gv (row.set h x) g=gv row g+if g.testBit h then x-row.getD h 0 else 0:=by
 unfold gv;rw[aKk,IV hh g _ aL2,if_pos (aJ6.mpr hh)]
theorem JA (n g:Nat):gv (List.replicate n 0) g=0:=by
 unfold gv;have:∀ ks:List Nat,gvS (List.replicate n 0) ks g=0:=by
  intro ks
  induction ks with
  | nil=>rfl
  | cons k ks ih=>
   rw[gvS,ih];have:(List.replicate n (0:Int)).getD k 0=0:=by
    rw[aJ0,List.getElem?_replicate]
    split<;>rfl
   rw[this];simp
 exact this _
def dQ (t:List Int):List Nat->Nat->List Int->List Int
 | [],_,s=>s
 | h::r,a,s=>dQ t r (a|||2^h) (s.set h (t.getD (a|||2^h) 0-t.getD a 0))
theorem EG (t:List Int):∀ (o:List Nat) (a:Nat) (s:List Int),(dQ t o a s).length=s.length
 | [],_,_=>rfl
 | h::r,a,s=>by rw[dQ,EG t r,aKk]
structure Tk (n:Nat) (t:List Int) (a:Nat) (s:List Int):Prop where
 len:s.length=n
 lt:a<2^n
 out:∀ h,a.testBit h=false->s.getD h 0=0
 full:gv s a=t.getD a 0
theorem IX {s:List Int}{a:Nat}(h0:∀ h,a.testBit h=false->s.getD h 0=0) (g:Nat):gv s g=gv s (g&&&a):=by
 unfold gv;have:∀ ks:List Nat,gvS s ks g=gvS s ks (g&&&a):=by
  intro ks
  induction ks with
  | nil=>rfl
  | cons k ks ih=>
   rw[gvS,gvS,ih,aLm];cases hb:a.testBit k with
   | true=>simp
   | false=>rw[h0 k hb];simp
 exact this _
theorem Tk.step {n:Nat}{t:List Int}{a:Nat}{s:List Int}(T:Tk n t a s) {h:Nat}(hh:h<n) (hb:a.testBit h=false):Tk n t (a|||2^h) (s.set h (t.getD (a|||2^h) 0-t.getD a 0)):=by
 refine⟨by rw[aKk,T.len],aLi T.lt (Nat.pow_lt_pow_right (by decide) hh),fun k hk=>?_,?_⟩
 ·rw[aLn,aLo] at hk
  simp at hk;rw[aJ0,aJ9 hk.2,<- List.getD_eq_getElem?_getD];exact T.out k hk.1
 ·rw[CA (by rw[T.len];exact hh),T.out h hb]
  have e:(a|||2^h).testBit h=true:=by rw[aLn,Nat.testBit_two_pow_self];simp
  rw[e,IX T.out,if_pos rfl];have e2:(a|||2^h)&&&a=a:=cN fun i=>by
   rw[aLm,aLn];cases a.testBit i<;>simp
  rw[e2,T.full];lia
theorem Tk.start {n:Nat}{t:List Int}(h0:t.getD 0 0=0):Tk n t 0 (List.replicate n 0):=by
 refine⟨List.length_replicate ..,aLl (by decide),fun h _=>?_,by rw[mW,h0]⟩;rw[aJ0,List.getElem?_replicate]
 split<;>rfl
def Und (t:List Int) (a:Nat) (s:List Int):Prop:=∀ g,g&&&a=g->gv s g<=t.getD g 0
theorem Und.step {n:Nat}{t:List Int}(hs:Sub n t) {a:Nat}{s:List Int}(T:Tk n t a s) (U:Und t a s) {h:Nat}(hh:h<n) (hb:a.testBit h=false):Und t (a|||2^h) (s.set h (t.getD (a|||2^h) 0-t.getD a 0)):=by
 intro g hg;have hlt:g<2^n:=by
  rw[<- hg];exact aLb Nat.and_le_right (aLi T.lt (Nat.pow_lt_pow_right (by decide) hh))
 rw[CA (by rw[T.len];exact hh),T.out h hb,IX T.out];have u:=U (g&&&a) (by rw[Nat.and_assoc,Nat.and_self]);have bits:∀ i,g.testBit i=true->a.testBit i=true\/i=h:=fun i hi=>by
  have:=congrArg (fun x=>x.testBit i) hg;simp only[aLm,aLn,aLo,hi,Bool.true_and,aJh,decide_eq_true_eq] at this;rcases this with h1 | h1
  ·exact .inl h1
  ·exact .inr h1.symm
 cases hgh:g.testBit h with
 | false=>
  have e:g&&&a=g:=cN fun i=>by
   rw[aLm];cases hi:g.testBit i with
   | false=>rfl
   | true=>
    rcases bits i hi with h1 | h1
    ·rw[h1];rfl
    ·rw[h1,hgh] at hi;cases hi
  rw[e] at u ⊢;rw[if_neg (by decide)];lia
 | true=>
  have e1:g|||a=a|||2^h:=cN fun i=>by
   rw[aLn,aLn,aLo]
   by_cases hi:h=i
   ·subst hi;rw[hgh];simp
   ·cases ha:a.testBit i with
    | true=>simp
    | false=>
     cases hgi:g.testBit i with
     | false=>simp[hi]
     | true=>
      rcases bits i hgi with h1 | h1
      ·rw[ha] at h1;cases h1
      ·exact absurd h1.symm hi
  have sb:=hs g a hlt T.lt;rw[e1] at sb;rw[if_pos rfl];lia
theorem NS {n:Nat}{t:List Int}:∀ (o:List Nat) (a:Nat) (s:List Int),Tk n t a s->o.Nodup->(∀ h∈o,h<n/\a.testBit h=false)->∃ a',Tk n t a' (dQ t o a s)/\(∀ k,a'.testBit k=(a.testBit k||o.contains k))/\(Sub n t->Und t a s->Und t a' (dQ t o a s))
 | [],a,s,T,_,_=>⟨a,T,fun k=>by simp,fun _ u=>u⟩
 | h::r,a,s,T,hn,hb=>by
  obtain⟨h1,h2⟩:=hb h aJ3;obtain⟨hr,hn'⟩:=aL1.mp hn;obtain⟨a',T',b',u'⟩:=NS r (a|||2^h) _ (T.step h1 h2) hn' (fun k hk=>⟨(hb k (aJ2 _ hk)).1,by
   rw[aLn,aLo,(hb k (aJ2 _ hk)).2];simp;intro e;subst e;exact hr hk⟩)
  refine⟨a',T',fun k=>?_,fun S U=>u' S (U.step S T h1 h2)⟩;rw[b' k,aLn,aLo,List.contains_cons];cases a.testBit k with
  | true=>simp
  | false=>
   by_cases e:h=k
   ·subst e;simp
   ·have e':¬ k=h:=fun z=>e z.symm
    simp[e,e']
theorem aGj {n:Nat}(t:List Int) (h0:t.getD 0 0=0):Und t 0 (List.replicate n 0):=fun g hg=>by
 rw[Nat.and_zero] at hg;rw[<- hg,mW,h0];exact Int.le_refl _
theorem zO {n:Nat}{t:List Int}(h0:t.getD 0 0=0) {o:List Nat}(hp:o.Perm (List.range n)):gv (dQ t o 0 (List.replicate n 0)) (2^n-1)=t.getD (2^n-1) 0/\(Sub n t->∀ g,g<2^n->gv (dQ t o 0 (List.replicate n 0)) g<=t.getD g 0):=by
 obtain⟨a',T',b',u'⟩:=NS o 0 _ (Tk.start (n:=n) h0) (hp.nodup_iff.mpr aL2) (fun h hh=>⟨aJ6.mp (hp.mem_iff.mp hh),aLr h⟩);have e:a'=2^n-1:=cN fun k=>by
  rw[b' k,wY,aLr,Bool.false_or,aJe,aJx,hp.mem_iff,aJ6,decide_eq_true_eq]
 refine⟨by rw[<- e];exact T'.full,fun S g hg=>?_⟩;refine u' S (aGj t h0) g ?_;rw[e];refine cN fun k=>?_;rw[aLm,wY]
 by_cases hk:k<n
 ·simp[hk]
 ·rw[CL hg (by lia)];rfl
theorem NV {n:Nat}(t:List Int) (b:Nat):∀ (o:List Nat) (a:Nat) (s:List Int),s.length=n->(∀ h∈o,h<n/\b.testBit h=false)->gv (dQ t o a s) b=gv s b
 | [],_,_,_,_=>rfl
 | h::r,a,s,hs,hb=>by
  obtain⟨h1,h2⟩:=hb h aJ3;rw[dQ,NV t b r _ _ (by rw[aKk,hs]) (fun k hk=>hb k (aJ2 _ hk)),CA (by lia),h2];simp
theorem SK {a h k:Nat}(hk:a.testBit k=false) (hne:k≠h):(a|||2^h).testBit k=false:=by
 rw[aLn,aLo,hk];simp;exact fun e=>hne e.symm
theorem sub_le {p a:Nat}(h:p&&&a=p):p<=a:=by rw[<- h];exact Nat.and_le_right
theorem BZ {row:List Int}{k:Nat}(hk:k<row.length):gv row (2^k)=row.getD k 0:=by
 have:∀ ks:List Nat,ks.Nodup->gvS row ks (2^k)=if k∈ks then row.getD k 0 else 0:=by
  intro ks
  induction ks with
  | nil=>intro _;simp[gvS]
  | cons j ks ih=>
   intro hn;obtain⟨h1,h2⟩:=aL1.mp hn;rw[gvS,ih h2,aLo]
   by_cases e:k=j
   ·subst e
    rw[if_neg h1];simp
   ·simp[e]
 unfold gv;rw[this _ aL2,if_pos (aJ6.mpr hk)]
theorem tb0 {a e:Nat}(he:e<2):(2*a+e).testBit 0=decide (e=1):=by
 rw[Nat.testBit_zero]
 congr 1
 rw[eq_iff_iff];lia
theorem tbS {a e k:Nat}(he:e<2):(2*a+e).testBit (k+1)=a.testBit k:=by
 rw[Nat.testBit_succ]
 congr 1;lia
theorem or2 {a b e d:Nat}(he:e<2) (hd:d<2):(2*a+e)|||(2*b+d)=2*(a|||b)+(if e=1\/d=1 then 1 else 0):=cN fun i=>by
 have hq:(if e=1\/d=1 then 1 else 0)<2:=by split<;>lia
 cases i with
 | zero=>
  rw[aLn,tb0 he,tb0 hd,tb0 hq];rw[aJe];simp
 | succ k=>rw[aLn,tbS he,tbS hd,tbS hq,aLn]
theorem SA {a b e d:Nat}(he:e<2) (hd:d<2):(2*a+e)&&&(2*b+d)=2*(a&&&b)+(if e=1/\d=1 then 1 else 0):=cN fun i=>by
 have hq:(if e=1/\d=1 then 1 else 0)<2:=by split<;>lia
 cases i with
 | zero=>
  rw[aLm,tb0 he,tb0 hd,tb0 hq];rw[aJe];simp
 | succ k=>rw[aLm,tbS he,tbS hd,tbS hq,aLm]
structure Ft (n:Nat) (f:List Int):Prop where
 len:f.length=2^n
 zero:f.getD 0 0=0
 sub:Sub n f
section
variable {n:Nat}{f g:List Int}
theorem alone (h:Ft (n+1) f) {b:Nat}(hb:b<2^n):f.getD (2*b+1) 0<=f.getD (2*b) 0+f.getD 1 0:=by
 have hp:2^(n+1)=2*2^n:=by rw[Nat.pow_succ];lia
 have s:=h.sub (2*b+0) (2*0+1) (by lia) (by lia);rw[or2 (by decide) (by decide),SA (by decide) (by decide)] at s;simp only[Nat.or_zero,Nat.and_zero,Nat.zero_ne_one,false_or,false_and,if_true,if_false,Nat.mul_zero,aLp,Nat.add_zero,h.zero] at s;lia
end
def upT (n:Nat):List Int:=(List.range n).map fun (i:Nat)=>(i:Int)
@[simp] theorem upT_length (n:Nat):(upT n).length=n:=by simp[upT]
theorem aGk {n i:Nat}(h:i<n):(upT n)[i]?=some (i:Int):=by simp[upT,h]
theorem OL:∀ (n:Nat) (its:List Value),its.length=n->(∀ (j:Nat) v,its[j]?=some v->∃ t,v=Value.int ((0:Int)+(j:Nat)*1) t)->aI ((upT n).map V.int) its:=by
 have key:∀ (ks:List Int) (its:List Value),its.length=ks.length->(∀ (j:Nat) v k,its[j]?=some v->ks[j]?=some k->∃ t,v=Value.int k t)->aI (ks.map V.int) its:=by
  intro ks
  induction ks with
  | nil=>intro its hl _;cases its with
   | nil=>exact .nil
   | cons _ _=>simp at hl
  | cons k ks ih=>intro its hl h;cases its with
   | nil=>simp at hl
   | cons v its=>
    refine .cons (h 0 v k rfl rfl) (ih its (by simpa using hl) fun j v' k' e1 e2=>h (j+1) v' k' (by simpa using e1) (by simpa using e2))
 intro n its hl h;refine key _ its (by rw[hl,upT_length]) fun j v k e1 e2=>?_;obtain⟨t,rfl⟩:=h j v e1;have hj:j<n:=by
  have:j<(upT n).length:=(aJ4.mp e2).1
  simpa using this
 rw[aGk hj] at e2;cases e2;exact⟨t,by simp⟩
section
variable {X:Cx}{B:Hp}{fl:List Nat}{a:Expr}{fa:Rho->Option (List T)}{l:Nat}{pos:Pos}
def tLR (ta:TA):TE:=fun σ H Q=>ta σ H fun vs H1=>∃ j:Int,vs=[.int j]/\0<=j/\j<=1000/\∀ p,H1 p=none->Q (.ref p) (upd H1 p (.lst ((upT j.toNat).map V.int)))
theorem aCp {ta:TA}{p p2 pos pos2:Pos}(hc:X.calm=true) (hgl:Gl X "list") (hml:X.mg "list" = none) (hg:Gl X "range") (hm:X.mg "range" = none) (ha:PA X [a] ta)
  (hs:starEach [a] X.env=[(false,eval a X.env)]:=by rfl) (he:starEach [Expr.Call (.Name "range" p2) [a] [] pos2] X.env=[(false,eval (.Call (.Name "range" p2) [a] [] pos2) X.env)]:=by rfl):PE X (.Call (.Name "list" p) [.Call (.Name "range" p2) [a] [] pos2] [] pos) (tLR ta):=by
 intro pins s σ H Q I h;refine wpAny_Call_Name_kw (gN I hgl hml PyProof.Rows.boot_list ?_ (by decide) (by decide));refine aLu ?_ he rfl;rw[he];show wpAny _ _ (spliced ((false,eval (.Call (.Name "range" p2) [a] [] pos2) X.env)::[])) _ _ s;refine Calls.spliced_cons ?_;refine Call_ (gN I hg hm boot_range (aLu (thn (ha pos2 pins s σ H _ I h) fun us s1 ⟨vs,H1,I1,r1,q1⟩=>?_) hs rfl));obtain⟨j,e,q1,q2,q⟩:=q1;subst e;cases r1 with
 | cons r rr=>
  cases rr;obtain⟨t,rfl⟩:=r;refine call_range_1 ?_;refine Calls.spliced_nil ?_;have I2:Inv X pins σ H1 { s1 with heap:=s1.heap.push { cls:=.type "range",data:=.fields #[.int 0 s1.toks,.int j t,.int 1 (s1.toks+1)] },toks:=s1.toks+1+1 }:=I1.kept fun b o e=>aJa _ e;refine call_list_range (n:=j.toNat) (I.ok.hd hc) (IsRange.new ..) (small_one (by lia) (by lia) (by lia) (by lia)) (by rw[rangeSize_one];split<;>lia) (by lia) fun h' tk acc' c' kp e hi=>?_
  refine⟨.ref _,_,I2.laid (t':=tk) (o:=.lst ((upT j.toNat).map V.int)) kp (aL8 _) ⟨by simp[sizeLine_eq];lia,acc'.toList,c',OL j.toNat acc'.toList (by simpa using hi.1) (fun k v hk=>hi.2 k v (by simpa using hk)),by simpa using e⟩,rfl,q _ (I2.hok.fresh (aL8 _))⟩
def sX:List T->Option T
 | [.int j]=>if 0<=j/\j<=1000 then some (.lst (tI (upT j.toNat))) else none
 | _=>none
theorem aAd {n:Nat}(h:n<=1000):sX [.int (n:Int)]=some (.lst (tI (upT n))):=by
 unfold sX;dsimp only;rw[if_pos (by lia)]
 rfl
theorem tV {K:PySem.W.Frag}{H:Hp}{A:Addr->Prop}:∀ (ns:List Int),RepL K H A (tI ns) (ns.map V.int)
 | []=>rfl
 | n::ns=>⟨.int n,ns.map V.int,rfl,rfl,tV ns⟩
theorem WX {p p2 pos2:Pos}{x y:Str}(hx:x = "list") (hy:y = "range") (hc:X.calm=true) (hgl:Gl X x) (hml:X.mg x=none) (hg:Gl X y) (hm:X.mg y=none) (ha:GA X B fl [a] fa l)
  (hs:starEach [a] X.env=[(false,eval a X.env)]:=by rfl) (he:starEach [Expr.Call (.Name y p2) [a] [] pos2] X.env=[(false,eval (.Call (.Name y p2) [a] [] pos2) X.env)]:=by rfl):GE X B fl (.Call (.Name x p) [.Call (.Name y p2) [a] [] pos2] [] pos) (aG fa sX) true 3:=by
 subst hx hy;refine bI (aCp hc hgl hml hg hm ha hs he) ?_;rintro σ H Q ⟨Ex,ρ,M,t,S,hf,q⟩;obtain⟨ts,hts,hf⟩:=bind_some hf;refine⟨Ex,ρ,M,ts,S,hts,fun vs H1 s1 r1=>?_⟩
 match ts,hf with
 | [.int j],hf=>
  unfold sX at hf;dsimp only at hf;split at hf
  ·rename_i hj
   cases (aIz hf);obtain⟨y,rfl,ry⟩:=eG r1;cases (show _=_ from ry);exact⟨j,rfl,hj.1,hj.2,fun p hp=>q _ _ (s1.trans (dZ hp _)) (aN.laid s1 hp (tV _))⟩
  ·cases hf
end
section
variable {X:Cx}{B:Hp}{fl:List Nat}{a b:Expr}{f g:Rho->Option T}{n n':Bool}{l l':Nat}{pos:Pos}
def aAc:T->T->Option T
 | .bl a,.bl b=>some (.bl (a == b))
 | _,_=>none
def qY:T->T->Option T
 | .bl a,.bl b=>some (.bl (!(a == b)))
 | _,_=>none
theorem aC4:OpR X (compareOp .IsNot) (fun x y H Q=>∃ a b,x=.bl a/\y=.bl b/\Q (.bl (!(a == b))) H):=by
 intro pins s σ H x y v u Q I rx ry h;obtain⟨a,b,rfl,rfl,q⟩:=h;cases rx;cases ry;exact wpAny_pure (AU I q (by cases a<;>cases b<;>rfl))
theorem XH {K:PySem.W.Frag}:GOp K (fun x y H Q=>∃ a b,x=.bl a/\y=.bl b/\Q (.bl (!(a == b))) H) qY:=by
 intro x y t h;cases x<;>first | (cases h;done) | skip
 cases y<;>first | (cases h;done) | skip
 cases (aIz h);exact⟨rfl,fun H A A' vx vy rx ry Q q=>⟨_,_,rx,ry,q⟩⟩
theorem BU (ha:GE X B fl a f n l) (hb:GE X B fl b g n' l'):GT X B fl (.Compare a [.IsNot] [b] pos) (fB (f2 f g qY)):=jU aC4 XH ha hb (gO _)
@[simp] theorem oIsNotB_bl (a b:Bool):qY (.bl a) (.bl b)=some (.bl (!(a == b))):=rfl
@[simp] theorem oIsB_bl (a b:Bool):aAc (.bl a) (.bl b)=some (.bl (a == b)):=rfl
end
def sP:T->Bool
 | .lst _=>true
 | _=>false
def aDw (i:Nat) (r:Rho->Option Out):Rho->Option Out:=fun ρ=>(aA i ρ).bind fun t=>if sP t then (r ρ).bind fun o=>match o with | .rt t=>some (.rt t) | _=>none else none
theorem Sl.frz {K:PySem.W.Frag}{B:Hp}{fl:List Nat}{Ex:List (T × V)}{σ:St}{ρ:Rho}{M:List Addr}{H:Hp}(S:Sl K B fl Ex σ ρ M H) {i:Nat}{ts:List T}(hi:ρ[i]?=some (some (.lst ts))) (hf:fl.getD i 1=0) (hl:i<fl.length):
  ∃ M',Sl K B (fl.set i 1) [] σ ρ M' H:=by
 obtain⟨g,hg,ap⟩:=S.mu;obtain⟨v0,e1,sh,e5⟩:=hg i _ hi hf rfl;obtain⟨xs,e2,e3,e4⟩:=e5 0 ts ⟨rfl,rfl⟩;cases (show v0=.ref (g i 0) from sh);generalize ga:g i 0=a at e1 e2 e4;have sub:∀ b,b∈M.filter (fun b=>!decide (b=a))->b∈M:=fun b hb=>(aKu.mp hb).1;have aw:∀ (l:Nat) (b:Addr),Ad B H M l b->Ad B H (M.filter fun b=>!decide (b=a)) l b:=fun l b h=>⟨fun z w=>h.1 z (sub b w),h.2⟩;have fne:∀ j,j≠i->(fl.set i 1).getD j 1=fl.getD j 1:=fun j hj=>by
  rw[aJ0,aJ9 (Ne.symm hj),<- List.getD_eq_getElem?_getD]
 have fe:(fl.set i 1).getD i 1=1:=by rw[aJ0,aKc hl];rfl
 refine⟨M.filter fun b=>!decide (b=a),S.same,fun j t ej hj=>?_,⟨g,fun j t ej hj hm=>?_,fun j k c d t u us ws hjk ej ek fj fk=>?_⟩,fun p hp=>(by cases hp),fun b hb=>S.mB b (sub b hb),?_⟩
 ·by_cases hji:j=i
  ·subst hji
   rw[hi] at ej;cases ej;refine⟨.ref a,e1,a,xs,rfl,.inl ⟨⟨fun _ z=>?_,fun z=>?_,fun z=>?_⟩,.inl e2⟩,?_⟩
   ·have:=(aKu.mp z).2
    simp at this
   ·rw[fe] at z;lia
   ·rw[fe] at z;lia
   ·rw[fe]
    exact e3.weak fun b x=>aw 1 b (x.le (fK fl))
  ·rw[fne j hji] at hj ⊢
   obtain⟨v,v1,v2⟩:=S.slot j t ej hj;exact⟨v,v1,v2.weak fun b x=>aw _ b x⟩
 ·by_cases hji:j=i
  ·subst hji
   rw[fe] at hj;cases hj
  ·rw[fne j hji] at hj
   obtain⟨w,w1,w2,w3⟩:=hg j t ej hj hm;refine⟨w,w1,w2,fun c us h=>?_⟩;obtain⟨ys,f1,f2,f3⟩:=w3 c us h;refine⟨ys,f1,f2.weak fun c x=>aw _ c (x.le (KC (by rw[hf];decide))),aKu.mpr ⟨f3,?_⟩⟩;have:g j c≠a:=fun z=>ap j i c 0 t _ us ts (.inl hji) ej hi hj hf h ⟨rfl,rfl⟩ (z.trans ga.symm);simp[this]
 ·have hj:j≠i:=fun z=>by rw[z,fe] at fj;cases fj
  have hk:k≠i:=fun z=>by rw[z,fe] at fk;cases fk
  rw[fne j hj] at fj;rw[fne k hk] at fk;exact ap j k c d t u us ws hjk ej ek fj fk
 ·rw[aKk];exact S.len
@[simp] theorem rFrz_at (i:Nat) (r:Rho->Option Out) (ρ:Rho):aDw i r ρ=(aA i ρ).bind fun t=>if sP t then (r ρ).bind fun o=>match o with | .rt t=>some (.rt t) | _=>none else none:=id rfl
@[simp] theorem isLs_lst (ts:List T):sP (.lst ts)=true:=id rfl
section
variable {X:Cx}{B:Hp}{fl:List Nat}{e:Expr}{es:List Expr}{fa:Rho->Option (List T)}{l:Nat}{pos p':Pos}{x:Str}
end
structure FunD (K:PySem.W.Frag) (x qual:Str) (st:Stmt) (f:Addr) (fd:FuncData):Prop where
 ex:∃ (oc:Value) (od:Option Addr) (D:Addr) (dob:Obj) (dn:Nat) (kV doc pm:Value) (an:Option Addr) (cdv ct:Value) (osl:Array (Option Value)),
  fd=PySem.W.fnOf x qual (defArgs st) (defBody st) (defScope st) (.ref D) kV doc pm an cdv ct/\K.lookup f=some ⟨oc,od,.func fd,osl⟩/\PySem.W.codeIn K cdv qual=true/\K.lookup D=some dob/\dob.data=.seq #[.none] dn
 kp:PySem.W.keepIn K (.ref f)=true
section
variable {P:Program}{w:World}{K:PySem.W.Frag}{mg:Str->Option Value}{base:Heap}
theorem FunD.ok {x qual:Str}{st:Stmt}{f:Addr}{fd:FuncData}{N ps:List Str}{k:Nat}{sp:Sp}(F:FunD K x qual st f fd) (S:FnScope N ps (defScope st)) (len:∀ vs H Q E,sp vs H Q E->vs.length=ps.length)
  (hbody:∀ (cdv:Value) (A:Around) (outer:List Env) (s:Shared) (H:Hp) (vs:List V) (Q:VK) (E:XK),Room k (A.deeper (envOfC qual (defScope st) s.heap.objs.size f cdv))->sp vs H Q E ->
   ∃ t,PSs (aW CX0 P w K mg base N qual (defScope st) f cdv A outer s H E).nox (defBody st) t/\t { nx:=fun _ H'=>Q .non H',rt:=Q } (L2.start N vs) H):FnOk P w K mg base CX0 (k+1) f fd ps sp:=by
 obtain⟨oc,od,D,dob,dn,kV,doc,pm,an,cdv,ct,osl,rfl,lk,hcd,_,_⟩:=F.ex;refine AX lk hcd S len fun A outer s H vs Q E hr hsp=>?_;obtain⟨t,h,q⟩:=hbody cdv A outer s H vs Q E hr hsp;exact⟨t,h.nox,q⟩
theorem FunD.binds {x qual:Str}{st:Stmt}{f:Addr}{fd:FuncData}{ps:List Str}{ds:List Value}(F:FunD K x qual st f fd)
  (h:∀ (D:Addr) (kV doc pm:Value) (an:Option Addr) (cdv ct:Value) (us:List Value),(us++ds).length=ps.length->∃ k,bindArgs (PySem.W.fnOf x qual (defArgs st) (defBody st) (defScope st) (.ref D) kV doc pm an cdv ct) ⟨us,[]⟩=seqItems? (.ref D) >>= k/\k (some #[.none])=pure (ps.zip (us++ds))):eX K fd ps ds:=by
 obtain⟨oc,od,D,dob,dn,kV,doc,pm,an,cdv,ct,osl,rfl,lk,hcd,hD,hd⟩:=F.ex;intro s us hK hl;obtain⟨k,h1,h2⟩:=h D kV doc pm an cdv ct us hl;exact BindsTo.of_defaults (T:=D) rfl (hK _ _ hD) hd h1 h2
end
structure CalD (P:Program) (w:World) (K:PySem.W.Frag) (mg:Str->Option Value) (base:Heap) (x:Str) (k:Nat) (ps:List Str) (F:List T->Option T) (n:Bool) (l:Nat):Prop where
 ex:∃ f fd,FnOk P w K mg base CX0 k f fd ps (spT K F n l)/\mg x=some (.ref f)/\PySem.W.keepIn K (.ref f)=true/\eX K fd ps []/\eX K fd ps [.none]
def RX (fa:Rho->Option (List T)):Rho->Option (List T):=fun ρ=>(fa ρ).map fun ts=>ts++[.non]
@[simp] theorem aDef_at (fa:Rho->Option (List T)) (ρ:Rho):RX fa ρ=(fa ρ).map fun ts=>ts++[.non]:=id rfl
section
variable {X:Cx}{B:Hp}{fl:List Nat}{e:Expr}{es:List Expr}{fa:Rho->Option (List T)}{n:Bool}{l l' k:Nat}{pos p':Pos}{x:Str}{ps:List Str}{F:List T->Option T}
end
def mX (x:Int):List Int->List Int
 | []=>[x]
 | y::ys=>if y<=x then x::y::ys else y::mX x ys
def zL:List Int->List Int
 | []=>[]
 | x::xs=>mX x (zL xs)
theorem CC (x:Int):∀ ys:List Int,(mX x ys).Perm (x::ys)
 | []=>.refl _
 | y::ys=>by
  unfold mX
  split
  ·exact .refl _
  ·exact (List.Perm.cons y (CC x ys)).trans (List.Perm.swap x y ys)
theorem NF:∀ xs:List Int,(zL xs).Perm xs
 | []=>.refl _
 | x::xs=>(CC x _).trans (List.Perm.cons x (NF xs))
theorem JI (x:Int):∀ ys:List Int,ys.Pairwise (· >= ·)->(mX x ys).Pairwise (· >= ·)
 | [],_=>by simp[mX]
 | y::ys,h=>by
  obtain⟨h1,h2⟩:=aL3.mp h;unfold mX
  split
  ·rename_i hx
   refine aL3.mpr ⟨fun z hz=>?_,h⟩;rcases aJb.mp hz with rfl | hz
   ·exact hx
   ·exact Int.le_trans (h1 z hz) hx
  ·rename_i hx
   refine aL3.mpr ⟨fun z hz=>?_,JI x ys h2⟩;rcases aJb.mp ((CC x ys).mem_iff.mp hz) with rfl | hz
   ·show z<=y
    lia
   ·exact h1 z hz
theorem NE:∀ xs:List Int,(zL xs).Pairwise (· >= ·)
 | []=>.nil
 | x::xs=>JI x _ (NE xs)
theorem GY:∀ (a b:List Int),a.Perm b->a.Pairwise (· >= ·)->b.Pairwise (· >= ·)->a=b
 | [],b,hp,_,_=>(List.Perm.nil_eq hp)
 | x::a,[],hp,_,_=>absurd hp.length_eq (by simp)
 | x::a,y::b,hp,ha,hb=>by
  obtain⟨p1,p2⟩:=aL3.mp ha;obtain⟨q1,q2⟩:=aL3.mp hb;have e:x=y:=by
   rcases aJb.mp (hp.mem_iff.mp aJ3) with e | e
   ·exact e
   ·rcases aJb.mp (hp.mem_iff.mpr aJ3) with e' | e'
    ·exact e'.symm
    ·have h1:y >= x:=q1 x e
     have h2:x >= y:=p1 y e';lia
  subst e;rw[GY a b (List.Perm.cons_inv hp) p2 q2]
theorem JK:∀ {ns:List Int}{its:List Value},aI (ns.map V.int) its->IntsAre its ns
 | [],_,h=>by cases h;exact .nil
 | n::ns,_,h=>by
  cases h with
  | cons r rr=>
   obtain⟨t,rfl⟩:=r;exact .cons n t (JK rr)
theorem wG {ns:List Int}{its:List Value}(h:IntsAre its ns):aI (ns.map V.int) its:=by
 induction h with
 | nil=>exact .nil
 | cons n t _ ih=>exact .cons ⟨t,rfl⟩ ih
section
variable {X:Cx}{B:Hp}{fl:List Nat}{e kv:Expr}{f g:Rho->Option T}{n n':Bool}{l l':Nat}{pos p kpos:Pos}
end
section
variable {X:Cx}{B:Hp}{fl:List Nat}{e:Expr}{es:List Expr}{f:Rho->Option T}{fa:Rho->Option (List T)}{n n':Bool}{l l':Nat}{pos p' p2:Pos}{x:Str}
theorem SN:eR X (.builtin "abs") (fun xs H Q=>∃ i:Int,xs=[.int i]/\Q (.int (if i<0 then -i else i)) H):=by
 intro pins s σ H xs us Q I r h;obtain⟨i,rfl,q⟩:=h;obtain⟨u,rfl,t,rfl⟩:=rT r;exact call_abs_int fun u tk=>⟨.int _,H,I.tok _,⟨_,rfl⟩,q⟩
def xO:List T->Option T
 | [.int i]=>some (.int (if i<0 then -i else i))
 | _=>none
theorem aAa (i:Int):xO [.int i]=some (.int (i.natAbs:Int)):=by
 show some (T.int (if i<0 then -i else i))=_
 congr 2
 split<;>lia
theorem HW (hx:x = "abs") (hg:Gl X x) (hm:X.mg x=none) (ha:GA X B fl (e::es) fa l)
  (he:starEach (e::es) X.env=(false,eval e X.env)::starEach es X.env:=by rfl) (hpl:(backTo pos (starEach es X.env)).any (·.1)=false:=by rfl):GE X B fl (.Call (.Name x p') (e::es) [] pos) (aG fa xO) true 3:=by
 subst hx;refine bI (kD SN hg hm PyProof.Rows.boot_abs ha (by decide) (by decide) he hpl) ?_;rintro σ H Q ⟨Ex,ρ,M,t,S,hf,q⟩;obtain⟨ts,hts,hf⟩:=bind_some hf;refine⟨Ex,ρ,M,ts,S,hts,fun vs H1 s1 r1=>?_⟩
 match ts,hf with
 | [.int i],hf=>
  cases (aIz hf);obtain⟨y,rfl,ry⟩:=eG r1;cases (show _=_ from ry);exact⟨i,rfl,q _ H1 s1 ((aN.scal rfl).mpr rfl)⟩
def nA:T->T->Option T:=oI (fun _ j=>decide (j≠0)&&decide (j.natAbs<2^9000)) fun i j=>.int (i.fdiv j)
theorem KZ {i j:Int}(h:j≠0) (h2:j.natAbs<2^9000):nA (.int i) (.int j)=some (.int (i.fdiv j)):=by
 simp only[nA,oI_int];rw[if_pos (by rw[decide_eq_true h,decide_eq_true h2];rfl)]
theorem aBw:OpR X (binaryOp .FloorDiv) (rI (fun _ j=>j≠0/\j.natAbs<2^9000) fun i j=>.int (i.fdiv j)):=opI fun _ _ _ _ _ _ _ hc q=>floordiv_int hc.1 q (.inl (PyProof.noPylong_of_log2 ((Nat.log2_lt (by lia)).mpr hc.2)))
theorem IC {a b:Expr}{g:Rho->Option T}(ha:GE X B fl a f n l) (hb:GE X B fl b g n' l'):GE X B fl (.BinOp a .FloorDiv b pos) (f2 f g nA) true 3:=fH aBw (qF (fun _ _ k=>by simpa only [aJc,decide_eq_true_eq] using k) (fun _ _=>rfl) fun _ _=>rfl) ha hb
end
theorem WQ {p:Rho->Option Bool}{r:Rho->Option Out}{st:Nat->Nat->Option T->Rho}(hp:∀ a b x,p (st a b x)=some (decide (b≠0)))
  (hr:∀ a b x,0<b->∃ x',r (st a b x)=some (.nx (st b (a%b) x'))):∀ m k a b x,b<=a->a*b<2^m->m<k->∃ x',cD p r k (st a b x)=some (.nx (st (Nat.gcd a b) 0 x')):=by
 have z:∀ k a x,0<k->∃ x',cD p r k (st a 0 x)=some (.nx (st (Nat.gcd a 0) 0 x')):=fun k a x hk=>by
  obtain⟨k,rfl⟩:∃ k',k=k'+1:=⟨k-1,by lia⟩;refine⟨x,?_⟩;rw[cD,hp];simp
 intro m
 induction m with
 | zero=>
  intro k a b x hab h hk;have hb:b=0:=by
   rcases Nat.eq_zero_or_pos b with e | e
   ·exact e
   ·have:=Nat.mul_pos (show 0<a by lia) e;lia
  subst hb;exact z k a x hk
 | succ m ih=>
  intro k a b x hab h hk;rcases Nat.eq_zero_or_pos b with e | e
  ·subst e;exact z k a x (by lia)
  ·obtain⟨k,rfl⟩:∃ k',k=k'+1:=⟨k-1,by lia⟩
   obtain⟨x1,h1⟩:=hr a b x e;have hlt:=Nat.mod_lt a e;have hq:b+a%b<=a:=by
    have h2:=Nat.div_add_mod a b;have h3:1<=a / b:=(Nat.one_le_div_iff e).mpr hab;have h4:b*1<=b*(a / b):=Nat.mul_le_mul_left b h3;lia
   have h5:b*(a%b)<2^m:=by
    have h6:(b+a%b)*b<=a*b:=Nat.mul_le_mul_right b hq;have h7:a%b*b<=b*b:=Nat.mul_le_mul_right b (by lia);rw[Nat.add_mul] at h6;rw[Nat.pow_succ] at h;have h8:b*(a%b)=a%b*b:=Nat.mul_comm _ _;lia
   obtain⟨x',h9⟩:=ih k b (a%b) x1 (by lia) h5 (by lia);refine⟨x',?_⟩;rw[cD,hp,h1];have hd:decide (b≠0)=true:=decide_eq_true (by lia);rw[hd];simp only[aLt,if_true];rw[h9,Nat.gcd_comm a b,Nat.gcd_rec b a,Nat.gcd_comm]
theorem WR {p:Rho->Option Bool}{r:Rho->Option Out}{st:Nat->Nat->Option T->Rho}(hp:∀ a b x,p (st a b x)=some (decide (b≠0)))
  (hr:∀ a b x,0<b->∃ x',r (st a b x)=some (.nx (st b (a%b) x'))) (a b:Nat) (x:Option T) (hb:b<2^9000):∃ x',nF p r (st a b x)=some (.nx (st (Nat.gcd a b) 0 x')):=by
 unfold nF;rcases Nat.eq_zero_or_pos b with e | e
 ·subst e
  refine⟨x,?_⟩;rw[show (100000:Nat)=99999+1 from rfl,cD,hp];simp
 ·obtain⟨x1,h1⟩:=hr a b x e
  have hlt:=Nat.mod_lt a e;have hm:b*(a%b)<2^18000:=by
   have h2:b*(a%b)<=b*b:=Nat.mul_le_mul_left b (by lia);have h3:b*b<2^9000*2^9000:=Nat.mul_lt_mul'' hb hb;rw[<- Nat.pow_add] at h3;exact aLb h2 h3
  obtain⟨x',h9⟩:=WQ hp hr 18000 99999 b (a%b) x1 (by lia) hm (by lia);refine⟨x',?_⟩;rw[show (100000:Nat)=99999+1 from rfl,cD,hp,h1];have hd:decide (b≠0)=true:=decide_eq_true (by lia);rw[hd];simp only[aLt,if_true];rw[h9,Nat.gcd_comm a b,Nat.gcd_rec b a,Nat.gcd_comm]
def frD (t b:Int):Int:=if b<0 then -(Int.gcd t b:Int) else (Int.gcd t b:Int)
def frI (t b:Int):Int × Int:=(t.fdiv (frD t b),b.fdiv (frD t b))
theorem HR {t b:Int}(hb:b≠0):frD t b≠0/\(frD t b).natAbs<=b.natAbs/\t=frD t b*(frI t b).1/\b=frD t b*(frI t b).2/\0<(frI t b).2/\Int.gcd (frI t b).1 (frI t b).2=1/\(frD t b).natAbs=Int.gcd t b:=by
 have hg:0<Int.gcd t b:=Int.gcd_pos_of_ne_zero_right t hb;have hn:(frD t b).natAbs=Int.gcd t b:=by unfold frD;split<;>lia
 have h0:frD t b≠0:=by lia
 have d1:frD t b ∣ t:=by
  rw[<- Int.natAbs_dvd,hn];exact Int.gcd_dvd_left t b
 have d2:frD t b ∣ b:=by
  rw[<- Int.natAbs_dvd,hn];exact Int.gcd_dvd_right t b
 have e1:t=frD t b*(frI t b).1:=(Int.mul_fdiv_cancel' d1).symm;have e2:b=frD t b*(frI t b).2:=(Int.mul_fdiv_cancel' d2).symm;have hle:(frD t b).natAbs<=b.natAbs:=by rw[hn];exact Nat.le_of_dvd (by lia) (Int.natAbs_dvd_natAbs.mpr (Int.gcd_dvd_right t b))
 have hs:0<(frI t b).2:=by
  rcases aJo b 0 with h | h
  ·have hd:frD t b<0:=by unfold frD;rw[if_pos h];lia
   rcases aJo 0 (frI t b).2 with k | k
   ·exact k
   ·have:=Int.mul_nonneg_of_nonpos_of_nonpos (aJn hd) k
    lia
  ·have hd:0<frD t b:=by unfold frD;rw[if_neg (by lia)];lia
   rcases aJo 0 (frI t b).2 with k | k
   ·exact k
   ·have:=Int.mul_nonpos_of_nonneg_of_nonpos (aJn hd) k
    lia
 refine⟨h0,hle,e1,e2,hs,?_,hn⟩;have hh:Int.gcd t b=(frD t b).natAbs*Int.gcd (frI t b).1 (frI t b).2:=by
  have q:=Int.gcd_mul_left (frD t b) (frI t b).1 (frI t b).2;rw[<- e1,<- e2] at q;exact q
 rw[hn] at hh;exact Nat.eq_of_mul_eq_mul_left hg (by lia)
end G
namespace G
section
variable {n:Nat}{t w:List Int}
def cB (t:List Int) (a g:Nat):Int:=t.getD (a|||g) 0-t.getD a 0
structure Cnd (n a g:Nat):Prop where
 ne:g≠0
 lt:g<2^n
 off:g&&&a=0
structure Stp (n:Nat) (t w:List Int) (a m:Nat):Prop where
 cnd:Cnd n a m
 least:∀ y,Cnd n a y->cB t a m*gv w y<=cB t a y*gv w m
 top:∀ y,Cnd n a y->cB t a y*gv w m<=cB t a m*gv w y->y|||m=m
end
end G
namespace G
def chD (w:List Int):List Nat->Int
 | []=>1
 | m::L=>gv w m*chD w L
section
variable {n:Nat}{t w:List Int}
end
end G
namespace G
open PySem PySem.Spec PyProof.Rows L2
section
variable {X:Cx}{B:Hp}{fl:List Nat}{k:Expr}{fk:Rho->Option T}{n nk:Bool}{l lk:Nat}{pos pos' pos2:Pos}{x y:Str}
end
abbrev FA (K:PySem.W.Frag) (x:Str) (f:Addr):Prop:=PySem.W.nsIn K mainGlobals x=some (some (.ref f))
abbrev FL (K:PySem.W.Frag) (f:Addr) (x:Str) (st:Stmt) (df oc:Value) (od:Option Addr) (kV dc pm:Value) (an:Option Addr) (cd ct:Value) (sl:Array (Option Value)):Prop:=K.lookup f=some ⟨oc,od,.func (PySem.W.fnOf x x (defArgs st) (defBody st) (defScope st) df kV dc pm an cd ct),sl⟩
abbrev FC (K:PySem.W.Frag) (cd:Value) (x:Str):Prop:=PySem.W.codeIn K cd x=true
abbrev FK (K:PySem.W.Frag) (f:Addr):Prop:=PySem.W.keepIn K (.ref f)=true
theorem zz0 {α:Type _}{a:α}{l:List α}:(a::l)[0]?=some a:=List.getElem?_cons_zero
theorem zz1 {α:Type _}{a:α}{i:Nat}{l:List α}:(a::l)[i+1]?=l[i]?:=List.getElem?_cons_succ
theorem zz2 {α β:Type _}(a:α) (f:α->Option β):(some a).bind f=f a:=aLt a f
theorem zz3 {α β:Type _}(a:α) (f:α->β):(some a).map f=some (f a):=Option.map_some ..
end G
namespace G
section
variable {n:Nat}{t w:List Int}
end
end G
namespace G
open PySem PySem.Spec PyProof.Rows L2
def DE (i:Nat) (f:Rho->Option T):Rho->Option Out:=fun ρ=>(aA i ρ).bind fun t=>(f ρ).bind fun u=>match t,u with
 | .lst ts,.lst us=>if ts.length+us.length<=cap then some (.nx (ρ.set i (some (.lst (ts++us))))) else none
 | _,_=>none
@[simp] theorem rExt_at (i:Nat) (f:Rho->Option T) (ρ:Rho):DE i f ρ=(aA i ρ).bind fun t=>(f ρ).bind fun u=>match t,u with
 | .lst ts,.lst us=>if ts.length+us.length<=cap then some (.nx (ρ.set i (some (.lst (ts++us))))) else none
 | _,_=>none:=id rfl
section
variable {X:Cx}{B:Hp}{fl:List Nat}{n:Bool}{l l':Nat}{e:Expr}{f:Rho->Option T}{x y:Str}{pos pos':Pos}
theorem MF {K:PySem.W.Frag}{H:Hp}{A:Addr->Prop}:∀ {ts:List T}{xs:List V}{us:List T}{zs:List V},RepL K H A ts xs->RepL K H A us zs->RepL K H A (ts++us) (xs++zs)
 | [],xs,us,zs,h1,h2=>by cases (show xs=[] from h1);exact h2
 | t::ts,xs,us,zs,h1,h2=>by
  obtain⟨x,r,rfl,a,b⟩:=h1;exact⟨x,r++zs,rfl,a,MF b h2⟩
theorem XO (i:Nat) {apos p2:Pos}(he:GE X B fl e f true l') (h1:(decide (fl.getD i 1=0)&&decide (lc fl<=l'))=true) (hN:X.N[i]?=some x:=by rfl) (hv:Vis X.env.scope x:=by first | exact Or.inl rfl | exact Or.inr (Or.inl rfl) | exact Or.inr (Or.inr rfl))
  (hd:(x == ("__debug__" : Str))=false:=by decide) (hcd:(x == ("__classdict__" : Str))=false:=by decide)
  (hbase:attributeBase (.Name x p2) "extend" X.env (eval (.Name x p2) X.env)=eval (.Name x p2) X.env:=by rfl)
  (hfew:((backTo pos' (starEach [e] X.env)).all (fun x=>!x.1)&&(backToKw pos' (keywordEach [] X.env)).all (fun x=>x.1.isSome)
   && decide (([e]:List Expr).length+([]:List Keyword).length+(if ([]:List Keyword).isEmpty then 0 else 1)<30))=true:=by rfl)
  (hline:(apos.endLine == pos'.line)=true:=by rfl) (hs:starEach [e] X.env=[(false,eval e X.env)]:=by rfl) (hsw:swapsWith (.Call (.Attribute (.Name x p2) "extend" apos) [e] [] pos') none pos.line X.env=pure false:=by rfl):
  GS X B fl n l (.Expr (.Call (.Attribute (.Name x p2) "extend" apos) [e] [] pos') pos) (DE i f):=by
 simp only[aJc,decide_eq_true_eq] at h1;refine dP (yD (yA PySem.F.plainAttrs_list PySem.F.slot_list_extend PySem.F.type_list_extend aA2 (pv (X:=X) i hN hv hd hcd) (jF he nD hs) hbase hfew hline hs rfl) hsw) ?_;rintro D σ H ⟨Ex,ρ,M,o,S,hr,q⟩;obtain⟨t,e1,hr⟩:=bind_some hr;obtain⟨y,e2,hr⟩:=bind_some hr;cases t<;>first | (cases hr;done) | skip
 cases y<;>first | (cases hr;done) | skip
 dsimp only at hr;split at hr
 ·rename_i hl
  cases (aIz hr);have e1':=jS e1;have lcl:=jB fl;have lcp:=fK fl;obtain⟨a,ts,xs,e3,e4,e5,e6,e7⟩:=S.muL i _ e1' h1.1;cases e3;refine⟨_,e4,.inl ⟨rfl,xs,SqL.of e5⟩,?_⟩;refine⟨Ex,ρ,M,_,S,e2,fun v H1 s1 rx=>?_⟩;obtain⟨b,zs,rfl,b1,b2,b3⟩:=rx;refine⟨a,b,xs,zs,rfl,rfl,s1 _ _ e5,b2,by rw[<- e6.length,<- b3.length];exact aL7 (gJ hl),?_⟩;exact q σ M _ ((S.grow s1).write h1.1 e1' e4 e7 (s1 _ _ e5) (MF ((e6.grow s1).weak fun b x=>x.any (by lia)) (b3.weak fun b x=>⟨fun z=>x.1.1 (by lia),fun z=>x.1.2.1 (by lia),fun z=>by lia⟩)))
 ·cases hr
def DG (i j:Nat):Rho->Option Out:=fun ρ=>(aA j ρ).bind fun t=>match t with
 | .lst ts=>some (.nx ((ρ.set i (some (.lst ts))).set j none))
 | _=>none
@[simp] theorem rMove_at (i j:Nat) (ρ:Rho):DG i j ρ=(aA j ρ).bind fun t=>match t with
 | .lst ts=>some (.nx ((ρ.set i (some (.lst ts))).set j none))
 | _=>none:=id rfl
theorem Sl.move {K:PySem.W.Frag}{Ex:List (T × V)}{σ:St}{ρ:Rho}{M:List Addr}{H:Hp}(S:Sl K B fl Ex σ ρ M H) {i j:Nat}{ts:List T}{a:Addr}{xs:List V}(hj:ρ[j]?=some (some (.lst ts))) (hf:fl.getD j 1=0) (hi:1<=fl.getD i 1) (hlc:min (fl.getD i 1) 2<=lc fl) (hil:i<fl.length)
  (e1:σ[j]?=some (some (.ref a))) (e2:H a=some (.lst xs)) (e3:RepL K H (Ad B H M (lc fl)) ts xs) (e4:a∈M):Sl K B fl Ex (σ.set i (some (.ref a))) ((ρ.set i (some (.lst ts))).set j none) (M.filter fun b=>!decide (b=a)) H:=by
 have hij:i≠j:=fun z=>by rw[z,hf] at hi;lia
 have sub:∀ b,b∈M.filter (fun b=>!decide (b=a))->b∈M:=fun b hb=>(aKu.mp hb).1;have aw:∀ (l:Nat) (b:Addr),Ad B H M l b->Ad B H (M.filter fun b=>!decide (b=a)) l b:=fun l b h=>⟨fun z w=>h.1 z (sub b w),h.2⟩;have na:a ∉ M.filter (fun b=>!decide (b=a)):=fun z=>by
  have:=(aKu.mp z).2;simp at this
 have get:∀ {k:Nat} {t:T},((ρ.set i (some (.lst ts))).set j none)[k]?=some (some t)->k≠j/\((k=i/\t=.lst ts)\/(k≠i/\ρ[k]?=some (some t))):=fun {k t} e=>by
  by_cases kj:k=j
  ·subst kj
   by_cases hk:k<(ρ.set i (some (T.lst ts))).length
   ·rw[aKc hk] at e;cases e
   ·rw[List.getElem?_eq_none (by rw[aKk];lia)] at e;cases e
  ·refine⟨kj,?_⟩
   rw[aJ9 (Ne.symm kj)] at e;rcases dI e with ⟨z1,z2,_⟩ | ⟨z1,z2⟩
   ·exact .inl ⟨z1,by cases z2;rfl⟩
   ·exact .inr ⟨z1,z2⟩
 have put:∀ {k:Nat},k≠i->(σ.set i (some (V.ref a)))[k]?=σ[k]?:=fun h=>aJ9 (Ne.symm h);have puti:(σ.set i (some (V.ref a)))[i]?=some (some (.ref a)):=aKc (aJ7 hil S.len);obtain⟨g,hg,ap⟩:=S.mu;have gj:g j 0=a:=by
  obtain⟨v,s1,sh,_⟩:=hg j _ hj hf rfl;cases (show v=.ref (g j 0) from sh);rw[e1] at s1;exact (V.ref.inj (aIz (aIz s1))).symm
 refine⟨S.same,fun k t e hk=>?_,⟨g,fun k t e hk hm=>?_,fun k k' c d t u us ws hne e e' hk hk' hm hm'=>?_⟩,fun p hp=>(S.ex p hp).weak fun b x=>aw 1 b x,fun b hb=>S.mB b (sub b hb),by rw[aKk];exact S.len⟩
 ·obtain⟨kj,⟨rfl,rfl⟩ | ⟨ki,e⟩⟩:=get e
  ·refine⟨.ref a,puti,a,xs,rfl,.inl ⟨⟨fun _=>na,fun _=>(S.mB a e4).1,fun z=>by lia⟩,.inl e2⟩,e3.weak fun b x=>aw _ b ⟨fun z=>x.1 (by lia),fun z=>x.2.1 (by lia),fun z=>by lia⟩⟩
  ·obtain⟨v,v1,v2⟩:=S.slot k t e hk
   exact⟨v,by rw[put ki];exact v1,v2.weak fun b x=>aw _ b x⟩
 ·obtain⟨kj,⟨rfl,rfl⟩ | ⟨ki,e⟩⟩:=get e
  ·lia
  ·obtain⟨w,w1,w2,w3⟩:=hg k t e hk hm
   refine⟨w,by rw[put ki];exact w1,w2,fun c us h=>?_⟩;obtain⟨ys,f1,f2,f3⟩:=w3 c us h;refine⟨ys,f1,f2.weak fun c x=>aw _ c x,aKu.mpr ⟨f3,?_⟩⟩;have:g k c≠a:=fun z=>ap k j c 0 t _ us ts (.inl kj) e hj hk hf h ⟨rfl,rfl⟩ (z.trans gj.symm);simp[this]
 ·obtain⟨kj,⟨rfl,rfl⟩ | ⟨ki,e⟩⟩:=get e
  ·lia
  ·obtain⟨kj',⟨rfl,rfl⟩ | ⟨ki',e'⟩⟩:=get e'
   ·lia
   ·exact ap k k' c d t u us ws hne e e' hk hk' hm hm'
theorem XR (i j:Nat) {pos2:Pos}(hN:X.N.Nodup) (hi:X.N[i]?=some x) (hx:Loc X.env.scope x) (hfl:(decide (i<fl.length)&&decide (1<=fl.getD i 1)&&decide (fl.getD j 1=0)&&decide (min (fl.getD i 1) 2<=lc fl))=true) (hj:X.N[j]?=some y:=by rfl)
  (hv:Vis X.env.scope y:=by first | exact Or.inl rfl | exact Or.inr (Or.inl rfl) | exact Or.inr (Or.inr rfl)) (hd:(y == ("__debug__" : Str))=false:=by decide) (hcd:(y == ("__classdict__" : Str))=false:=by decide)
  (hs:swapsWith (.Name y pos2) (some (.Name x pos')) pos.line X.env=pure false:=by rfl) (hf:X.fn x=true\/X.env.scope.names.lookup x=some .local:=by first | exact .inl rfl | exact .inr rfl | assumption):
  GS X B fl n l (.Assign [.Name x pos'] (.Name y pos2) pos) (DG i j):=by
 refine dP (DB hN hi hx (pv (X:=X) j hj hv hd hcd) hs hf) ?_;rintro D σ H ⟨Ex,ρ,M,o,S,hr,q⟩;simp only[aJc,decide_eq_true_eq] at hfl;obtain⟨t,e1,hr⟩:=bind_some hr;cases t<;>first | (cases hr;done) | skip
 cases (aIz hr);have e1':=jS e1;have lcl:=jB fl;have lcp:=fK fl;obtain⟨a,ts,xs,e3,e4,e5,e6,e7⟩:=S.muL j _ e1' hfl.1.2;cases e3;exact⟨_,e4,q _ _ H (S.move e1' hfl.1.2 hfl.1.1.2 hfl.2 hfl.1.1.1 e4 e5 e6 e7)⟩
end
structure CalO (P:Program) (w:World) (K:PySem.W.Frag) (mg:Str->Option Value) (base:Heap) (x:Str) (k:Nat) (ps:List Str) (F:List T->Option T):Prop where
 ex:∃ f fd,FnOk P w K mg base CX0 k f fd ps (spO K F)/\mg x=some (.ref f)/\PySem.W.keepIn K (.ref f)=true/\eX K fd ps []
def LH:List T->Bool
 | []=>true
 | .lst _::ts=>imL ts
 | t::ts=>im t&&LH ts
def okF:T->Bool
 | .lst us=>imL us
 | t=>im t
def LG:T->Bool
 | .tup ts=>LH ts||ts.all okF
 | _=>false
def aDy (i:Nat) (f:Rho->Option T):Rho->Option Out:=fun ρ=>(f ρ).bind fun t=>if LG t then some (.nx (ρ.set i (some t))) else none
@[simp] theorem rOwn_at (i:Nat) (f:Rho->Option T) (ρ:Rho):aDy i f ρ=(f ρ).bind fun t=>if LG t then some (.nx (ρ.set i (some t))) else none:=id rfl
theorem bZ.get {K:PySem.W.Frag}{B H:Hp}{M:List Addr}{H':Hp}:∀ {ts:List T}{xs:List V},bZ K B H M H' ts xs->∀ {c:Nat}{t:T},ts[c]?=some t->∃ x,xs[c]?=some x/\okO t=true/\aN K B H M H' true 3 t x
 | [],_,_,_,_,e=>by simp at e
 | t::ts,_,⟨x,r,e,h1,h2,h3⟩,0,u,q=>by subst e;cases (aIz (show some t=some u from q));exact⟨x,rfl,h1,h2⟩
 | t::ts,_,⟨x,r,e,h1,h2,h3⟩,c+1,u,q=>by
  subst e;obtain⟨y,e1,e2⟩:=bZ.get h3 (show ts[c]?=some u from q);exact⟨y,e1,e2⟩
theorem bZ.called {K:PySem.W.Frag}{B:Hp}{fl:List Nat}{H H1 H2:Hp}{Ex:List (T × V)}{σ:St}{ρ:Rho}{M:List Addr}(S:Sl K B fl Ex σ ρ M H) (s1:aO H H1):∀ {ts:List T}{xs:List V},bZ K H1 H1 [] H2 ts xs->bZ K B H M H2 ts xs
 | [],_,h=>h
 | _::ts,_,⟨x,r,e,h1,h2,h3⟩=>⟨x,r,e,h1,aN.called S s1 (.inr rfl) h2,bZ.called S s1 h3⟩
section
variable {X:Cx}{B:Hp}{fl:List Nat}{n n':Bool}{l l' k:Nat}{e:Expr}{es:List Expr}{f:Rho->Option T}{fa:Rho->Option (List T)}{x y:Str}{ps:List Str}{F:List T->Option T}{pos pos' p' cpos:Pos}
def VY (i:Nat):Rho->Option T:=fun ρ=>(aA i ρ).bind fun t=>match t with | .tup ts=>if ts.all okF then some (.tup ts) else none | _=>none
@[simp] theorem fMutT_at (i:Nat) (ρ:Rho):VY i ρ=(aA i ρ).bind fun t=>match t with | .tup ts=>if ts.all okF then some (.tup ts) else none | _=>none:=id rfl
def aDq (i c:Nat) (f:Rho->Option T):Rho->Option Out:=fun ρ=>(aA i ρ).bind fun t=>(f ρ).bind fun x=>match t with
 | .tup ts=>(ts[c]?).bind fun u=>match u with
  | .lst us=>if us.length<cap then some (.nx (ρ.set i (some (.tup (ts.set c (.lst (us++[x]))))))) else none
  | _=>none
 | _=>none
@[simp] theorem rAppO_at (i c:Nat) (f:Rho->Option T) (ρ:Rho):aDq i c f ρ=(aA i ρ).bind fun t=>(f ρ).bind fun x=>match t with
 | .tup ts=>(ts[c]?).bind fun u=>match u with
  | .lst us=>if us.length<cap then some (.nx (ρ.set i (some (.tup (ts.set c (.lst (us++[x]))))))) else none
  | _=>none
 | _=>none:=id rfl
def aE1 (i c:Nat) (fi f:Rho->Option T):Rho->Option Out:=fun ρ=>(f ρ).bind fun x=>(aA i ρ).bind fun t=>(fi ρ).bind fun k=>match t with
 | .tup ts=>(ts[c]?).bind fun u=>match u with
  | .lst us=>match k with | .int j=>(ixN us.length j).map fun j'=>.nx (ρ.set i (some (.tup (ts.set c (.lst (us.set j' x)))))) | _=>none
  | _=>none
 | _=>none
@[simp] theorem rPutO_at (i c:Nat) (fi f:Rho->Option T) (ρ:Rho):aE1 i c fi f ρ=(f ρ).bind fun x=>(aA i ρ).bind fun t=>(fi ρ).bind fun k=>match t with
 | .tup ts=>(ts[c]?).bind fun u=>match u with
  | .lst us=>match k with | .int j=>(ixN us.length j).map fun j'=>.nx (ρ.set i (some (.tup (ts.set c (.lst (us.set j' x)))))) | _=>none
  | _=>none
 | _=>none:=id rfl
end
def aCh:Out->Option T
 | .rt t=>some t
 | _=>none
@[simp] theorem outO_rt (t:T):aCh (.rt t)=some t:=id rfl
end G
set_option maxRecDepth 100000
namespace HD
open PySem PySem.W PySem.Calls PyProof.Rows
noncomputable def tX (thr ok:Thread->Bool) (stp:SharedT->Thread->Option (SharedT × Thread)) (n:Nat):SharedT->Thread->Option SharedT:=
 @Nat.rec (fun _=>SharedT->Thread->Option SharedT) (fun _ _=>none)
  (fun _ ih s t=>@Bool.rec (fun _=>Option SharedT) (@Bool.rec (fun _=>Option SharedT) none
   (@Option.rec (SharedT × Thread) (fun _=>Option SharedT) none (fun r=>ih r.1 r.2) (stp s t)) (ok t)) (some s) (thr t)) n
theorem MQ {tb:String->Option Builtin}{p:Program}{w:World}{n₀:Nat}{ann:Option Value}:∀ {n:Nat}{s s':SharedT}{t:Thread},
  tX through (stepOk n₀ ann) (stepT (denote tb) p w) n s t=some s'->topRun tb p w n₀ ann n s.abs t=some s'.abs
 | 0,_,_,_,h=>by cases h
 | n+1,s,s',t,h=>by
  have e:tX through (stepOk n₀ ann) (stepT (denote tb) p w) (n+1) s t=@Bool.rec (fun _=>Option SharedT) (@Bool.rec (fun _=>Option SharedT) none
   (@Option.rec (SharedT × Thread) (fun _=>Option SharedT) none (fun r=>tX through (stepOk n₀ ann) (stepT (denote tb) p w) n r.1 r.2) (stepT (denote tb) p w s t)) (stepOk n₀ ann t)) (some s) (through t):=rfl
  rw[e] at h;unfold topRun;cases h1:through t with
  | true=>rw[h1] at h;cases h;rfl
  | false=>
   rw[h1] at h;cases h2:stepOk n₀ ann t with
   | false=>rw[h2] at h;cases h
   | true=>
    rw[h2] at h;cases h3:stepT (denote tb) p w s t with
    | none=>rw[h3] at h;cases h
    | some r=>
     obtain⟨s₂,t₂⟩:=r;rw[h3] at h;rw[stepT_spec h3];exact MQ h
theorem ZQ {p q:Program}{loose:List Str}{Xt:Shared->Bool}{α:Type}{Yf:Shared->α}{Ya:World->α}{N:Nat}{g0:Bool}{B:Params->BT}{b:Nat}{life:Life}{m₀:Nat}{ann:Option Value}{M:Nat}
  (open_:∀ w:World,(fencedOpening treeTable p w N).map (fun s=>(s.heap,s.gens,s.drawn,s.toks))=some (boot_heap w.params,Array.mk [],boot_drawn,boot_toks))
  (hb:∀ P:Params,absHeap (B P) b life=boot_heap P)
  (size:∀ w:World,((boot_heap w.params).isNs mainGlobals&&(Array.mk []:Array GenState).size == 0,(boot_heap w.params).objs.size,(boot_heap w.params).nsMap mainGlobals "__annotations__")=(true,m₀,ann))
  (le:Nat.ble M N=true)
  (ev:∀ (w:World) (os:OsState),(tX through (stepOk m₀ ann) (stepT (denote treeTable) p w) M ⟨B w.params,b,life,Array.mk [],boot_drawn,boot_toks,os⟩ (topStub p)).map (fun s=>
    ((staticsOk (importedModules p.main.body) (boot_heap w.params) s.abs.heap&&namesBound p s.abs.heap&&gensDone s.abs&&laidKept (boot_heap w.params) s.abs.heap),
    openSeen q loose (importedModules p.main.body) Xt g0 s.abs,Yf s.abs))=some (true,openGood q loose,Ya w)):LeftO p q loose Xt Yf Ya N g0:=fun w=>by
 obtain⟨⟨h,gs,d,k,os⟩,e,e'⟩:=Option.map_eq_some_iff.mp (open_ w);obtain⟨rfl,rfl,rfl,rfl⟩:h=boot_heap w.params/\gs=Array.mk []/\d=boot_drawn/\k=boot_toks:=by simpa using e'
 obtain⟨z1,z2,z3⟩:_/\_/\_:=by simpa only [Prod.mk.injEq] using size w
 obtain⟨s₁,r0,r1⟩:=Option.map_eq_some_iff.mp (ev w os);obtain⟨l1,l2,l3⟩:_/\_/\_:=by simpa only [Prod.mk.injEq] using r1
 have r:=topRun_mono (N-M) _ _ _ _ (MQ r0);rw[show M+(N-M)=N by have:=Nat.le_of_ble_eq_true le;lia] at r;have r:topRun treeTable p w m₀ ann N ⟨absHeap (B w.params) b life,Array.mk [],boot_drawn,boot_toks,os⟩ (topStub p)=some s₁.abs:=r;rw[hb] at r;have t:topFrom treeTable p w N ⟨boot_heap w.params,Array.mk [],boot_drawn,boot_toks,os⟩=some s₁.abs:=by
  unfold topFrom;dsimp only;rw[z1,z2,z3,r];show (match staticsOk (importedModules p.main.body) (boot_heap w.params) s₁.abs.heap&&namesBound p s₁.abs.heap&&gensDone s₁.abs&&laidKept (boot_heap w.params) s₁.abs.heap with | true=>_ | false=>_)=_
  rw[l1]
 unfold openEnds;rw[e];show (topFrom treeTable p w N _).map _=_;rw[t];exact congrArg some (Prod.ext l2 l3)
noncomputable def bT (P:Params):BT:=(BT.node (boot_o_0 P) (BT.node (boot_o_1 P) (BT.node (boot_o_3 P) (BT.node (boot_o_7 P) BT.nil BT.nil) BT.nil) (BT.node (boot_o_5 P) (BT.node (boot_o_9 P) BT.nil BT.nil) BT.nil)) (BT.node (boot_o_2 P) (BT.node (boot_o_4 P) (BT.node (boot_o_8 P) BT.nil BT.nil) BT.nil) (BT.node (boot_o_6 P) (BT.node (boot_o_10 P) BT.nil BT.nil) BT.nil)))
theorem SH:∀ P:Params,absHeap (bT P) 11 {}=boot_heap P:=fun P=>by kernel_rfl
theorem SI:∀ w:World,((boot_heap w.params).isNs mainGlobals&&(Array.mk []:Array GenState).size == 0,(boot_heap w.params).objs.size,(boot_heap w.params).nsMap mainGlobals "__annotations__")=(true,11,some (.ref 6)):=fun w=>by kernel_rfl
theorem left_of {p q:Program}{loose:List Str}{Xt:Shared->Bool}{α:Type}{Yf:Shared->α}{Ya:World->α}{N:Nat}
  (open_:∀ w:World,(fencedOpening treeTable p w N).map (fun s=>(s.heap,s.gens,s.drawn,s.toks))=some (boot_heap w.params,Array.mk [],boot_drawn,boot_toks))
  (ev:∀ (w:World) (os:OsState),(tX through (PySem.W.Fast.tw6613529449190102663 11 (some (.ref 6))) (PySem.W.Fast.tw10156331382660048174 (PySem.W.Fast.tw11892475500146522536 PySem.W.Fast.tw14364793385576792824) p w) N ⟨bT w.params,11,{},Array.mk [],boot_drawn,boot_toks,os⟩ (topStub p)).map (fun s=>
    ((staticsOk (importedModules p.main.body) (boot_heap w.params) s.abs.heap&&namesBound p s.abs.heap&&gensDone s.abs&&laidKept (boot_heap w.params) s.abs.heap),
    PySem.W.Fast.tw4187177175401517315 q loose (importedModules p.main.body) Xt true s.abs,Yf s.abs))=some (true,openGood q loose,Ya w)):LeftO p q loose Xt Yf Ya N:=
 ZQ open_ SH SI (Nat.ble_eq_true_of_le (aL8 N)) (by
  rw[PySem.W.Fast.te6613529449190102663,PySem.W.Fast.te10156331382660048174,PySem.W.Fast.te11892475500146522536,PySem.W.Fast.te14364793385576792824,PySem.W.Fast.te4187177175401517315];exact ev)
theorem said_of {l:OpenLaw}(h:PySem.W.Fast.tw9446332074065402090 l=true):l.wellSaid=true:=by rw[PySem.W.Fast.te9446332074065402090];exact h
noncomputable def kE (P:Params) (x:Str) (t:Nat) (v:Value):DictEntry:=⟨PyData.keyHash P x,.str x t,v⟩
noncomputable def kC (a:Str) (t:Nat) (l m x:Int) (r:Addr) (b:Bool) (u:Int) (r2:Addr) (v1 v2 v3 v4:Value) (z:Nat):Obj:=
 ⟨.type "code",none,.fields #[.str a t,.str a (t+1),.str "/claim/cut.py" (t+2),.int l 0,.int m 0,.int 0 0,.int 0 0,.int x 0,.ref r,.bool b,.int u 0,.ref r2,v1,v2,v3,v4,.int (z:Int) 0,.int l 0,.str "/claim/cut.py" (z+1)],#[]⟩
end HD
namespace G
open PySem PySem.Spec PyProof.Rows L2
def OH (js:List Nat) (ρ:Rho):Bool:=js.all fun j=>(ρ[j]?.join).isNone
def aE6 (js:List Nat) (i:Nat) (f:Rho->Option T):Rho->Option Out:=fun ρ=>(f ρ).bind fun t=>if OH js ρ then some (.nx (ρ.set i (some t))) else none
@[simp] theorem rSet0_at (js:List Nat) (i:Nat) (f:Rho->Option T) (ρ:Rho):aE6 js i f ρ=(f ρ).bind fun t=>if OH js ρ then some (.nx (ρ.set i (some t))) else none:=id rfl
theorem Sl.clear {K:PySem.W.Frag}{B:Hp}{fl:List Nat}{Ex:List (T × V)}{σ:St}{ρ:Rho}{M:List Addr}{H:Hp}(S:Sl K B fl Ex σ ρ M H) (h:∀ j t,fl.getD j 1=0->ρ[j]?=some (some t)->False):Sl K B fl Ex σ ρ [] H where
 same:=S.same
 slot:=fun i t e k=>by
  obtain⟨v,e1,r⟩:=S.slot i t e k;exact⟨v,e1,r.weak fun b x=>⟨fun _ z=>by simp at z,x.2⟩⟩
 mu:=⟨fun _ _=>0,fun i t e k _=>(h i t k e).elim,fun i j c d t u us ws _ e _ k=>(h i t k e).elim⟩
 ex:=fun p hp=>(S.ex p hp).weak fun b x=>⟨fun _ z=>by simp at z,x.2⟩
 mB:=fun a ha=>by simp at ha
 len:=S.len
section
variable {X:Cx}{B:Hp}{fl:List Nat}{n n':Bool}{l l':Nat}{e:Expr}{f:Rho->Option T}{x:Str}{pos pos':Pos}
end
abbrev Z3 (h:Heap) (n:Nat) (f0:Value):Prop:=
 h.get? (n+5)=some { cls:=.type "zip",dict:=none,data:=.fields #[f0,.bool false,.bool false,.ref (n+3),.ref (n+4)],slots:=#[] }
abbrev Tr (h:Heap) (T:Addr) (a b c:Value):Prop:=h.get? T=some { cls:=.type "tuple",data:=.seq #[a,b,c] }
structure Off (n:Nat) (l:Addr):Prop where
 a0:l≠n
 a1:l≠n+1
 a2:l≠n+2
 a4:l≠n+4
 a5:l≠n+5
section
variable {prog:Program}{w:World}{A:Around}{E:Value->Shared->Prop}{s:Shared}
end
abbrev zh1 (h:Heap) (l:Addr):Heap:=h.push { cls:=.type "list_iterator",data:=.fields #[.ref l,.int 0 0] }
abbrev zh4 (h:Heap) (l l' l'':Addr):Heap:=(zh1 (zh1 (zh1 h l) l') l'').push { cls:=.type "tuple",data:=.seq #[.ref h.objs.size,.ref (zh1 h l).objs.size,.ref (zh1 (zh1 h l) l').objs.size] }
abbrev zh5 (h:Heap) (l l' l'':Addr):Heap:=(zh4 h l l' l'').push { cls:=.type "tuple",data:=.seq #[.none,.none,.none] }
abbrev zh6 (h:Heap) (l l' l'':Addr):Heap:=(zh5 h l l' l'').push { cls:=.type "zip",data:=.fields #[.none,.bool false,.bool false,.ref (zh1 (zh1 (zh1 h l) l') l'').objs.size,.ref (zh4 h l l' l'').objs.size] }
section
variable {prog:Program}{w:World}{A:Around}{E:Value->Shared->Prop}{s:Shared}
end
section
variable {X:Cx}{elts:List Expr}{k:Nat}{p2:Pos}
end
def EJ:List T->List T->List T->List T
 | x::xs,y::ys,z::zs=>.tup [x,y,z]::EJ xs ys zs
 | _,_,_=>[]
def WC (fi gi hi:Rho->Option (List T)):Rho->Option (List T):=fun ρ=>(fi ρ).bind fun xs=>(gi ρ).bind fun ys=>(hi ρ).map fun zs=>EJ xs ys zs
@[simp] theorem fZip3_at (fi gi hi:Rho->Option (List T)) (ρ:Rho):WC fi gi hi ρ=(fi ρ).bind fun xs=>(gi ρ).bind fun ys=>(hi ρ).map fun zs=>EJ xs ys zs:=rfl
section
variable {X:Cx}{B:Hp}{fl:List Nat}{e e' e'':Expr}{f g h:Rho->Option T}{n n' n'':Bool}{l l' l'':Nat}{pos p' p2:Pos}{x:Str}{elts:List Expr}{k:Nat}
end
end G
namespace G
open PySem
def zV (xs:Array Nat):Prop:=xs.toList.Pairwise (· < ·)
theorem zV.lt {xs:Array Nat}(h:zV xs) {i j x y:Nat}(hij:i<j) (hx:xs[i]?=some x) (hy:xs[j]?=some y):x<y:=by
 obtain⟨h1,rfl⟩:=Array.getElem?_eq_some_iff.mp hx;obtain⟨h2,rfl⟩:=Array.getElem?_eq_some_iff.mp hy;have:=List.pairwise_iff_getElem.mp h i j (by simpa using h1) (by simpa using h2) hij
 simpa using this
def Tab (b:Bool) (t:SetTable):Prop:=t.led=b/\zV t.place
def iv:Value->Int
 | .int i _=>i
 | _=>0
def IS (prog:Program) (w:World) (h:Heap) (a:Addr) (b:Bool) (ks:List Int):Prop:=
 ∃ o es ep t,h.get? a=some o/\o.ExactSet/\o.data=.set es ep t/\ElemsOf (intKind prog w) es.toList/\(es.toList.map fun e=>iv e.2).Perm ks/\es.size<scanBound/\t.fits es.size=true/\Tab b t
section
variable {prog:Program}{w:World}{A:Around}{E:Value->Shared->Prop}{s:Shared}{a:Addr}{b:Bool}{ks:List Int}
theorem IS.at {h h':Heap}(k:∀ o,h.get? a=some o->h'.get? a=some o) (S:IS prog w h a b ks):IS prog w h' a b ks:=by
 obtain⟨o,es,ep,t,e,r⟩:=S;exact⟨o,es,ep,t,k o e,r⟩
end
def met (ns:List Int):List Int:=ns.foldl (fun ks k=>if k∈ks then ks else k::ks) []
def SM (w:World):Bool:=w.params.followText "set-order"
section
variable {prog:Program}{w:World}{A:Around}{R:Result->Shared->Prop}{I:Addr}{fp wr:List Addr}{GG:Array GenState->Array GenState->Prop}{n:Nat}{P:Nat->Value->Prop}{St:Nat->Shared->Prop}{b:Bool}
end
section
variable {prog:Program}{w:World}{A:Around}{E:Value->Shared->Prop}{s:Shared}
abbrev aGw (w:World):Obj:={ cls:=.type "set",dict:=none,data:=.set #[] 0 (.fresh 0 0 (!SM w)) }
end
abbrev sIt (first:Value) (i:Nat) (a:Addr) (n ep:Nat):Obj:={ cls:=.type "set_iterator",dict:=none,data:=.fields #[first,rawInt i,.ref a,rawInt n,rawInt ep],slots:=#[] }
section
variable {prog:Program}{w:World}{A:Around}{E:Value->Shared->Prop}{s:Shared}{a:Addr}{o:Obj}{es:Array (Int × Value)}{ep:Nat}{t:SetTable}
end
section
variable {prog:Program}{w:World}{A:Around}{E:Value->Shared->Prop}{s:Shared}{a it:Addr}{o:Obj}{es:Array (Int × Value)}{ep i:Nat}{t:SetTable}{first:Value}
end
section
variable {prog:Program}{w:World}{A:Around}{E:Value->Shared->Prop}{s:Shared}{a it T:Addr}{o:Obj}{es:Array (Int × Value)}{ep i:Nat}{t:SetTable}
end
abbrev KU:Obj:={ cls:=.type "list",data:=.seq ([]:List Value).toArray }
section
variable {prog:Program}{w:World}{A:Around}{E:Value->Shared->Prop}{s:Shared}{a it:Addr}{o:Obj}{es:Array (Int × Value)}{ep:Nat}{t:SetTable}
end
end G
namespace G
open PySem PyProof.Rows
section
variable {prog:Program}{w:World}{A:Around}{E:Value->Shared->Prop}{s:Shared}{a:Addr}{ks:List Int}
end
end G
namespace G
open PySem PySem.Spec PyProof.Rows L2
section
variable {X:Cx}{pins:List (Addr × Obj)}{σ:St}{H:Hp}{s:Shared}{h':Heap}
end
section
variable {X:Cx}{B:Hp}{fl:List Nat}{e:Expr}{f:Rho->Option T}{n:Bool}{l:Nat}{p1 p2 p3 p4 q1 q2 q3 q4:Pos}
end
def aE5 (i:Nat) (r:Rho->Option Out):Rho->Option Out:=fun ρ=>(r (ρ.set i none)).bind fun o=>match o with | .nx ρ'=>(aA i ρ').bind fun t=>if sP t then some (.nx ρ') else none | .rt t=>some (.rt t) | _=>none
theorem Sl.rest {K:PySem.W.Frag}{B:Hp}{fl:List Nat}{Ex:List (T × V)}{σ:St}{ρ:Rho}{M:List Addr}{H:Hp}(S:Sl K B fl Ex σ ρ M H) {i:Nat}{ts:List T}(hi:ρ[i]?=some (some (.lst ts))) (hf:fl.getD i 1=0) (hl:i<fl.length):
  ∃ M',Sl K B (fl.set i 1) Ex σ ρ M' H:=by
 obtain⟨g,hg,ap⟩:=S.mu;obtain⟨v0,e1,sh,e5⟩:=hg i _ hi hf rfl;obtain⟨xs,e2,e3,e4⟩:=e5 0 ts ⟨rfl,rfl⟩;cases (show v0=.ref (g i 0) from sh);generalize ga:g i 0=a at e1 e2 e4;have sub:∀ b,b∈M.filter (fun b=>!decide (b=a))->b∈M:=fun b hb=>(aKu.mp hb).1;have aw:∀ (l:Nat) (b:Addr),Ad B H M l b->Ad B H (M.filter fun b=>!decide (b=a)) l b:=fun l b h=>⟨fun z w=>h.1 z (sub b w),h.2⟩;have fne:∀ j,j≠i->(fl.set i 1).getD j 1=fl.getD j 1:=fun j hj=>by
  rw[aJ0,aJ9 (Ne.symm hj),<- List.getD_eq_getElem?_getD]
 have fe:(fl.set i 1).getD i 1=1:=by rw[aJ0,aKc hl];rfl
 refine⟨M.filter fun b=>!decide (b=a),S.same,fun j t ej hj=>?_,⟨g,fun j t ej hj hm=>?_,fun j k c d t u us ws hjk ej ek fj fk=>?_⟩,fun p hp=>(S.ex p hp).weak fun b x=>aw 1 b x,fun b hb=>S.mB b (sub b hb),?_⟩
 ·by_cases hji:j=i
  ·subst hji
   rw[hi] at ej;cases ej;refine⟨.ref a,e1,a,xs,rfl,.inl ⟨⟨fun _ z=>?_,fun z=>?_,fun z=>?_⟩,.inl e2⟩,?_⟩
   ·have:=(aKu.mp z).2
    simp at this
   ·rw[fe] at z;lia
   ·rw[fe] at z;lia
   ·rw[fe]
    exact e3.weak fun b x=>aw 1 b (x.le (fK fl))
  ·rw[fne j hji] at hj ⊢
   obtain⟨v,v1,v2⟩:=S.slot j t ej hj;exact⟨v,v1,v2.weak fun b x=>aw _ b x⟩
 ·by_cases hji:j=i
  ·subst hji
   rw[fe] at hj;cases hj
  ·rw[fne j hji] at hj
   obtain⟨w,w1,w2,w3⟩:=hg j t ej hj hm;refine⟨w,w1,w2,fun c us h=>?_⟩;obtain⟨ys,f1,f2,f3⟩:=w3 c us h;refine⟨ys,f1,f2.weak fun c x=>aw _ c (x.le (KC (by rw[hf];decide))),aKu.mpr ⟨f3,?_⟩⟩;have:g j c≠a:=fun z=>ap j i c 0 t _ us ts (.inl hji) ej hi hj hf h ⟨rfl,rfl⟩ (z.trans ga.symm);simp[this]
 ·have hj:j≠i:=fun z=>by rw[z,fe] at fj;cases fj
  have hk:k≠i:=fun z=>by rw[z,fe] at fk;cases fk
  rw[fne j hj] at fj;rw[fne k hk] at fk;exact ap j k c d t u us ws hjk ej ek fj fk
 ·rw[aKk];exact S.len
@[simp] theorem rScp_at (i:Nat) (r:Rho->Option Out) (ρ:Rho):aE5 i r ρ=(r (ρ.set i none)).bind fun o=>match o with | .nx ρ'=>(aA i ρ').bind fun t=>if sP t then some (.nx ρ') else none | .rt t=>some (.rt t) | _=>none:=id rfl
end G
namespace G
open PySem PySem.Calls PyProof.Rows
def dU {α:Type} (ask:Nat->Nat->Bool):PySem.W.KasT α->α
 | .ret a=>a
 | .ask i j k=>dU ask (k (ask i j))
def fI {α:Type} (n:Nat) (ask:Nat->Nat->Bool):PySem.W.KasT α->Bool
 | .ret _=>true
 | .ask i j k=>decide (i<n)&&decide (j<n)&&fI n ask (k (ask i j))
theorem JU {α:Type}{cmp:Nat->Nat->(Bool->Shared->Prop)->Shared->Prop}{Q:α->Shared->Prop}{n:Nat}{ask:Nat->Nat->Bool}{s:Shared}(hc:∀ i j (C:Bool->Shared->Prop),i<n->j<n->C (ask i j) s->cmp i j C s):
  ∀ t:PySem.W.KasT α,fI n ask t=true->Q (dU ask t) s->t.kasWp cmp Q s
 | .ret a,_,h=>h
 | .ask i j k,ho,h=>by
  have ho:(decide (i<n)&&decide (j<n)&&fI n ask (k (ask i j)))=true:=ho;simp only[aJc,decide_eq_true_eq] at ho;exact hc i j _ ho.1.1 ho.1.2 (JU hc (k (ask i j)) ho.2 h)
section
variable {prog:Program}{w:World}{A:Around}{E:Value->Shared->Prop}{s:Shared}
theorem TC {R:Result->Shared->Prop}{r:Addr}{a b c:Int}{t u v:Tok}{n:Nat}(hh:A.handled=none) (hr:IsRange s.heap r a b c t u v) (hsmall:Builtin.Range.small a b c=true)
  (hn:Builtin.Range.rangeSize a b c=n) (hlen:n<=2^24)
  (hR:∀ h' tk acc c',(∀ b o,s.heap.get? b=some o->h'.get? b=some o)->h'.get? s.heap.objs.size=some { cls:=.type "list",dict:=none,data:=.seq acc c',slots:=#[] }->ItemsOf (fun i v=>∃ t,v=.int (a+i*c) t) acc n ->
   R (.ok (.ret (.ref s.heap.objs.size))) { s with heap:=h',toks:=tk }):codeAny (model prog w) A (.builtin "proto.collect" ⟨[.ref r],[]⟩) R s:=by
 refine codeAny_builtin F.entry_proto_collect ?_;rw[Around.under_plainId F.plain_proto_collect _];refine wpAny_bind (wpAny_newObj_type ?_);refine wpAny_pure ⟨plainId_quiet F.plain_list_iadd _,codeAny_builtin F.entry_list_iadd ?_⟩;rw[Around.under_plainId F.plain_list_iadd _];have gS:(s.heap.push KU).get? s.heap.objs.size=some KU:=aJi _ rfl;show wpAny _ A.in1 (Builtin.List.listExtendWith (.ref s.heap.objs.size) (.ref r) (.ref s.heap.objs.size)) _ _ _;refine wpAny_extend_range (by simpa using hh) (aJa _ hr) hsmall hn hlen _ (.ref _) _ gS fun h' tk acc c' kp g hi=>?_;exact hR h' tk acc c' (fun b o e=>kp b o (aLh (aJj e)) (aJa _ e)) g hi
theorem TD {Q:List Value->Shared->Prop}{r:Addr}{a b c:Int}{t u v:Tok}{n:Nat}(hh:A.handled=none) (hr:IsRange s.heap r a b c t u v) (hsmall:Builtin.Range.small a b c=true)
  (hn:Builtin.Range.rangeSize a b c=n) (hlen:n<=2^24)
  (hQ:∀ h' tk acc,s.heap.objs.size<h'.objs.size->(∀ b o,s.heap.get? b=some o->h'.get? b=some o)->ItemsOf (fun i v=>∃ t,v=.int (a+i*c) t) acc n->Q acc.toList { s with heap:=h',toks:=tk }):wpAny (model prog w) A (collect (.ref r)) Q E s:=by
 unfold collect;refine wpAny_bind (wpAny_runValue (TC hh hr hsmall hn hlen fun h' tk acc c kp g hp=>?_));show wpAny _ A (load s.heap.objs.size >>= _) _ _ _;exact wpAny_bind (wpAny_load g (wpAny_pure (hQ h' tk acc (aJj g) kp hp)))
theorem NI {st:SortSt}{a kS:Addr}{ks out:List Value}{e e1:Nat}{P:PySem.Fin->Shared->Prop}(hk:s.heap.get? kS=some (seqObj "list" (List.toArray ks) e)) (ha:s.heap.get? a=some (seqObj "list" #[] e1)) (hne:kS≠a)
  (hout:(arrOf st).map (·.2)=List.toArray out) (hz:out.length<64) (hkz:ks.length<64) (hf:failedOf st=none)
  (h:∀ h' c,(∀ b o,b≠kS->b≠a->s.heap.get? b=some o->h'.get? b=some o)->h'.get? a=some (seqObj "list" out.toArray c)->P (.done (.ret .none)) { s with heap:=h' }):wpAny (model prog w) A (PyProof.Rows.ksk_tail a false e1 (.ref kS) st) P E s:=by
 have s1:=Heap.SameBut.update s.heap kS (Obj.mapSeq fun _=>(#[]:Array Value));have na1:(s.heap.update kS (Obj.mapSeq fun _=>(#[]:Array Value))).get? a=some (seqObj "list" #[] e1):=(s1.2 a hne.symm).trans ha;have s2:=Heap.SameBut.update (s.heap.update kS (Obj.mapSeq fun _=>(#[]:Array Value))) a (Obj.mapSeq fun _=>List.toArray out);obtain⟨c2,hc2⟩:∃ c2,((s.heap.update kS (Obj.mapSeq fun _=>(#[]:Array Value))).update a (Obj.mapSeq fun _=>List.toArray out)).get? a=some (seqObj "list" (List.toArray out) c2):=⟨_,get?_update_seq na1 fun _=>List.toArray out⟩;unfold PyProof.Rows.ksk_tail;dsimp only;rw[hout];simp only[aJf,if_false];refine wpAny_bind (listUpdate_at hk rfl ?_ (by rw[aJ8,sizeLine_eq];lia) (aLq _));refine wpAny_bind (wpAny_letGo ?_);refine wpAny_bind (seqEpoch_at na1 rfl ?_);refine wpAny_bind (listUpdate_at na1 rfl ?_ (aLq _) (aL9 (aL6 (aJ8 ..)) (by rw[sizeLine_eq];lia)));rw[hf];simp only[bne_self_eq_false,aJf,if_false];exact wpAny_pure (h _ c2 (fun b o h1 h2 q=>(s2.2 b h2).trans ((s1.2 b h1).trans q)) hc2)
structure Keys (prog:Program) (w:World) (A:Around) (KA:Addr->Heap->Nat->Value->Prop) (a:Addr) (n:Nat) (ask:Nat->Nat->Bool):Prop where
 stab:∀ kS (h h':Heap) j k,KA kS h j k->(∀ b o,b≠kS->b≠a->h.get? b=some o->h'.get? b=some o)->KA kS h' j k
 cmp:∀ kS (s:Shared) (ks:List Value),ks.length=n->2<=n->(∀ j k,ks[j]?=some k->KA kS s.heap j k)->∃ κ,(∀ Q:SortKind->Shared->Prop,Q κ s->wpAny (model prog w) A (keyKind' (List.toArray ks)) Q (fun _ _=>False) s) /\
  ∀ i j (C:Bool->Shared->Prop),i<n->j<n->C (ask i j) s->wpAny (model prog w) A (keyLt' κ (ks.getD i .none) (ks.getD j .none)) C (fun _ _=>False) s
theorem aFa {KA:Addr->Heap->Nat->Value->Prop}{a kS:Addr}{n:Nat}{ask:Nat->Nat->Bool}{ks vs:List Value}{e e1:Nat}{P:PySem.Fin->Shared->Prop}(Ky:Keys prog w A KA a n ask) (hk:s.heap.get? kS=some (seqObj "list" (List.toArray ks) e)) (ha:s.heap.get? a=some (seqObj "list" #[] e1)) (hne:kS≠a)
  (hlk:ks.length=n) (hlv:vs.length=n) (h64:n<64) (hK:∀ j k,ks[j]?=some k->KA kS s.heap j k) (hok:fI n ask (PySem.W.kas_sort n)=true\/n<2)
  (h:∀ h' c,(∀ b o,b≠kS->b≠a->s.heap.get? b=some o->h'.get? b=some o)->h'.get? a=some (seqObj "list" (List.toArray (if n<2 then vs else (dU ask (PySem.W.kas_sort n)).toList.map fun i=>vs.getD i Value.none)) c)->P (.done (.ret .none)) { s with heap:=h' }):
  wpAny (model prog w) A (PyProof.Rows.ksk_end a false vs.toArray e1 (.ref kS) (List.toArray ks)) P E s:=by
 have hl:ks.length=vs.length:=by lia
 unfold PyProof.Rows.ksk_end;dsimp only;simp only[aJf,if_false]
 by_cases h2:n<2
 ·rw[if_pos h2] at h
  have h2':vs.toArray.size<2:=by rw[aJ8];lia
  rw[if_pos h2',if_pos h2'];refine wpAny_bind (wpAny_pure ?_);rw[StateT.run_pure];refine wpAny_bind (wpAny_pure ?_)
  try dsimp only
  refine NI (st:=SortSt.mk' general' ((List.toArray ks).zip vs.toArray) #[] 7 none) (out:=vs) hk ha hne ?_ (by lia) (by lia) rfl h;show ((List.toArray ks).zip vs.toArray).map (·.2)=vs.toArray
  apply Array.toList_inj.mp
  rw[Array.toList_map,ksk_zip];exact List.map_snd_zip (by simp[hl])
 ·rw[if_neg h2] at h
  have h2':¬ vs.toArray.size<2:=by rw[aJ8];lia
  rw[if_neg h2',if_neg h2'];obtain⟨κ,k1,k2⟩:=Ky.cmp kS s ks hlk (by lia) hK;refine wpAny_bind (wpAny_mono (k1 (fun κ' s'=>κ'=κ/\s'=s) ⟨rfl,rfl⟩) (fun κ' s' hq=>?_) fun _ _ x=>x.elim);obtain⟨rfl,rfl⟩:=hq;have hok':fI n ask (PySem.W.kas_sort n)=true:=hok.resolve_right h2;have run:=PySem.W.kat_run (prog:=prog) (w:=w) (A:=A) (E:=E) (s:=s') (κ:=κ') (ks:=ks) (vs:=vs) (Q:=fun st' s''=>s''=s'/\failedOf st'=none/\arrOf st'=(dU ask (PySem.W.kas_sort n)).map (PySem.W.kas_item ((List.toArray ks).zip vs.toArray))/\(dU ask (PySem.W.kas_sort n)).size=n) (G:=fun p s''=>s''=s'/\p=dU ask (PySem.W.kas_sort n)) hl (by lia) (by lia)
   (fun p st' s'' e1 e2 e3 e4=>by obtain⟨rfl,rfl⟩:=e4;exact⟨rfl,e3,e2,by lia⟩) (by rw[hlv];exact JU (n:=n) (ask:=ask) (fun i j C hi hj hc=>k2 i j C hi hj hc) _ hok' ⟨rfl,rfl⟩)
  refine wpAny_bind (wpAny_mono run (fun r s'' hr=>?_) fun _ _ x=>x);obtain⟨⟨⟩,st'⟩:=r;obtain⟨rfl,hf,har,hsz⟩:=hr
  try dsimp only
  exact NI hk ha hne (PySem.W.kat_snds hl har) (by rw[aKg,Array.length_toList,hsz];exact h64) (by lia) hf h
end
end G
namespace G
open PySem PySem.Spec PyProof.Rows L2
abbrev aGu (y x:Str):Scope:={ kind:=.function,names:=[(y,.local),(x,.free)],isGenerator:=false,isCoroutine:=false,more:=[] }
abbrev dE (y:Str) (yp:Pos):Arguments:={ posonlyargs:=[],args:=[{ arg:=y,annotation:=none,pos:=yp }],vararg:=none,kwonlyargs:=[],kw_defaults:=[],kwarg:=none,defaults:=[] }
abbrev aGz (v u:Value):Obj:={ cls:=.type "tuple",data:=.seq [v,u].toArray }
section
variable {prog:Program}{w:World}{A:Around}{E:Value->Shared->Prop}{s:Shared}{env:Env}{x y:Str}{cx pl:Addr}{m:Str->Option Value}{j:Int}{tj:Tok}{its:List Value}
end
section
variable {prog:Program}{w:World}{A:Around}
theorem BF {α:Type}{l:List α}{i:Nat}{x d:α}(h:l[i]?=some x):l.getD i d=x:=by rw[aJ0,h];rfl
structure BodyOk (prog:Program) (w:World) (body:Expr) (y x:Str) (KA:List Int->Addr->Addr->Heap->Nat->Value->Prop) (ask:List Int->Nat->Nat->Bool):Prop where
 keys:∀ A ns a n,Keys prog w A (KA ns a) a n (ask ns)
 run:∀ (A:Around) (env:Env) (s:Shared) (cx pl:Addr) (its:List Value) (m:Str->Option Value) (j:Nat) (tj:Tok) (v:Int) (t:Tok) (ns:List Int) (a kS:Addr),env.scope.kind=.function->env.kindOf y=some .local->env.kindOf x=some .free->env.cells.lookup x=some cx->s.heap.IsCell cx (some (.ref pl)) ->
  s.heap.Ns env.locals m->m y=some (.int (j:Int) tj)->s.heap.IsList pl its.toArray->j<64->its[j]?=some (.int v t)->ns[j]?=some v->a<s.heap.objs.size->kS<s.heap.objs.size ->
  wpAny (model prog w) A (eval body env) (fun k s'=>∃ h' tk',s'={ s with heap:=h',toks:=tk' }/\(∀ b o,s.heap.get? b=some o->h'.get? b=some o)/\KA ns a kS h' j k) (fun _ _=>False) s
end
structure LamK (K:PySem.W.Frag) (mg:Str->Option Value) (c P bm:Addr):Prop where
 code:PySem.W.codeHdIn K c P=true
 blt:mg "__builtins__" = some (.ref bm)
 mod:∃ sl,K.lookup bm=some ⟨.type "module",some builtinsNs,.plain,sl⟩
 n1:bm≠builtinsNs
 n2:bm≠mainGlobals
section
variable {X:Cx}{pins:List (Addr × Obj)}{σ:St}{H:Hp}{s:Shared}
end
def eW (n:Nat) (ask:Nat->Nat->Bool):Bool:=decide (n<2)||(fI n ask (PySem.W.kas_sort n)&&(dU ask (PySem.W.kas_sort n)).toList.all (fun i=>decide (i<n))&&decide ((dU ask (PySem.W.kas_sort n)).toList.length=n))
def eD (n:Nat) (ask:Nat->Nat->Bool):List Int:=if n<2 then upT n else (dU ask (PySem.W.kas_sort n)).toList.map fun (i:Nat)=>(i:Int)
theorem JV {n:Nat}{ask:Nat->Nat->Bool}{vs:List Value}(hl:vs.length=n) (hv:∀ (j:Nat) v,vs[j]?=some v->∃ t,v=Value.int (j:Int) t) (hg:eW n ask=true):
  aI ((eD n ask).map V.int) (if n<2 then vs else (dU ask (PySem.W.kas_sort n)).toList.map fun i=>vs.getD i Value.none):=by
 unfold eW at hg;unfold eD
 by_cases h2:n<2
 ·rw[if_pos h2,if_pos h2]
  exact OL n vs hl fun j v e=>by
   obtain⟨t,rfl⟩:=hv j v e;exact⟨t,by simp⟩
 ·rw[if_neg h2,if_neg h2]
  have hall:∀ i∈(dU ask (PySem.W.kas_sort n)).toList,i<n:=fun i hi=>by
   simp only[aJh,decide_eq_true_eq,aJc,h2,false_or,aJ5] at hg;exact hg.1.2 i hi
  generalize (dU ask (PySem.W.kas_sort n)).toList=l at hall
  induction l with
  | nil=>exact .nil
  | cons i l ih=>
   refine .cons ?_ (ih fun k hk=>hall k (aJ2 _ hk));have hi:=hall i aJ3;obtain⟨v,e⟩:∃ v,vs[i]?=some v:=⟨_,aJ1 (by lia)⟩;obtain⟨t,rfl⟩:=hv i v e;exact⟨t,by show vs.getD i Value.none=_;rw[BF e]⟩
section
variable {X:Cx}
end
def oSK (ask:List Int->Nat->Nat->Bool):List T->T->Option T
 | [.int n],.lst us=>(bX us).bind fun ns=>if n=(ns.length:Int)/\ns.length<64/\eW ns.length (ask ns)=true then some (.lst (tI (eD ns.length (ask ns)))) else none
 | _,_=>none
def fSK (fa:Rho->Option (List T)) (ix:Nat) (ask:List Int->Nat->Nat->Bool):Rho->Option T:=fun ρ=>(fa ρ).bind fun ts=>(aA ix ρ).bind fun t=>oSK ask ts t
@[simp] theorem fSK_at (fa:Rho->Option (List T)) (ix:Nat) (ask:List Int->Nat->Nat->Bool) (ρ:Rho):fSK fa ix ask ρ=(fa ρ).bind fun ts=>(aA ix ρ).bind fun t=>oSK ask ts t:=id rfl
section
variable {X:Cx}{B:Hp}{fl:List Nat}{e:Expr}{fa:Rho->Option (List T)}{l':Nat}
end
def spP (Pt:Addr) (o:HO) (sp:Sp):Sp:=fun vs H Q E=>H Pt=some o/\sp vs H Q E
structure CalP (P:Program) (w:World) (K:PySem.W.Frag) (mg:Str->Option Value) (base:Heap) (Pt:Addr) (o:HO) (x:Str) (k:Nat) (ps:List Str) (F:List T->Option T) (n:Bool) (l:Nat):Prop where
 ex:∃ f fd,FnOk P w K mg base CX0 k f fd ps (spP Pt o (spT K F n l))/\mg x=some (.ref f)/\PySem.W.keepIn K (.ref f)=true/\eX K fd ps []
section
variable {X:Cx}{B:Hp}{fl:List Nat}{e:Expr}{es:List Expr}{f:Rho->Option T}{fa:Rho->Option (List T)}{n n':Bool}{l l' k:Nat}{pos p':Pos}{x:Str}{ps:List Str}{F:List T->Option T}{Pt:Addr}{o:HO}
theorem HY (C:CalP X.prog X.w X.K X.mg X.base Pt o x k ps F n l) (hB:B Pt=some o) (hr:Room k X.A) (hg:Gl X x) (ha:GA X B fl (e::es) fa l') (hl:(decide (l=0)||decide (l=3))=true:=by rfl) (hdb:(x == ("__debug__" : Str))=false:=by decide)
  (he:starEach (e::es) X.env=(false,eval e X.env)::starEach es X.env:=by rfl) (hpl:(backTo pos (starEach es X.env)).any (·.1)=false:=by rfl):GE X B fl (.Call (.Name x p') (e::es) [] pos) (aG fa F) n l:=by
 obtain⟨f,fd,FO,hm,hk,hb⟩:=C.ex;refine bI (LO FO hr hg hm hk hb .nil LN ha hdb he hpl) ?_;rintro σ H Q ⟨Ex,ρ,M,t,S,hf,q⟩;obtain⟨ts,hts,hf⟩:=bind_some hf;simp only[aJh,decide_eq_true_eq] at hl;refine⟨Ex,ρ,M,ts,S,hts,fun vs H1 s1 r1=>?_⟩;show spP Pt o (spT X.K F n l) (vs++[]) H1 Q E0;rw[List.append_nil];exact⟨(S.same.trans s1) _ _ hB,ts,t,r1.weak fun _ _=>trivial,hf,fun v H2 s2 r2=>q v H2 (s1.trans s2) (r2.called S s1 hl)⟩
end
structure FunC (K:PySem.W.Frag) (x qual:Str) (st:Stmt) (f:Addr) (fd:FuncData) (c:Addr):Prop where
 ex:∃ (oc:Value) (od:Option Addr) (kV doc pm:Value) (an:Option Addr) (ct:Value) (osl:Array (Option Value)),
  fd=PySem.W.fnOf x qual (defArgs st) (defBody st) (defScope st) .none kV doc pm an (.ref c) ct/\K.lookup f=some ⟨oc,od,.func fd,osl⟩/\PySem.W.codeIn K (.ref c) qual=true
 kp:PySem.W.keepIn K (.ref f)=true
theorem FunC.fn {K:PySem.W.Frag}{x qual:Str}{st:Stmt}{f c:Addr}{fd:FuncData}(F:FunC K x qual st f fd c):Fun K x qual st f fd:=by
 obtain⟨oc,od,kV,doc,pm,an,ct,osl,h1,h2,h3⟩:=F.ex;exact⟨⟨oc,od,kV,doc,pm,an,.ref c,ct,osl,h1,h2,h3⟩,F.kp⟩
theorem WL {K:PySem.W.Frag}{x qual:Str}{st:Stmt}{f c:Addr}{oc:Value}{od an:Option Addr}{osl:Array (Option Value)}{kV doc pm ct:Value}(l:K.lookup f=some ⟨oc,od,.func (PySem.W.fnOf x qual (defArgs st) (defBody st) (defScope st) .none kV doc pm an (.ref c) ct),osl⟩)
  (cc:PySem.W.codeIn K (.ref c) qual=true) (k:PySem.W.keepIn K (.ref f)=true):FunC K x qual st f (PySem.W.fnOf x qual (defArgs st) (defBody st) (defScope st) .none kV doc pm an (.ref c) ct) c:=⟨⟨oc,od,kV,doc,pm,an,ct,osl,rfl,l,cc⟩,k⟩
section
variable {P:Program}{w:World}{K:PySem.W.Frag}{mg:Str->Option Value}{base:Heap}
theorem HJ {K:PySem.W.Frag}{H:Hp}{fl:List Nat}{n:Bool}{l:Nat}{N ps:List Str}{run:Rho->Option Out}{X:Cx}{body:List Stmt}{ts:List T}{t:T}{vs:List V}{Q:VK}(hXK:X.K=K) (hfl:fl.length=N.length) (hp:∀ i,i<ps.length->fl.getD i 1=1) (hl:ts.length=ps.length) (r:RepL K H (fun _=>True) ts vs) (hN:ps.length<=N.length)
  (hb:GSs X H fl n l body run) (ho:∃ o,run (ts.map some++List.replicate (N.length-ps.length) none)=some o/\rW o t) (q:∀ v H',aO H H'->aN K H H [] H' n l t v->Q v H') (hl4:l≠4):
  ∃ tt,PSs X body tt/\tt { nx:=fun _ H'=>Q .non H',rt:=Q } (L2.start N vs) H:=by
 subst hXK;refine⟨_,hb,?_⟩;obtain⟨o,ho,hi⟩:=ho;refine⟨[],_,[],o,EB hfl hp hl r hN,ho,?_⟩;cases o with
 | rt u=>
  cases (show u=t from hi);exact fun v H' s' r'=>q v H' s' ((RtX.of hl4).mp r')
 | nx ρ'=>
  cases (show t=.non from hi);exact fun σ' M' H' S'=>q _ H' S'.same ((aN.scal rfl).mpr rfl)
 | bk _=>exact False.elim hi
 | ct _=>exact False.elim hi
theorem IJ {x qual:Str}{st:Stmt}{f:Addr}{fd:FuncData}{N ps:List Str}{k:Nat}{fl:List Nat}{n:Bool}{l:Nat}{F:List T->Option T}{run:Rho->Option Out}{Pt:Addr}{o:HO}(Fu:Fun K x qual st f fd) (S:FnScope N ps (defScope st))
  (hfl:fl.length=N.length) (hp:∀ i,i<ps.length->fl.getD i 1=1) (hlen:∀ ts t,F ts=some t->ts.length=ps.length)
  (hb:∀ (cdv:Value) (A:Around) (outer:List Env) (s:Shared) (H:Hp) (E:XK),H Pt=some o->Room k (A.deeper (envOfC qual (defScope st) s.heap.objs.size f cdv)) ->
   GSs (aW CX0 P w K mg base N qual (defScope st) f cdv A outer s H E).nox H fl n l (defBody st) run)
  (hrun:∀ ts t,F ts=some t->∃ o,run (ts.map some++List.replicate (N.length-ps.length) none)=some o/\rW o t) (hl4:l≠4:=by decide):FnOk P w K mg base CX0 (k+1) f fd ps (spP Pt o (spT K F n l)):=by
 have hN:ps.length<=N.length:=by have:=congrArg List.length S.pre;rw[aKl] at this;lia
 refine Fu.ok S (fun vs H Q E h=>?_) (fun cdv A outer s H vs Q E hr h=>?_)
 ·obtain⟨_,ts,t,r,hf,_⟩:=h
  rw[<- r.length];exact hlen ts t hf
 ·obtain⟨hP,ts,t,r,hf,q⟩:=h
  exact HJ rfl hfl hp (hlen ts t hf) r hN (hb cdv A outer s H E hP hr) (hrun ts t hf) q hl4
theorem XD {x qual:Str}{st:Stmt}{f c:Addr}{fd:FuncData}{N ps:List Str}{k:Nat}{fl:List Nat}{n:Bool}{l:Nat}{F:List T->Option T}{run:Rho->Option Out}{Pt:Addr}{o:HO}(Fu:FunC K x qual st f fd c) (S:FnScope N ps (defScope st))
  (hfl:fl.length=N.length) (hp:∀ i,i<ps.length->fl.getD i 1=1) (hlen:∀ ts t,F ts=some t->ts.length=ps.length)
  (hb:∀ (A:Around) (outer:List Env) (s:Shared) (H:Hp) (E:XK),H Pt=some o->Room k (A.deeper (envOfC qual (defScope st) s.heap.objs.size f (.ref c))) ->
   GSs (aW CX0 P w K mg base N qual (defScope st) f (.ref c) A outer s H E).nox H fl n l (defBody st) run)
  (hrun:∀ ts t,F ts=some t->∃ o,run (ts.map some++List.replicate (N.length-ps.length) none)=some o/\rW o t) (hl4:l≠4:=by decide):FnOk P w K mg base CX0 (k+1) f fd ps (spP Pt o (spT K F n l)):=by
 have hN:ps.length<=N.length:=by have:=congrArg List.length S.pre;rw[aKl] at this;lia
 obtain⟨oc,od,kV,doc,pm,an,ct,osl,rfl,lk,hcd⟩:=Fu.ex;refine AX lk hcd S (fun vs H Q E h=>?_) fun A outer s H vs Q E hr h=>?_
 ·obtain⟨_,ts,t,r,hf,_⟩:=h
  rw[<- r.length];exact hlen ts t hf
 ·obtain⟨hP,ts,t,r,hf,q⟩:=h
  obtain⟨t,h,q⟩:=HJ rfl hfl hp (hlen ts t hf) r hN (hb A outer s H E hP hr) (hrun ts t hf) q hl4;exact⟨t,h.nox,q⟩
end
theorem ZM {P:Program}{w:World}{K:PySem.W.Frag}{mg mb:Str->Option Value}{k:Nat}{fa a Pt c:Addr}{fd:FuncData}{x:Str}{F0:List T->Option T}{n:Bool}{lv:Nat}{lpos:Pos}{q:Str}{s₁:Shared}{vs:List Value}{ns:List Int}
  (KX:K.In s₁.heap) (hns:s₁.heap.Ns mainGlobals mg) (hb:s₁.heap.Ns builtinsNs mb) (hbb:∀ x:Str,x ≠ "__name__" -> mb x=bootBuiltins x) (hlim:s₁.heap.NoLimit) (hdig:s₁.heap.NoDigits) (hg:s₁.gens=#[])
  (ha:s₁.heap.get? a=some { cls:=.type "list",data:=.seq vs.toArray }) (hi:IntsAre vs ns) (hl:ns.length<=sizeLine) (hr:Room k callerA) (hC:PySem.W.codeHdIn K c Pt=true) (hPt:s₁.heap.get? Pt=some (PySem.W.tabObj #[])) (hPK:K.lookup Pt=none)
  (F:∀ base:Heap,K.In base->base.Ns mainGlobals mg->FnOk P w K mg base CX0 k fa fd [x] (spP Pt (.tbc lpos q) (spT K F0 n lv))) (hbind:∀ (s:Shared) (u:Value),BindsTo s fd ⟨[u],[]⟩ [(x,u)]) (ht:F0 [.lst (ns.map T.int)]=some (.bl true)):
  codeAny (model P w) callerA (.call (.ref fa) ⟨[.ref a],[]⟩) (fun r s'=>r=.ok (.ret (.bool true))/\OldK s₁.heap s'.heap/\s'.os=s₁.os/\AllBare s'.gens) s₁:=by
 have rv:=wG hi;have lenV:=hi.length;have haP:a≠Pt:=fun z=>by rw[z,hPt] at ha;cases ha
 have core:∀ H:Hp,H Pt=some (.tbc lpos q)->SqL K H a (ns.map V.int)->HOk P w H s₁.heap->(∀ b,H b≠none->b≠Pt->b=a/\∃ o xs,H b=some (.frz o (.lst xs)))->(H a≠none->K.lookup a=none) ->
   codeAny (model P w) callerA (.call (.ref fa) ⟨[.ref a],[]⟩) (fun r s'=>r=.ok (.ret (.bool true))/\OldK s₁.heap s'.heap/\s'.os=s₁.os/\AllBare s'.gens) s₁:=by
  intro H hHP hS hok hA hK;have base_of:∀ {b:Addr} {o:Obj},s₁.heap.get? b=some o->H b=none->(eO s₁.heap H).get? b=some o:=fun e n=>JG e n;have noA:∀ {b:Addr} {o:Obj} {es:Array DictEntry} {ep:Nat},s₁.heap.get? b=some o->o.data=.dict es ep->H b=none:=fun {b o es ep} e d=>by
   cases hq:H b with
   | none=>rfl
   | some u=>
    by_cases hbP:b=Pt
    ·subst hbP
     rw[hPt] at e;cases e;cases d
    ·have e':b=a:=(hA b (by rw[hq];simp) hbP).1
     subst e';rw[ha] at e;cases e;have d':Data.seq vs.toArray _=Data.dict es ep:=d;cases d'
  have nsK:∀ {b:Addr} {m:Str->Option Value},s₁.heap.Ns b m->(eO s₁.heap H).Ns b m:=fun {b m} ⟨o,es,ep,e,d,r⟩=>⟨o,es,ep,base_of e (noA e d),d,r⟩;have hKb:K.In (eO s₁.heap H):=fun b o e=>base_of (KX b o e) (by
   cases hq:H b with
   | none=>rfl
   | some u=>
    by_cases hbP:b=Pt
    ·subst hbP
     rw[hPK] at e;cases e
    ·have e':b=a:=(hA b (by rw[hq];simp) hbP).1
     subst e';rw[hK (by rw[hq];simp)] at e;cases e)
  have hM:Mod K mg (eO s₁.heap H):=⟨hKb,nsK hns,⟨mb,nsK hb,hbb⟩,let ⟨mc,h1,h2⟩:=hlim;⟨mc,nsK h1,h2⟩,let ⟨mc,h1,h2⟩:=hdig;⟨mc,nsK h1,h2⟩⟩;have e0:Env0 P w K mg (eO s₁.heap H) callerA [] s₁ H:=⟨rfl,hM,fun b o e=>LE e,aL6 (JH _ _),trivial,fun b hb=>absurd (show b∈([]:List Addr) from hb) (by simp),hok,.of_eq hg⟩;have ri:∀ ns:List Int,RepL K H (fun _=>True) (ns.map T.int) (ns.map V.int):=fun ns=>by
   induction ns with
   | nil=>exact rfl
   | cons a r ih=>exact⟨_,_,rfl,rfl,ih⟩
  have hsp:spP Pt (.tbc lpos q) (spT K F0 n lv) [.ref a] H (fun v H'=>v=.bl true/\H' Pt=some (.tbc lpos q)) fun _ _ _=>False:=by
   refine⟨hHP,[.lst (ns.map T.int)],.bl true,⟨.ref a,[],rfl,⟨a,ns.map V.int,rfl,?_,ri ns⟩,rfl⟩,ht,fun v H' sm r=>⟨(aN.scal rfl).mp r,sm _ _ hHP⟩⟩;rcases hS with hS | hS
   ·exact .inl ⟨trivial,hS⟩
   ·exact .inr hS
  refine codeAny_mono ((F _ hKb (nsK hns)).run callerA [] s₁ H ⟨[.ref a],[]⟩ [.ref a] [.ref a] _ _ hr e0 (hbind s₁ (.ref a)) (.cons rfl .nil) hsp) fun r s' h=>?_;cases r with
  | error e=>exact False.elim h
  | ok fl=>
   cases fl with
   | next=>exact False.elim h
   | brk=>exact False.elim h
   | cont=>exact False.elim h
   | ret u=>
    obtain⟨v,H',os,bare,un,hok',r',q1,q2⟩:=h;have q':v=.bl true:=q1;subst q';obtain rfl:u=Value.bool true:=r';refine⟨rfl,⟨fun b o e=>?_,fun b o e=>un.there b o e (by simp)⟩,os,bare⟩
    by_cases hbP:b=Pt
    ·subst hbP
     obtain⟨ps,h1,_⟩:=hok' b _ q2;rw[hPt] at e;cases e;exact .inr (.inl ⟨((PySem.W.codeHd_of_K KX hC).tab hPt).isCodeTable,rfl,#[],ps,rfl,by rw[h1];simp⟩)
    ·cases hq:H b with
     | none=>exact .inl (un.keep b o e hq (by intro z;exact absurd (show b∈([]:List Addr) from z) (by simp)) (by simp))
     | some u=>
      obtain⟨_,ob,xs,z⟩:=hA b (by rw[hq];simp) hbP;have z2:=un.frzs b ob _ z;obtain⟨e1,_⟩:=hok b _ z;obtain⟨e2,_⟩:=hok' b _ z2;rw[e] at e1;cases e1;exact .inl e2
 have tb:∀ H:Hp,H Pt=some (.tbc lpos q)->dB P w H s₁.heap Pt (.tbc lpos q):=fun H _=>⟨#[],hPt,trivial,.inl rfl⟩;cases hk:K.lookup a with
 | some o=>
  have e:=KX a o hk;rw[ha] at e;cases e;have h1:(fun b=>if b=Pt then some (HO.tbc lpos q) else none) Pt=some (HO.tbc lpos q):=if_pos rfl;refine core (fun b=>if b=Pt then some (.tbc lpos q) else none) h1 (.inr ⟨_,vs.toArray,_,hk,rfl,rfl,rfl,by rw[aJ8,lenV];exact hl,by simpa using rv⟩) (fun b u z=>?_) (fun b z hb=>absurd (if_neg hb) z) fun z=>absurd (if_neg haP) z
  by_cases hbP:b=Pt
  ·subst hbP
   rw[h1] at z;cases z;exact tb _ h1
  ·have z':=(if_neg hbP).symm.trans z
   cases z'
 | none=>
  have h1:(fun b=>if b=Pt then some (HO.tbc lpos q) else if b=a then some (HO.frz { cls:=.type "list",data:=.seq vs.toArray } (.lst (ns.map V.int))) else none) Pt=some (HO.tbc lpos q):=if_pos rfl;have h2:(fun b=>if b=Pt then some (HO.tbc lpos q) else if b=a then some (HO.frz { cls:=.type "list",data:=.seq vs.toArray } (.lst (ns.map V.int))) else none) a=some (HO.frz { cls:=.type "list",data:=.seq vs.toArray } (.lst (ns.map V.int))):=(if_neg haP).trans (if_pos rfl);refine core (fun b=>if b=Pt then some (.tbc lpos q) else if b=a then some (.frz { cls:=.type "list",data:=.seq vs.toArray } (.lst (ns.map V.int))) else none) h1 (.inl (.inr ⟨{ cls:=.type "list",data:=.seq vs.toArray },h2⟩)) (fun b u z=>?_) (fun b z hb=>?_) fun _=>hk
  ·by_cases hbP:b=Pt
   ·subst hbP
    rw[h1] at z;cases z;exact tb _ h1
   ·by_cases hba:b=a
    ·subst hba
     rw[h2] at z;cases z;exact⟨ha,by rw[aKg];exact hl,vs,_,rv,ha⟩
    ·have z':=((if_neg hbP).trans (if_neg hba)).symm.trans z
     cases z'
  ·by_cases hba:b=a
   ·subst hba
    exact⟨rfl,_,_,h2⟩
   ·exact absurd ((if_neg hb).trans (if_neg hba)) z
theorem ZN {l:PySem.W.OpenLaw}{q:Program}{loose:List Str}{XP:(Str->Option Value)->Heap->Prop}{YP:World->Heap->Prop}{d:DefRec}{K:Params->PySem.W.Frag}{k:Nat}{F0:List T->Option T}{n:Bool}{lv:Nat}{Pt c:Addr}{lpos:Pos}{qn:Str}(hr:Room k callerA) (hn:l.most=some 63) (hdf:d.params.defaults=[])
  (hY:∀ (w:World) (h:Heap),YP w h->(K w.params).In h/\h.get? Pt=some (PySem.W.tabObj #[])) (hC:∀ p,PySem.W.codeHdIn (K p) c Pt=true) (hPK:∀ p,(K p).lookup Pt=none)
  (F:∀ (w:World) (mg:Str->Option Value) (fa:Addr) (h:Heap),(K w.params).In h->h.Ns mainGlobals mg->mg d.name=some (.ref fa) ->
   ∃ fd:FuncData,(∀ (s:Shared) (u:Value),BindsTo s fd ⟨[u],[]⟩ [("script",u)])/\∀ base:Heap,(K w.params).In base->base.Ns mainGlobals mg->FnOk l.prog w (K w.params) mg base CX0 k fa fd ["script"] (spP Pt (.tbc lpos qn) (spT (K w.params) F0 n lv)))
  (ht:∀ ns:List Int,ns.length<=63->F0 [.lst (ns.map T.int)]=some (.bl true)):
  PySem.W.WalkO q loose XP YP l.row.toRowW d [] (fun f vs=>PySem.call f vs):=by
 refine Att.attach_call hn hdf fun w s₀ s₁ mg mb fa o pm cd doc a vs ns G Y ho hd hcd hmg hobj hints hlen hg=>?_;obtain⟨KX,hPt⟩:=hY w _ Y;obtain⟨fd,hb,hF⟩:=F w mg fa _ KX G.T.g hmg;exact ZM KX G.T.g G.T.b G.T.builtins G.T.nolimit G.T.nodigits hg hobj hints (aL9 hlen (by decide)) hr (hC _) hPt (hPK _) hF hb (ht ns hlen)
def jI (ns:List Int):List Int:=(zL ns).reverse
theorem ED (ns:List Int):(jI ns).Perm ns:=(List.reverse_perm _).trans (NF ns)
theorem NG (ns:List Int):(jI ns).Pairwise (·<=·):=List.pairwise_reverse.mpr (NE ns)
theorem FQ {a b:List Int}(hp:a.Perm b) (ha:a.Pairwise (·<=·)) (hb:b.Pairwise (·<=·)):a=b:=by
 have:=GY a.reverse b.reverse ((List.reverse_perm _).trans (hp.trans (List.reverse_perm _).symm)) (List.pairwise_reverse.mpr ha) (List.pairwise_reverse.mpr hb);have h2:=congrArg List.reverse this
 simpa using h2
section
variable {X:Cx}{B:Hp}{fl:List Nat}{e:Expr}{es:List Expr}{fa:Rho->Option (List T)}{l:Nat}{pos p':Pos}{x:Str}
theorem ST:eR X (.builtin "sorted") (fun vs H Q=>∃ a ns,vs=[.ref a]/\SqL X.K H a (List.map V.int ns)/\ns.length<64/\∀ q,H q=none->Q (.ref q) (upd H q (.lst ((jI ns).map V.int)))):=by
 intro pins s σ H vs us Q I r h;obtain⟨a,ns,rfl,hS,h64,q⟩:=h;obtain⟨u,rfl,ru⟩:=rT r;cases ru;obtain⟨its,rv,pl,hz⟩:=I.list hS;have hl:=rv.length;refine sorted_ints pl.isList (JK rv) (by rw[<- hl,aKg];exact h64) fun out ns' a1 a2 a3=>?_;have e':ns'=jI ns:=FQ (a2.trans (ED ns).symm) a3 (NG ns);subst e';obtain⟨c',hc'⟩:=sortedAll_at s.heap its out;refine⟨.ref _,_,I.laid (t':=s.toks) (o:=.lst ((jI ns).map V.int)) (fun b o e=>sortedAll_old e) (Nat.le_succ _) ⟨?_,out.toList,c',wG a1,?_⟩,rfl,q _ (I.hok.fresh (Nat.le_succ _))⟩
 ·rw[aKg,(ED ns).length_eq,sizeLine_eq];lia
 ·rw[hc']
def xW:List T->Option T
 | [.lst ts]=>(bX ts).bind fun ns=>if ns.length<64 then some (.lst (tI (jI ns))) else none
 | _=>none
theorem aAk {ns:List Int}(h:ns.length<64):xW [.lst (tI ns)]=some (.lst (tI (jI ns))):=by simp[xW,mM,h]
theorem XB (hx:x = "sorted") (hg:Gl X x) (hm:X.mg x=none) (ha:GA X B fl (e::es) fa l)
  (he:starEach (e::es) X.env=(false,eval e X.env)::starEach es X.env:=by rfl) (hpl:(backTo pos (starEach es X.env)).any (·.1)=false:=by rfl):GE X B fl (.Call (.Name x p') (e::es) [] pos) (aG fa xW) true 3:=by
 subst hx;refine bI (kD ST hg hm PyProof.Rows.boot_sorted ha (by decide) (by decide) he hpl) ?_;rintro σ H Q ⟨Ex,ρ,M,t,S,hf,q⟩;obtain⟨ts,hts,hf⟩:=bind_some hf;refine⟨Ex,ρ,M,ts,S,hts,fun vs H1 s1 r1=>?_⟩
 match ts,hf with
 | [.lst us],hf=>
  have hf:((bX us).bind fun ns=>if ns.length<64 then some (T.lst (tI (jI ns))) else none)=some t:=hf;obtain⟨ns,hns,hf2⟩:=bind_some hf
  clear hf
  split at hf2
  ·rename_i h64
   have et:=aIz hf2;subst et;cases jN hns;obtain⟨y,rfl,ry⟩:=eG r1;obtain⟨p,xs,rfl,h1,h2⟩:=ry.sqL;cases kG h2;exact⟨p,ns,rfl,h1,h64,fun p' hp=>q _ _ (s1.trans (dZ hp _)) (aN.laid s1 hp (tV _))⟩
  ·cases hf2
end
def tN (n:Nat) (l:List Nat):Bool:=decide (l.length=n)&&l.all (fun i=>decide (i<n))&&(List.range n).all (fun i=>l.contains i)&&decide l.Nodup
def fZ (n:Nat):List (Nat × Nat × Bool)->PySem.W.KasT (Array Nat)->Bool
 | _,.ret p=>tN n p.toList
 | tr,.ask i j k=>decide (i<n)&&decide (j<n)&&(if tr.contains (i,j,true)=true then fZ n tr (k true) else if tr.contains (i,j,false)=true then fZ n tr (k false) else fZ n ((i,j,true)::tr) (k true)&&fZ n ((i,j,false)::tr) (k false))
def qI (lt:List (Nat × Nat)) (a b:Nat):List (Nat × Nat):=((a::(lt.filter (·.2 == a)).map (·.1)).flatMap fun x=>(b::(lt.filter (·.1 == b)).map (·.2)).map fun y=>(x,y))++lt
def tW (lt:List (Nat × Nat)):List Nat->Bool
 | a::b::r=>lt.contains (a,b)&&tW lt (b::r)
 | _=>true
def fJ (n:Nat):List (Nat × Nat)->PySem.W.KasT (Array Nat)->Bool
 | lt,.ret p=>tN n p.toList&&tW lt p.toList
 | lt,.ask i j k=>decide (i<n)&&decide (j<n)&&decide (i≠j)&&(if lt.contains (i,j)=true then fJ n lt (k true) else if lt.contains (j,i)=true then fJ n lt (k false) else fJ n (qI lt i j) (k true)&&fJ n (qI lt j i) (k false))
def rX (ask:Nat->Nat->Bool):List Nat->Prop
 | a::b::r=>ask a b=true/\rX ask (b::r)
 | _=>True
def mL (n:Nat) (l:List Nat):Prop:=l.length=n/\(∀ i∈l,i<n)/\(∀ i<n,i∈l)/\l.Nodup
theorem LS {n:Nat}{l:List Nat}(h:tN n l=true):mL n l:=by
 unfold tN at h;simp only[aJc,decide_eq_true_eq,aJ5,aJx,aJ6] at h;exact⟨h.1.1.1,h.1.1.2,h.1.2,h.2⟩
theorem MO {ask:Nat->Nat->Bool}{lt:List (Nat × Nat)}(ht:∀ x∈lt,ask x.1 x.2=true):∀ l,tW lt l=true->rX ask l
 | [],_=>trivial
 | [_],_=>trivial
 | a::b::r,h=>by
  have h:(lt.contains (a,b)&&tW lt (b::r))=true:=h;simp only[aJc,aJx] at h;exact⟨ht _ h.1,MO ht _ h.2⟩
theorem FJ {ask:Nat->Nat->Bool}(tr:∀ i j k,ask i j=true->ask j k=true->ask i k=true) {lt:List (Nat × Nat)}{a b:Nat}(ht:∀ x∈lt,ask x.1 x.2=true) (h:ask a b=true):∀ x∈qI lt a b,ask x.1 x.2=true:=by
 intro x hx;unfold qI at hx;rcases aKr.mp hx with hx | hx
 ·obtain⟨u,hu,hx⟩:=List.mem_flatMap.mp hx
  obtain⟨v,hv,rfl⟩:=aKw.mp hx;have h1:u=a\/ask u a=true:=by
   rcases aJb.mp hu with e | hu
   ·exact .inl e
   ·obtain⟨q,hq,rfl⟩:=aKw.mp hu
    obtain⟨h1,h2⟩:=aKu.mp hq;have:=ht q h1;rw[eq_of_beq h2] at this;exact .inr this
  have h2:v=b\/ask b v=true:=by
   rcases aJb.mp hv with e | hv
   ·exact .inl e
   ·obtain⟨q,hq,rfl⟩:=aKw.mp hv
    obtain⟨h1,h2⟩:=aKu.mp hq;have:=ht q h1;rw[eq_of_beq h2] at this;exact .inr this
  have h3:ask u b=true:=by
   rcases h1 with rfl | h1
   ·exact h
   ·exact tr _ _ _ h1 h
  rcases h2 with rfl | h2
  ·exact h3
  ·exact tr _ _ _ h3 h2
 ·exact ht x hx
theorem JS {n:Nat}{ask:Nat->Nat->Bool}:∀ (t:PySem.W.KasT (Array Nat)) (tr:List (Nat × Nat × Bool)),(∀ i j b,(i,j,b)∈tr->ask i j=b)->fZ n tr t=true->fI n ask t=true/\mL n (dU ask t).toList
 | .ret p,tr,ht,h=>⟨rfl,LS h⟩
 | .ask i j k,tr,ht,h=>by
  have h:(decide (i<n)&&decide (j<n)&&(if tr.contains (i,j,true)=true then fZ n tr (k true) else if tr.contains (i,j,false)=true then fZ n tr (k false) else fZ n ((i,j,true)::tr) (k true)&&fZ n ((i,j,false)::tr) (k false)))=true:=h;rw[aJc,aJc,decide_eq_true_eq,decide_eq_true_eq] at h;obtain⟨hij,h⟩:=h;obtain⟨tr',ht',key⟩:∃ tr',(∀ i j b,(i,j,b)∈tr'->ask i j=b)/\fZ n tr' (k (ask i j))=true:=by
   by_cases c1:tr.contains (i,j,true)=true
   ·rw[if_pos c1] at h
    exact⟨tr,ht,by rw[ht _ _ _ (aJx.mp c1)];exact h⟩
   ·rw[if_neg c1] at h
    by_cases c2:tr.contains (i,j,false)=true
    ·rw[if_pos c2] at h
     exact⟨tr,ht,by rw[ht _ _ _ (aJx.mp c2)];exact h⟩
    ·rw[if_neg c2,aJc] at h
     refine⟨(i,j,ask i j)::tr,fun a b c hm=>?_,?_⟩
     ·rcases aJb.mp hm with e | hm
      ·cases e;rfl
      ·exact ht a b c hm
     ·cases ask i j with
      | true=>exact h.1
      | false=>exact h.2
  obtain⟨h1,h2⟩:=JS (k (ask i j)) tr' ht' key;refine⟨?_,h2⟩;show (decide (i<n)&&decide (j<n)&&fI n ask (k (ask i j)))=true;simp only[aJc,decide_eq_true_eq];exact⟨hij,h1⟩
theorem JT {n:Nat}{ask:Nat->Nat->Bool}(ha:∀ i j,ask i j=true->ask j i=false) (hs:∀ i j,i≠j->ask i j=false->ask j i=true) (tr:∀ i j k,ask i j=true->ask j k=true->ask i k=true):
  ∀ (t:PySem.W.KasT (Array Nat)) (lt:List (Nat × Nat)),(∀ x∈lt,ask x.1 x.2=true)->fJ n lt t=true->fI n ask t=true/\mL n (dU ask t).toList/\rX ask (dU ask t).toList
 | .ret p,lt,ht,h=>by
  have h:(tN n p.toList&&tW lt p.toList)=true:=h;rw[aJc] at h;exact⟨rfl,LS h.1,MO ht _ h.2⟩
 | .ask i j k,lt,ht,h=>by
  have h:(decide (i<n)&&decide (j<n)&&decide (i≠j)&&(if lt.contains (i,j)=true then fJ n lt (k true) else if lt.contains (j,i)=true then fJ n lt (k false) else fJ n (qI lt i j) (k true)&&fJ n (qI lt j i) (k false)))=true:=h;rw[aJc,aJc,aJc,decide_eq_true_eq,decide_eq_true_eq,decide_eq_true_eq] at h;obtain⟨⟨hij,hne⟩,h⟩:=h;obtain⟨lt',ht',key⟩:∃ lt',(∀ x∈lt',ask x.1 x.2=true)/\fJ n lt' (k (ask i j))=true:=by
   by_cases c1:lt.contains (i,j)=true
   ·rw[if_pos c1] at h
    exact⟨lt,ht,by rw[ht _ (aJx.mp c1)];exact h⟩
   ·rw[if_neg c1] at h
    by_cases c2:lt.contains (j,i)=true
    ·rw[if_pos c2] at h
     exact⟨lt,ht,by rw[ha _ _ (ht _ (aJx.mp c2))];exact h⟩
    ·rw[if_neg c2,aJc] at h
     cases e:ask i j with
     | true=>exact⟨_,FJ tr ht e,h.1⟩
     | false=>exact⟨_,FJ tr ht (hs _ _ hne e),h.2⟩
  obtain⟨h1,h2⟩:=JT ha hs tr (k (ask i j)) lt' ht' key;refine⟨?_,h2⟩;show (decide (i<n)&&decide (j<n)&&fI n ask (k (ask i j)))=true;simp only[aJc,decide_eq_true_eq];exact⟨hij,h1⟩
theorem SX:((List.range 7).all fun n=>fZ n [] (PySem.W.kas_sort n))=true:=by kernel_rfl
theorem SY:((List.range 7).all fun n=>decide (n<2)||fJ n [] (PySem.W.kas_sort n))=true:=by kernel_rfl
theorem ZB {n:Nat}(hn:n<=6) (ask:Nat->Nat->Bool):eW n ask=true/\∃ l,mL n l/\eD n ask=l.map fun (i:Nat)=>(i:Int):=by
 have h:=aJ5.mp SX n (aJ6.mpr (by lia));obtain⟨h1,h2⟩:=JS (ask:=ask) _ [] (fun _ _ _ z=>by cases z) h
 by_cases h3:n<2
 ·refine⟨by simp[eW,h3],List.range n,⟨aKi,fun i hi=>aJ6.mp hi,fun i hi=>aJ6.mpr hi,aL2⟩,by simp[eD,h3,upT]⟩
 ·refine⟨?_,_,h2,by simp[eD,h3]⟩
  unfold eW;simp only[aJh,aJc,decide_eq_true_eq,aJ5];exact .inr ⟨⟨h1,h2.2.1⟩,h2.1⟩
theorem ZC {n:Nat}(hn:n<=6) {ask:Nat->Nat->Bool}(ha:∀ i j,ask i j=true->ask j i=false) (hs:∀ i j,i≠j->ask i j=false->ask j i=true) (tr:∀ i j k,ask i j=true->ask j k=true->ask i k=true):
  ∃ l,mL n l/\rX ask l/\eD n ask=l.map fun (i:Nat)=>(i:Int):=by
 by_cases h3:n<2
 ·refine⟨List.range n,⟨aKi,fun i hi=>aJ6.mp hi,fun i hi=>aJ6.mpr hi,aL2⟩,?_,by simp[eD,h3,upT]⟩
  have:n=0\/n=1:=by lia
  rcases this with rfl | rfl<;>exact trivial
 ·have h:=aJ5.mp SY n (aJ6.mpr (by lia))
  have h':fJ n [] (PySem.W.kas_sort n)=true:=by simpa [h3] using h
  obtain⟨_,h2,h4⟩:=JT ha hs tr _ [] (fun _ z=>by cases z) h';exact⟨_,h2,h4,by simp[eD,h3]⟩
theorem mL.perm {n:Nat}{l:List Nat}(h:mL n l):l.Perm (List.range n):=(List.perm_ext_iff_of_nodup h.2.2.2 aL2).mpr fun a=>⟨fun z=>aJ6.mpr (h.2.1 a z),fun z=>h.2.2.1 a (aJ6.mp z)⟩
theorem MP {ask:Nat->Nat->Bool}(tr:∀ i j k,ask i j=true->ask j k=true->ask i k=true):∀ l,rX ask l->l.Pairwise fun a b=>ask a b=true
 | [],_=>.nil
 | [a],_=>by simp
 | a::b::r,h=>by
  have ih:=MP tr (b::r) h.2;refine aL3.mpr ⟨fun c hc=>?_,ih⟩;rcases aJb.mp hc with rfl | hc
  ·exact h.1
  ·exact tr _ _ _ h.1 ((aL3.mp ih).1 c hc)
def aDz (i:Nat):Rho->Option Out:=fun ρ=>(aA i ρ).bind fun t=>match t with
 | .lst ts=>if ts.length=0 then none else some (.nx (ρ.set i (some (.lst ts.dropLast))))
 | _=>none
@[simp] theorem rPop0_at (i:Nat) (ρ:Rho):aDz i ρ=(aA i ρ).bind fun t=>match t with
 | .lst ts=>if ts.length=0 then none else some (.nx (ρ.set i (some (.lst ts.dropLast))))
 | _=>none:=id rfl
section
variable {X:Cx}{B:Hp}{fl:List Nat}{n:Bool}{l:Nat}{pos pos':Pos}{x:Str}
end
section
variable {X:Cx}{B:Hp}{fl:List Nat}{a b:Expr}{f g:Rho->Option T}{n n':Bool}{l l':Nat}{pos:Pos}
open SeqAt in
end
def JX (ks:List Int) (k:Int):List Int:=if ks.contains k then ks else ks++[k]
section
variable {K:PySem.W.Frag}{B H H':Hp}{fl:List Nat}{Ex:List (T × V)}{σ:St}{ρ:Rho}{M:List Addr}{i:Nat}
end
def aE8 (i:Nat):Rho->Option Out:=fun ρ=>some (.nx (ρ.set i (some (.dct []))))
@[simp] theorem rSetD_at (i:Nat) (ρ:Rho):aE8 i ρ=some (.nx (ρ.set i (some (.dct [])))):=id rfl
def aE0 (i:Nat) (fk:Rho->Option T):Rho->Option Out:=fun ρ=>(aA i ρ).bind fun t=>(fk ρ).bind fun k=>match t,k with
 | .dct ks,.int j=>if ks.length<cap then some (.nx (ρ.set i (some (.dct (JX ks j))))) else none
 | _,_=>none
@[simp] theorem rPutD_at (i:Nat) (fk:Rho->Option T) (ρ:Rho):aE0 i fk ρ=(aA i ρ).bind fun t=>(fk ρ).bind fun k=>match t,k with
 | .dct ks,.int j=>if ks.length<cap then some (.nx (ρ.set i (some (.dct (JX ks j))))) else none
 | _,_=>none:=id rfl
section
variable {X:Cx}{B:Hp}{fl:List Nat}{a b k:Expr}{f g fk:Rho->Option T}{n n' nk:Bool}{l l' lk i:Nat}{pos pos' dpos p2 p3:Pos}{x:Str}
end
section
variable {X:Cx}{B:Hp}{fl:List Nat}{n:Bool}{l:Nat}{pos pos' dpos tpos p2 p3 p4 p5:Pos}{x d y:Str}
end
end G
namespace GN
open PySem PySem.Builtin PySem.Builtin.Str PySem.Builtin.Int PySem.Calls PySem.NumText PyProof.Rows
set_option maxRecDepth 100000
section
variable {prog:Program}{w:World}{A:Around}{E:Value->Shared->Prop}{s:Shared}{a:Int}{t:Tok}
end
end GN
namespace G
open PySem PySem.Spec PyProof.Rows L2
@[irreducible] def figLim:Nat:=10^4300
section
variable {X:Cx}{B:Hp}{fl:List Nat}{a b e:Expr}{es:List Expr}{f g:Rho->Option T}{fa:Rho->Option (List T)}{n n':Bool}{l l':Nat}{pos p':Pos}{x:Str}
end
def VZ (f:Rho->Option T) (lo hi:Rho->Option (Option Int)):Rho->Option T:=fun ρ=>(f ρ).bind fun x=>(lo ρ).bind fun a=>(hi ρ).bind fun b=>
 match x with
 | .str z=>if z.length<=cap then some (.str (Txt.slice z a b)) else none
 | _=>none
@[simp] theorem fSliceS_at (f:Rho->Option T) (lo hi:Rho->Option (Option Int)) (ρ:Rho):VZ f lo hi ρ=(f ρ).bind fun x=>(lo ρ).bind fun a=>(hi ρ).bind fun b=>
 match x with
 | .str z=>if z.length<=cap then some (.str (Txt.slice z a b)) else none
 | _=>none:=id rfl
section
variable {X:Cx}{B:Hp}{fl:List Nat}{a b:Expr}{f g:Rho->Option T}{n n':Bool}{l l':Nat}{apos cpos:Pos}
end
def NB (x:Str):List T:=x.cps.toList.map fun c=>.str ⟨#[c]⟩
def WA (f:Rho->Option T):Rho->Option (List T):=fun ρ=>(f ρ).bind fun t=>match t with | .str x=>some (NB x) | _=>none
@[simp] theorem fStr_at (f:Rho->Option T) (ρ:Rho):WA f ρ=(f ρ).bind fun t=>match t with | .str x=>some (NB x) | _=>none:=id rfl
section
variable {X:Cx}{B:Hp}{fl:List Nat}{e:Expr}{es:List Expr}{fa:Rho->Option (List T)}{n:Bool}{l:Nat}{pos p':Pos}{x:Str}
end
section
variable {X:Cx}{B:Hp}{fl:List Nat}{tg e:Expr}{n n':Bool}{l l':Nat}{f:Rho->Option T}{x:Str}{pos pos':Pos}
def HB (js:List Nat) (ρ:Rho):Rho:=js.foldl (fun ρ j=>ρ.set j none) ρ
def aE7 (js:List Nat) (i:Nat) (f:Rho->Option T):Rho->Option Out:=fun ρ=>(f ρ).map fun t=>.nx ((HB js ρ).set i (some t))
@[simp] theorem rSet0d_at (js:List Nat) (i:Nat) (f:Rho->Option T) (ρ:Rho):aE7 js i f ρ=(f ρ).map fun t=>.nx ((HB js ρ).set i (some t)):=id rfl
end
def KDs (K:PySem.W.Frag):List (Str × List Str)->List (Str × Addr × Tok)->Prop
 | [],ks=>ks=[]
 | (k,l)::tab,ks=>∃ a t r,ks=(k,a,t)::r/\KT K a (l.map V.str)/\KDs K tab r
theorem KDs.keys {K:PySem.W.Frag}:∀ {tab:List (Str × List Str)}{ks:List (Str × Addr × Tok)},KDs K tab ks->ks.map (·.1)=tab.map (·.1)
 | [],_,h=>by cases h;rfl
 | (k,l)::tab,_,⟨a,t,r,e,_,h⟩=>by subst e;rw[aKo,aKo,KDs.keys h]
theorem KDs.at {K:PySem.W.Frag}(k:Str):∀ {tab:List (Str × List Str)}{ks:List (Str × Addr × Tok)},KDs K tab ks ->
  (tab.lookup k=none/\(ks.map fun x=>(x.1,Value.ref x.2.1)).find? (fun kv=>kv.1=k)=none)\/∃ l a,tab.lookup k=some l/\(ks.map fun x=>(x.1,Value.ref x.2.1)).find? (fun kv=>kv.1=k)=some (k,.ref a)/\KT K a (l.map V.str)
 | [],_,h=>by cases h;exact .inl ⟨rfl,rfl⟩
 | (k0,l)::tab,_,⟨a,t,r,e,hk,h⟩=>by
  subst e
  by_cases hq:k=k0
  ·subst hq
   refine .inr ⟨l,a,by rw[aKm,beq_self_eq_true],?_,hk⟩;rw[aKo,aK2,decide_eq_true rfl]
  ·have e1:((k0,l)::tab).lookup k=tab.lookup k:=by rw[aKm,show (k == k0)=false by rw[beq_eq_false_iff_ne];exact hq]
   have e2:(((k0,a,t)::r).map fun x=>(x.1,Value.ref x.2.1)).find? (fun kv=>kv.1=k)=(r.map fun x=>(x.1,Value.ref x.2.1)).find? (fun kv=>kv.1=k):=by
    rw[aKo,aK2,decide_eq_false (fun z=>hq z.symm)]
   rw[e1,e2];exact KDs.at k h
section
variable {X:Cx}{B:Hp}{fl:List Nat}{e:Expr}{f:Rho->Option T}{n:Bool}{l:Nat}{pos apos cpos:Pos}{x:Str}{tab:List (Str × List Str)}
end
def WB (f:Rho->Option T) (a:Nat):Rho->Option T:=fun ρ=>(f ρ).bind fun x=>match x with
 | .tup ts=>if 1<=a/\a<=ts.length then some (.tup (ts.drop a)) else none
 | _=>none
@[simp] theorem fTupFrom_at (f:Rho->Option T) (a:Nat) (ρ:Rho):WB f a ρ=(f ρ).bind fun x=>match x with
 | .tup ts=>if 1<=a/\a<=ts.length then some (.tup (ts.drop a)) else none
 | _=>none:=id rfl
abbrev Z2 (h:Heap) (n:Nat) (f0:Value):Prop:=
 h.get? (n+4)=some { cls:=.type "zip",dict:=none,data:=.fields #[f0,.bool false,.bool false,.ref (n+2),.ref (n+3)],slots:=#[] }
abbrev Tw (h:Heap) (T:Addr) (a b:Value):Prop:=h.get? T=some { cls:=.type "tuple",data:=.seq #[a,b] }
structure Of2 (n:Nat) (l:Addr):Prop where
 a0:l≠n
 a1:l≠n+1
 a3:l≠n+3
 a4:l≠n+4
section
variable {prog:Program}{w:World}{A:Around}{E:Value->Shared->Prop}{s:Shared}
end
abbrev yh1 (h:Heap) (l:Addr):Heap:=h.push { cls:=.type "tuple_iterator",data:=.fields #[.ref l,.int 0 0] }
abbrev yh3 (h:Heap) (l l':Addr):Heap:=(yh1 (yh1 h l) l').push { cls:=.type "tuple",data:=.seq #[.ref h.objs.size,.ref (yh1 h l).objs.size] }
abbrev yh4 (h:Heap) (l l':Addr):Heap:=(yh3 h l l').push { cls:=.type "tuple",data:=.seq #[.none,.none] }
abbrev yh5 (h:Heap) (l l':Addr):Heap:=(yh4 h l l').push { cls:=.type "zip",data:=.fields #[.none,.bool false,.bool false,.ref (yh1 (yh1 h l) l').objs.size,.ref (yh3 h l l').objs.size] }
section
variable {prog:Program}{w:World}{A:Around}{E:Value->Shared->Prop}{s:Shared}
end
section
variable {X:Cx}{elts:List Expr}{k:Nat}{p2:Pos}
end
def CI:T->Option (List T)
 | .tup ts=>some ts
 | _=>none
def fTp (f:Rho->Option T):Rho->Option (List T):=fun ρ=>(f ρ).bind CI
@[simp] theorem fTp_at (f:Rho->Option T) (ρ:Rho):fTp f ρ=(f ρ).bind CI:=id rfl
@[simp] theorem isTp_tup (ts:List T):CI (.tup ts)=some ts:=rfl
section
variable {X:Cx}{B:Hp}{fl:List Nat}{e e':Expr}{f g:Rho->Option T}{n n':Bool}{l l':Nat}{pos p' p2:Pos}{x:Str}{elts:List Expr}{k:Nat}
end
section
variable {X:Cx}{B:Hp}{fl:List Nat}{a b:Expr}{f g:Rho->Option T}{n n':Bool}{l l':Nat}{pos:Pos}
end
def sF (i:Nat):Rho->Option T:=fun ρ=>(aA i ρ).bind fun t=>match t with | .own ts=>some (.lst ts) | _=>none
@[simp] theorem fVarX_at (i:Nat) (ρ:Rho):sF i ρ=(aA i ρ).bind fun t=>match t with | .own ts=>some (.lst ts) | _=>none:=id rfl
def xF:T->Bool
 | .lst us=>bU us
 | _=>false
def aEa (i:Nat) (fa:Rho->Option (List T)):Rho->Option Out:=fun ρ=>(fa ρ).bind fun ts=>if ts.all xF&&decide (ts.length<cap) then some (.nx (ρ.set i (some (.own ts)))) else none
@[simp] theorem rSetX_at (i:Nat) (fa:Rho->Option (List T)) (ρ:Rho):aEa i fa ρ=(fa ρ).bind fun ts=>if ts.all xF&&decide (ts.length<cap) then some (.nx (ρ.set i (some (.own ts)))) else none:=id rfl
def aDr (i:Nat) (f:Rho->Option T):Rho->Option Out:=fun ρ=>(sF i ρ).bind fun t=>(f ρ).bind fun x=>match t with | .lst ts=>if xF x&&decide (ts.length<cap) then some (.nx (ρ.set i (some (.own (ts++[x]))))) else none | _=>none
@[simp] theorem rAppX_at (i:Nat) (f:Rho->Option T) (ρ:Rho):aDr i f ρ=(sF i ρ).bind fun t=>(f ρ).bind fun x=>match t with | .lst ts=>if xF x&&decide (ts.length<cap) then some (.nx (ρ.set i (some (.own (ts++[x]))))) else none | _=>none:=id rfl
def LF:T->Bool
 | .lst (.int _::us)=>decide (us.length<1000)
 | _=>false
def aDu (i:Nat):Rho->Option Out:=fun ρ=>(sF i ρ).bind fun t=>match t with | .lst ts=>if ts.all LF&&decide (ts.length<=1000) then some (.nx (ρ.set i none)) else none | _=>none
@[simp] theorem rChg_at (i:Nat) (ρ:Rho):aDu i ρ=(sF i ρ).bind fun t=>match t with | .lst ts=>if ts.all LF&&decide (ts.length<=1000) then some (.nx (ρ.set i none)) else none | _=>none:=id rfl
section
variable {K:PySem.W.Frag}{B H H':Hp}{fl:List Nat}{Ex:List (T × V)}{σ:St}{ρ:Rho}{M:List Addr}{i:Nat}
end
section
variable {X:Cx}{B:Hp}{fl:List Nat}{n n':Bool}{l l':Nat}{e:Expr}{es:List Expr}{f:Rho->Option T}{fa:Rho->Option (List T)}{pos pos' lpos:Pos}{i:Nat}{x:Str}
theorem bZ.since {K:PySem.W.Frag}{H H1 H':Hp}{M:List Addr}(s:aO H H1):∀ {ts:List T}{xs:List V},bZ K B H1 M H' ts xs->bZ K B H M H' ts xs
 | [],_,h=>h
 | _::ts,_,⟨x,r,e,h1,h2,h3⟩=>⟨x,r,e,h1,h2.since s,bZ.since s h3⟩
end
def spC:Sp:=fun vs H Q _=>∃ p xs,vs=[.ref p]/\H p=some (.lst xs)/\xs.length<=1000/\(∀ x∈xs,∃ b i r,x=.ref b/\b≠p/\H b=some (.lst (.int i::r))/\r.length<=1000) /\
 ∀ v H',(∀ a,(∀ x∈xs,x≠.ref a)->∀ o,H a=some o->H' a=some o)->(∀ a,H a≠none->H' a≠none)->Q v H'
structure CalC (P:Program) (w:World) (K:PySem.W.Frag) (mg:Str->Option Value) (base:Heap) (x:Str) (k:Nat) (ps:List Str):Prop where
 ex:∃ f fd,FnOk P w K mg base CX0 k f fd ps spC/\mg x=some (.ref f)/\PySem.W.keepIn K (.ref f)=true/\eX K fd ps []
section
variable {X:Cx}{B:Hp}{fl:List Nat}{n:Bool}{l k:Nat}{x y:Str}{ps:List Str}{p' p2 pos epos:Pos}
end
section
variable {X:Cx}{q1 q2 q3 q4 q5 q6 q7 q8 q9 q10 q11 q12 q13:Pos}{j1 j2 j3 j4:Nat}{x:Str}
end
section
variable {P:Program}{w:World}{K:PySem.W.Frag}{mg:Str->Option Value}{base:Heap}
end
def VX (fi:Rho->Option (List T)) (src:List (Option Nat)) (p:Rho->Option Bool) (f:Rho->Option T):Rho->Option T:=fun ρ=>
 (fi ρ).bind fun ts=>(bL p f (bJ src ρ) ts).bind fun us=>if us.length<=cap/\bU us=true then some (.lst us) else none
@[simp] theorem fComp0_at (fi:Rho->Option (List T)) (src:List (Option Nat)) (p:Rho->Option Bool) (f:Rho->Option T) (ρ:Rho):VX fi src p f ρ =
 (fi ρ).bind fun ts=>(bL p f (bJ src ρ) ts).bind fun us=>if us.length<=cap/\bU us=true then some (.lst us) else none:=id rfl
section
variable {X:Cx}{K:PySem.W.Frag}{B H:Hp}{fl fl':List Nat}{src:List (Option Nat)}{N':List Str}{Ex:List (T × V)}{σ σ1:St}{ρ:Rho}{M:List Addr}{li l:Nat}{sc n:Bool}{fi:Rho->Option (List T)}{p:Rho->Option Bool}{f:Rho->Option T}
end
section
variable {X:Cx}{B:Hp}{fl fl':List Nat}{elt iter:Expr}{x0:Str}{p0 pos:Pos}{ifs:List Expr}{scope:Scope}{N':List Str}{src:List (Option Nat)}{fi:Rho->Option (List T)}{li l:Nat}{sc n:Bool}{p:Rho->Option Bool}{f:Rho->Option T}
end
def aDp (i j:Nat):Rho->Option Out:=fun ρ=>(aA i ρ).bind fun t=>(aA j ρ).bind fun u=>match t,u with
 | .lst ts,.lst us=>if ts.length<cap then some (.nx ((ρ.set j none).set i (some (.lst (ts++[.lst us]))))) else none
 | _,_=>none
@[simp] theorem rAppM_at (i j:Nat) (ρ:Rho):aDp i j ρ=(aA i ρ).bind fun t=>(aA j ρ).bind fun u=>match t,u with
 | .lst ts,.lst us=>if ts.length<cap then some (.nx ((ρ.set j none).set i (some (.lst (ts++[.lst us]))))) else none
 | _,_=>none:=id rfl
section
variable {X:Cx}{B:Hp}{fl:List Nat}{n:Bool}{l:Nat}{x y:Str}{pos pos':Pos}
theorem Sl.give {K:PySem.W.Frag}{Ex:List (T × V)}{σ:St}{ρ:Rho}{M:List Addr}{H:Hp}(S:Sl K B fl Ex σ ρ M H) {j:Nat}{ts:List T}{a:Addr}(hj:ρ[j]?=some (some (.lst ts))) (hf:fl.getD j 1=0)
  (e1:σ[j]?=some (some (.ref a))) (e4:a∈M):Sl K B fl Ex σ (ρ.set j none) (M.filter fun b=>!decide (b=a)) H:=by
 have sub:∀ b,b∈M.filter (fun b=>!decide (b=a))->b∈M:=fun b hb=>(aKu.mp hb).1;have aw:∀ (l:Nat) (b:Addr),Ad B H M l b->Ad B H (M.filter fun b=>!decide (b=a)) l b:=fun l b h=>⟨fun z w=>h.1 z (sub b w),h.2⟩;have get:∀ {k:Nat} {t:T},(ρ.set j none)[k]?=some (some t)->k≠j/\ρ[k]?=some (some t):=fun {k t} e=>by
  by_cases kj:k=j
  ·subst kj
   by_cases hk:k<ρ.length
   ·rw[aKc hk] at e;cases e
   ·rw[List.getElem?_eq_none (by rw[aKk];lia)] at e;cases e
  ·rw[aJ9 (Ne.symm kj)] at e
   exact⟨kj,e⟩
 obtain⟨g,hg,ap⟩:=S.mu;have gj:g j 0=a:=by
  obtain⟨v,s1,sh,_⟩:=hg j _ hj hf rfl;cases (show v=.ref (g j 0) from sh);rw[e1] at s1;exact (V.ref.inj (aIz (aIz s1))).symm
 refine⟨S.same,fun k t e hk=>?_,⟨g,fun k t e hk hm=>?_,fun k k' c d t u us ws hne e e' hk hk' hm hm'=>ap k k' c d t u us ws hne (get e).2 (get e').2 hk hk' hm hm'⟩,fun p hp=>(S.ex p hp).weak fun b x=>aw 1 b x,fun b hb=>S.mB b (sub b hb),S.len⟩
 ·obtain⟨v,v1,v2⟩:=S.slot k t (get e).2 hk
  exact⟨v,v1,v2.weak fun b x=>aw _ b x⟩
 ·obtain⟨w,w1,w2,w3⟩:=hg k t (get e).2 hk hm
  refine⟨w,w1,w2,fun c us h=>?_⟩;obtain⟨ys,f1,f2,f3⟩:=w3 c us h;refine⟨ys,f1,f2.weak fun c x=>aw _ c x,aKu.mpr ⟨f3,?_⟩⟩;have:g k c≠a:=fun z=>ap k j c 0 t _ us ts (.inl (get e).1) (get e).2 hj hk hf h ⟨rfl,rfl⟩ (z.trans gj.symm);simp[this]
end
end G
namespace G
open PySem PySem.Calls PyProof.Rows
structure Rl (F:List Addr) (s s':Shared):Prop where
 os:s'.os=s.os
 bare:AllBare s.gens->AllBare s'.gens
 keep:∀ b o,s.heap.get? b=some o->b ∉ F->s'.heap.get? b=some o
 slot:∀ b o,s.heap.get? b=some o->b∈F->∃ sl,s'.heap.get? b=some { o with slots:=sl }
structure RlA (F:List Addr) (a:Addr) (s s':Shared):Prop where
 os:s'.os=s.os
 bare:AllBare s.gens->AllBare s'.gens
 keep:∀ b o,b≠a->s.heap.get? b=some o->b ∉ F->s'.heap.get? b=some o
 slot:∀ b o,b≠a->s.heap.get? b=some o->b∈F->∃ sl,s'.heap.get? b=some { o with slots:=sl }
theorem RlA.then {F:List Addr}{a:Addr}{s s1 s2:Shared}(h:RlA F a s s1) (k:Rl F s1 s2):RlA F a s s2:=
 ⟨k.os.trans h.os,fun z=>k.bare (h.bare z),fun b o hb e hf=>k.keep b o (h.keep b o hb e hf) hf,fun b o hb e hf=>by
  obtain⟨sl,e1⟩:=h.slot b o hb e hf;obtain⟨sl',e2⟩:=k.slot b _ e1 hf;exact⟨sl',e2⟩⟩
theorem RlA.upd {F:List Addr}{a kS:Addr}{s s1:Shared}{h':Heap}(h:RlA F a s s1) (hk:s.heap.objs.size<=kS) (k:∀ b o,b≠kS->b≠a->s1.heap.get? b=some o->h'.get? b=some o):RlA F a s { s1 with heap:=h' }:=
 ⟨h.os,h.bare,fun b o hb e hf=>k b o (aLh (aJ7 (aJj e) hk)) hb (h.keep b o hb e hf),fun b o hb e hf=>by
  obtain⟨sl,e1⟩:=h.slot b o hb e hf;exact⟨sl,k b _ (aLh (aJ7 (aJj e) hk)) hb e1⟩⟩
def KA3 (F:List Addr) (kf:Nat->Int × Int × Int) (a:Addr):Addr->Heap->Nat->Value->Prop:=fun kS h j k=>∃ q t u z,k=Value.ref q/\q≠kS/\q≠a/\q ∉ F/\IsTup h q [Value.int (kf j).1 t,Value.int (kf j).2.1 u,Value.int (kf j).2.2 z].toArray
def bY (kf:Nat->Int × Int × Int) (i j:Nat):Bool:=if ((kf i).1 == (kf j).1)=true then (if ((kf i).2.1 == (kf j).2.1)=true then (if ((kf i).2.2 == (kf j).2.2)=true then false else decide ((kf i).2.2<(kf j).2.2)) else decide ((kf i).2.1<(kf j).2.1)) else decide ((kf i).1<(kf j).1)
section
variable {prog:Program}{w:World}{A:Around}{E:Value->Shared->Prop}{s:Shared}
theorem JW {F:List Addr}{kf:Nat->Int × Int × Int}{a kS:Addr}{h:Heap}:∀ (ks:List Value) (d:Nat),(∀ j k,ks[j]?=some k->KA3 F kf a kS h (d+j) k)->∃ fs,PySem.W.KatTups h ks fs/\fs.length=ks.length/\∀ v∈fs,∃ i t,v=Value.int i t
 | [],d,_=>⟨[],trivial,rfl,by simp⟩
 | k::ks,d,hk=>by
  obtain⟨fs,h1,h2,h3⟩:=JW ks (d+1) fun j k' e=>by
   have:=hk (j+1) k' (by simpa using e);rw[show d+1+j=d+(j+1) by lia];exact this
  obtain⟨q,t,u,z,rfl,_,_,_,o,hg,hc,n,hd⟩:=hk 0 k rfl;refine⟨.int (kf (d+0)).1 t::fs,PySem.W.KatTups.cons hg hc hd rfl h1,by simp[h2],fun v hv=>?_⟩;rcases aJb.mp hv with rfl | hv
  ·exact⟨_,_,rfl⟩
  ·exact h3 v hv
theorem JZ {F:List Addr}{kf:Nat->Int × Int × Int}{a:Addr}{n:Nat}:Keys prog w A (KA3 F kf a) a n (bY kf):=by
 refine⟨fun kS h h' j k hk kp=>?_,fun kS s ks hl h2 hK=>?_⟩
 ·obtain⟨q,t,u,z,e,n1,n2,nf,o,hg,hc,n,hd⟩:=hk
  exact⟨q,t,u,z,e,n1,n2,nf,o,kp q _ n1 n2 hg,hc,n,hd⟩
 ·obtain⟨fs,h1,h2',h3⟩:=JW ks 0 fun j k e=>by rw[aLp];exact hK j k e
  refine⟨tuples' (Value.type "int" != Value.type "tuple"),fun Q hq=>PySem.W.kat_kind h1 (by lia) (fun v hv=>?_) (by decide) hq,fun i j C hi hj hc=>?_⟩
  ·obtain⟨i,t,rfl⟩:=h3 v hv
   exact .now
  ·obtain⟨k1,e1⟩:∃ k1,ks[i]?=some k1:=⟨_,aJ1 (by lia)⟩
   obtain⟨k2,e2⟩:∃ k2,ks[j]?=some k2:=⟨_,aJ1 (by lia)⟩;rw[BF e1,BF e2];obtain⟨q1,t1,u1,z1,rfl,_,_,_,o1,hg1,_,m1,hd1⟩:=hK i k1 e1;obtain⟨q2,t2,u2,z2,rfl,_,_,_,o2,hg2,_,m2,hd2⟩:=hK j k2 e2;unfold bY at hc;generalize (kf i).1=a1 at *;generalize (kf i).2.1=b1 at *;generalize (kf i).2.2=c1 at *;generalize (kf j).1=a2 at *;generalize (kf j).2.1=b2 at *;generalize (kf j).2.2=c2 at *;refine PySem.W.kat_lt hg1 hd1 hg2 hd2 ?_;show PySem.W.KatLex prog w A (Value.type "int" != Value.type "tuple") _ C [(Value.int a1 t1,Value.int a2 t2),(Value.int b1 u1,Value.int b2 u2),(Value.int c1 z1,Value.int c2 z2)] 0 s;refine PySem.W.kat_cons (wpAny_eqBool_int ?_)
   by_cases x1:(a1 == a2)=true
   ·rw[if_pos x1] at hc
    rw[x1];refine PySem.W.kat_yes (PySem.W.kat_cons (wpAny_eqBool_int ?_))
    by_cases x2:(b1 == b2)=true
    ·rw[if_pos x2] at hc
     rw[x2];refine PySem.W.kat_yes (PySem.W.kat_cons (wpAny_eqBool_int ?_))
     by_cases x3:(c1 == c2)=true
     ·rw[if_pos x3] at hc
      rw[x3];exact PySem.W.kat_yes (PySem.W.kat_nil hc)
     ·rw[if_neg x3] at hc
      have x3':(c1 == c2)=false:=by simpa using x3
      rw[x3'];exact PySem.W.kat_no (PySem.W.kat_one _ _ (lt_int hc))
    ·rw[if_neg x2] at hc
     have x2':(b1 == b2)=false:=by simpa using x2
     rw[x2'];exact PySem.W.kat_no (PySem.W.kat_one _ _ (lt_int hc))
   ·rw[if_neg x1] at hc
    have x1':(a1 == a2)=false:=by simpa using x1
    rw[x1'];exact PySem.W.kat_no (oneLt_int hc)
theorem YZ {F:List Addr}{kf:Nat->Int × Int × Int}{a kS:Addr}{j:Nat}{k:Value}{s s':Shared}(h:KA3 F kf a kS s.heap j k) (r:Rl F s s'):KA3 F kf a kS s'.heap j k:=by
 obtain⟨q,t,u,z,e,n1,n2,nf,o,hg,hc,n,hd⟩:=h;exact⟨q,t,u,z,e,n1,n2,nf,o,r.keep q o hg nf,hc,n,hd⟩
theorem NH {KA:Addr->Heap->Nat->Value->Prop}{kS:Addr}{vs:List Value}{body:Value->PUnit->Sem (ForInStep PUnit)}(K0:Shared->Prop)
  (hb:∀ j x ks (s:Shared) (e:Nat),vs[j]?=some x->ks.length=j->K0 s->s.heap.get? kS=some (seqObj "list" (List.toArray ks) e)->(∀ j k,ks[j]?=some k->KA kS s.heap j k) ->
   wpAny (model prog w) A (body x ⟨⟩) (fun r s'=>r=.yield ⟨⟩/\∃ k e',K0 s'/\s'.heap.get? kS=some (seqObj "list" (List.toArray (ks++[k])) e')/\∀ i k',(ks++[k])[i]?=some k'->KA kS s'.heap i k') E s):
  ∀ (r ks:List Value) (s:Shared) (e:Nat),vs=vs.take ks.length++r->ks.length+r.length=vs.length->K0 s->s.heap.get? kS=some (seqObj "list" (List.toArray ks) e)->(∀ j k,ks[j]?=some k->KA kS s.heap j k) ->
   wpAny (model prog w) A (forIn r PUnit.unit body) (fun _ s'=>∃ ks' e',K0 s'/\s'.heap.get? kS=some (seqObj "list" (List.toArray ks') e')/\ks'.length=vs.length/\∀ i k',ks'[i]?=some k'->KA kS s'.heap i k') E s
 | [],ks,s,e,hv,hl,k0,hk,hK=>by
  rw[List.forIn_nil];exact wpAny_pure ⟨ks,e,k0,hk,by simpa using hl,hK⟩
 | x::r,ks,s,e,hv,hl,k0,hk,hK=>by
  rw[aKe] at hl;rw[List.forIn_cons];have hx:vs[ks.length]?=some x:=by
   rw[hv,List.getElem?_append_right (by rw[aKl];lia)];rw[aKl,Nat.min_eq_left (by lia)];simp
  refine wpAny_bind (wpAny_mono (hb ks.length x ks s e hx rfl k0 hk hK) (fun q s' hq=>?_) fun _ _ x=>x);obtain⟨rfl,k,e',k0',hk',hK'⟩:=hq;show wpAny (model prog w) A (forIn r PUnit.unit body) _ E _;refine NH K0 hb r (ks++[k]) s' e' ?_ (by rw[aKd,List.length_singleton];lia) k0' hk' hK';have e2:vs.take (ks++[k]).length=vs.take ks.length++[x]:=by
   rw[aKd,List.length_singleton,List.take_succ,hx];rfl
  rw[e2,List.append_assoc];exact hv
theorem aFb {F:List Addr}{kf:Nat->Int × Int × Int}{a:Addr}{n m0:Nat}{f:Value}{vs:List Value}{P:PySem.Fin->Shared->Prop}(hF:∀ b∈F,b<s.heap.objs.size/\b≠a) (ho:s.heap.get? a=some (seqObj "list" vs.toArray m0)) (hlv:vs.length=n) (h64:n<64)
  (hok:fI n (bY kf) (PySem.W.kas_sort n)=true\/n<2)
  (turn:∀ j x kS (s2:Shared),vs[j]?=some x->s.heap.objs.size<=kS->(∃ o,s2.heap.get? kS=some o)->RlA F a s s2->(∃ e,s2.heap.get? a=some (seqObj "list" #[] e)) ->
   wpAny (model prog w) A (call f [x]) (fun k s'=>Rl F s2 s'/\KA3 F kf a kS s'.heap j k) (fun _ _=>False) s2)
  (h:∀ s' c,RlA F a s s'->s'.heap.get? a=some (seqObj "list" (List.toArray (if n<2 then vs else (dU (bY kf) (PySem.W.kas_sort n)).toList.map fun i=>vs.getD i Value.none)) c)->P (.done (.ret .none)) s'):
  wpAny (model prog w) A (PyProof.Rows.ksk_tree a f false) P E s:=by
 have hla:a<s.heap.objs.size:=aJj ho;have s1:=Heap.SameBut.update s.heap a (Obj.mapSeq fun _=>(#[]:Array Value));obtain⟨e1,ho1⟩:∃ e1,(s.heap.update a (Obj.mapSeq fun _=>(#[]:Array Value))).get? a=some (seqObj "list" #[] e1):=⟨_,get?_update_seq ho fun _=>#[]⟩;have hkS:((s.heap.update a (Obj.mapSeq fun _=>(#[]:Array Value))).push (seqObj "tuple" vs.toArray 0)).objs.size=s.heap.objs.size+1:=by rw[size_push',Heap.size_update]
 unfold PyProof.Rows.ksk_tree;refine wpAny_bind (listItems_at ho rfl ?_);refine wpAny_bind (listUpdate_at ho rfl ?_ (by rw[aJ8,sizeLine_eq];lia) (aLq _));refine wpAny_bind (seqEpoch_at ho1 rfl ?_);refine wpAny_bind (wpAny_newTuple ?_ (by show vs.length<=_;rw[sizeLine_eq];lia));refine wpAny_bind (wpAny_newList ?_ (aLq _));refine wpAny_holding ?_;show wpAny _ _ (PyProof.Rows.ksk_rest a f false vs.toArray e1 (.ref ((s.heap.update a (Obj.mapSeq fun _=>(#[]:Array Value))).push (seqObj "tuple" vs.toArray 0)).objs.size)) P E { s with heap:=((s.heap.update a (Obj.mapSeq fun _=>(#[]:Array Value))).push (seqObj "tuple" vs.toArray 0)).push (seqObj "list" #[] 0) };have gk:(((s.heap.update a (Obj.mapSeq fun _=>(#[]:Array Value))).push (seqObj "tuple" vs.toArray 0)).push (seqObj "list" #[] 0)).get? (((s.heap.update a (Obj.mapSeq fun _=>(#[]:Array Value))).push (seqObj "tuple" vs.toArray 0)).objs.size)=some (seqObj "list" (List.toArray []) 0):=aJi _ rfl;have ga:(((s.heap.update a (Obj.mapSeq fun _=>(#[]:Array Value))).push (seqObj "tuple" vs.toArray 0)).push (seqObj "list" #[] 0)).get? a=some (seqObj "list" #[] e1):=aJa _ (aJa _ ho1);have old:∀ b o,b≠a->s.heap.get? b=some o->(((s.heap.update a (Obj.mapSeq fun _=>(#[]:Array Value))).push (seqObj "tuple" vs.toArray 0)).push (seqObj "list" #[] 0)).get? b=some o:=fun b o hb e=>aJa _ (aJa _ ((s1.2 b hb).trans e));rw[hkS] at gk ⊢;generalize ((s.heap.update a (Obj.mapSeq fun _=>(#[]:Array Value))).push (seqObj "tuple" vs.toArray 0)).push (seqObj "list" #[] 0)=h1 at gk ga old ⊢;have hne:s.heap.objs.size+1≠a:=aLg (Nat.lt_succ_of_lt hla);have naF:a ∉ F:=fun z=>(hF a z).2 rfl;have nkF:s.heap.objs.size+1 ∉ F:=fun z=>Nat.not_succ_le_self _ (aL7 (hF _ z).1);unfold PyProof.Rows.ksk_rest;refine wpAny_bind (wpAny_rule ?_)
 first
  | rw[List.forIn_toArray]
  | (rw[<- Array.forIn_toList];simp only[List.toList_toArray])
  | rw[<- Array.forIn_toList]
 have r0:RlA F a s { s with heap:=h1 }:=⟨rfl,id,fun b o hb e _=>old b o hb e,fun b o hb e _=>⟨o.slots,old b o hb e⟩⟩;refine wpAny_bind (wpAny_mono (NH (KA:=KA3 F kf a) (kS:=s.heap.objs.size+1) (vs:=vs) (fun s2=>s2.heap.get? a=some (seqObj "list" #[] e1)/\RlA F a s s2) (fun j x ks s2 e hx hj k0 hk hK=>?_) vs [] { s with heap:=h1 } 0 (by simp) (by simp) ⟨ga,r0⟩ gk (fun j k e=>by simp at e)) (fun _ s' hd=>?_) fun _ _ x=>x)
 ·have hjn:j<n:=by rw[<- hlv];exact (aJ4.mp hx).1
  refine wpAny_bind (wpAny_attempt (wpAny_mono (turn j x (s.heap.objs.size+1) s2 hx (Nat.le_succ _) ⟨_,hk⟩ k0.2 ⟨e1,k0.1⟩) (fun k s3 hq=>?_) fun _ _ hF=>hF.elim));obtain⟨kp,kk⟩:=hq;have s3u:=Heap.SameBut.update s3.heap (s.heap.objs.size+1) (Obj.mapSeq (·.push k));have ea:(List.toArray ks).push k=List.toArray (ks++[k]):=by simp
  have hk3:=kp.keep _ _ hk nkF;obtain⟨c2,hc2⟩:∃ c2,(s3.heap.update (s.heap.objs.size+1) (Obj.mapSeq (·.push k))).get? (s.heap.objs.size+1)=some (seqObj "list" (List.toArray (ks++[k])) c2):=⟨_,by rw[<- ea];exact get?_update_seq hk3 (·.push k)⟩
  try dsimp only
  refine wpAny_bind (listUpdate_at (s:=s3) hk3 rfl ?_ (by rw[aJ8,sizeLine_eq];lia) (aL9 (aL6 (Array.size_push ..)) (by rw[aJ8,sizeLine_eq];lia)));refine wpAny_pure ⟨rfl,k,c2,⟨(s3u.2 a hne.symm).trans (kp.keep _ _ k0.1 naF),?_⟩,hc2,fun i k' hi=>?_⟩
  ·exact (k0.2.then kp).upd (Nat.le_succ _) fun b o hb _ e=>(s3u.2 b hb).trans e
  ·have st:∀ i k',KA3 F kf a (s.heap.objs.size+1) s3.heap i k'->KA3 F kf a (s.heap.objs.size+1) (s3.heap.update (s.heap.objs.size+1) (Obj.mapSeq (·.push k))) i k':=fun i k' q=>(JZ (prog:=prog) (w:=w) (A:=A) (n:=n)).stab _ _ _ _ _ q fun b o b1 _ e=>(s3u.2 b b1).trans e
   by_cases hi2:i<ks.length
   ·rw[List.getElem?_append_left hi2] at hi
    exact st i k' (YZ (hK i k' hi) kp)
   ·rw[List.getElem?_append_right (by lia)] at hi
    have hi0:i-ks.length=0:=by
     have:=(aJ4.mp hi).1;simp at this;lia
    rw[hi0] at hi;have hkk:k=k':=by simpa using hi
    have:i=j:=by lia
    subst this hkk;exact st _ _ kk
 ·obtain⟨ks,e3,k0,hk3,hl3,hK3⟩:=hd
  try dsimp only
  refine wpAny_bind (listItems_at (s:=s') hk3 rfl ?_);refine aFa (s:=s') JZ hk3 k0.1 hne (by lia) hlv h64 hK3 hok fun h' c kp g=>?_;exact h { s' with heap:=h' } c (k0.2.upd (Nat.le_succ _) fun b o b1 b2 e=>kp b o b1 b2 e) g
end
end G
namespace G
open PySem PySem.Spec PyProof.Rows L2
abbrev bN (y x m:Str):Scope:={ kind:=.function,names:=[(y,.local),(x,.free),(m,.globalImplicit)],isGenerator:=false,isCoroutine:=false,more:=[] }
theorem TB {cells:List (Str × Addr)}{y x m:Str}{cx:Addr}(h:cells.lookup x=some cx):cK cells (bN y x m).names []=some [(x,cx)]:=by
 show cK cells [(y,.local),(x,.free),(m,.globalImplicit)] []=_;unfold cK;rw[if_neg (by decide)];unfold cK;rw[if_pos (by decide),h];show cK cells [(m,.globalImplicit)] _=_;unfold cK;rw[if_neg (by decide)]
 rfl
theorem ZK {prog:Program}{w:World}{A:Around}{s:Shared}{y x m:Str}{body:Expr}{yp:Pos}{lam c':Addr}{q:Str}{cl:List (Str × Addr)}{pm ctv u:Value}{Q:Value->Shared->Prop}
  (ho:s.heap.get? lam=some (PySem.W.kla_obj "<lambda>" q (dE y yp) body (bN y x m) cl pm c' ctv)) (hcd:s.heap.CodeRec (.ref c') q) (hroom:A.depth<recursionLimit) (hlim:s.heap.NoLimit)
  (hbind:bindArgs (PySem.W.kla_fn "<lambda>" q (dE y yp) body (bN y x m) cl pm (.ref c') ctv) ⟨[u],[]⟩=pure [(y,u)])
  (h:∀ h1,h1.Ns s.heap.objs.size (fun z=>[(y,u)].reverse.lookup z)->(∀ b o,s.heap.get? b=some o->h1.get? b=some o) ->
   wpAny (model prog w) (A.deeper (newEnv (bN y x m) s.heap.objs.size mainGlobals cl (q ++ ".<locals>.") (some lam) (.ref c') none builtinsNs)) (eval body (newEnv (bN y x m) s.heap.objs.size mainGlobals cl (q ++ ".<locals>.") (some lam) (.ref c') none builtinsNs)) Q (fun _ _=>False) { s with heap:=h1,toks:=s.toks+1 }):
  wpAny (model prog w) A (call (.ref lam) [u]) Q (fun _ _=>False) s:=by
 refine wpAny_call (PySem.W.kla_callFunE hroom ho rfl rfl rfl rfl hcd ?_);rw[hbind];refine wpAny_pure (wpAny_newFunctionEnv (fun z hz=>?_) (fun z hz=>?_) (fun h1 hns hsb=>?_) rfl)
 ·simp only[aJb,List.not_mem_nil,or_false] at hz
  rcases hz with rfl | rfl | rfl<;>simp
 ·cases aKz.mp hz
  simp
 ·have hk₁:∀ b o,s.heap.get? b=some o->h1.get? b=some o:=fun b o e=>hsb.extBut b o (aLh (aJj e)) (aJa _ e)
  exact⟨hlim.keeps hk₁,PySem.W.kla_codeExpr (wpAny_mono (h h1 hns hk₁) (fun v s' hq=>hq) fun _ _ hF=>hF.elim)⟩
abbrev sQ (y x m:Str) (cx lam c':Addr) (q:Str) (L:Addr):Env:=newEnv (bN y x m) L mainGlobals [(x,cx)] (q ++ ".<locals>.") (some lam) (.ref c') none builtinsNs
def cxL (X:Cx) (A:Around) (y x m:Str) (cx lam c':Addr) (q:Str) (s:Shared) (H:Hp):Cx where
 prog:=X.prog
 w:=X.w
 K:=X.K
 mg:=X.mg
 base:=X.base
 A:=A.deeper (sQ y x m cx lam c' q s.heap.objs.size)
 N:=[y,x]
 s₀:=s
 H₀:=H
 env:=sQ y x m cx lam c' q s.heap.objs.size
 outer:=X.stack
 stack:=sQ y x m cx lam c' q s.heap.objs.size::X.stack
 ex:=[]
 fn:=fun _=>false
 calm:=true
 pn:=[]
 xe:=fun _ _=>False
section
variable {X:Cx}
theorem YR {A:Around}{y x m q:Str}{cx lam c' pl:Addr}{s:Shared}{H:Hp}{j:Int}{tj:Tok}{h1:Heap}{tk:Nat}(hxy:(x == y)=false) (hd:A.handled=none) (e0:Env0 X.prog X.w X.K X.mg X.base A X.stack s H) (hic:s.heap.IsCell cx (some (.ref pl))) (hcx:H cx=none)
  (hns:h1.Ns s.heap.objs.size (fun z=>[(y,Value.int j tj)].reverse.lookup z)) (kp:∀ b o,s.heap.get? b=some o->h1.get? b=some o):
  Inv (cxL X A y x m cx lam c' q s H) [] [some (.int j),some (.ref pl)] H { s with heap:=h1,toks:=tk }:=by
 have noA:∀ b:Addr,b ∉ (cxL X A y x m cx lam c' q s H).ex:=fun b z=>absurd (show b∈([]:List Addr) from z) (by simp);have lk:∀ z c,[(x,cx)].lookup z=some c->z=x/\c=cx:=fun z c h=>by
  rw[aKm] at h;split at h
  ·rename_i hz
   cases h;exact⟨eq_of_beq hz,rfl⟩
  ·cases h
 have nmY:(bN y x m).names.lookup y=some .local:=by
  show List.lookup y [(y,NameKind.local),(x,NameKind.free),(m,NameKind.globalImplicit)]=_;simp
 have nmX:(bN y x m).names.lookup x=some .free:=by
  show List.lookup x [(y,NameKind.local),(x,NameKind.free),(m,NameKind.globalImplicit)]=_;rw[aKm,hxy];simp
 have hcell:h1.IsCell cx (some (.ref pl)):=by
  obtain⟨o,g1,g2⟩:=hic;exact⟨o,kp _ _ g1,g2⟩
 refine⟨⟨e0.mod,rfl,rfl,rfl,aL8 _,fun y z c h1 h2=>?_,fun z hz=>?_,fun z c hf _=>?_,fun _=>hd,Around.frames_deeper e0.frames,.inr ⟨rfl,rfl⟩,fun b z=>absurd z (noA b),e0.bs,e0.bsz,fun b _ _=>noA b,fun b z=>absurd z (noA b),e0.funs,e0.frf⟩,
  rfl,e0.bare,Un.kept kp,⟨_,hns,fun i z v h1 h2 h3=>?_⟩,fun z c h=>?_,e0.hok.fresh (aL8 _),fun z c h=>?_,fun p hp=>absurd (show p∈([]:List (Addr × Obj)) from hp) (by simp),e0.hok.kept kp,rfl⟩
 ·exact (lk y c h1).1.trans (lk z c h2).1.symm
 ·have hz:(bN y x m).names.lookup z=some .cell\/(bN y x m).names.lookup z=some .free:=hz
  have:z=x:=by
   have hz:List.lookup z [(y,NameKind.local),(x,NameKind.free),(m,NameKind.globalImplicit)]=some .cell\/List.lookup z [(y,NameKind.local),(x,NameKind.free),(m,NameKind.globalImplicit)]=some .free:=hz;rw[aKm,aKm,aKm] at hz
   by_cases hy:(z == y)=true
   ·rw[hy] at hz;rcases hz with hz | hz<;>cases hz
   ·have hy:(z == y)=false:=by simpa using hy
    rw[hy] at hz
    by_cases hx:(z == x)=true
    ·exact eq_of_beq hx
    ·have hx:(z == x)=false:=by simpa using hx
     rw[hx] at hz
     by_cases hm:(z == m)=true
     ·rw[hm] at hz;rcases hz with hz | hz<;>cases hz
     ·have hm:(z == m)=false:=by simpa using hm
      rw[hm] at hz;rcases hz with hz | hz<;>cases hz
  subst this;exact⟨cx,by show [(z,cx)].lookup z=_;simp⟩
 ·cases hf
 ·have h1:[y,x][i]?=some z:=h1
  match i,h1,h2 with
  | 0,h1,h2=>
   have e1:y=z:=by simpa using h1
   have e2:V.int j=v:=by simpa using h2
   subst e1 e2;exact⟨.int j tj,⟨tj,rfl⟩,.inl ⟨nmY,by simp⟩⟩
  | 1,h1,h2=>
   have e1:x=z:=by simpa using h1
   have e2:V.ref pl=v:=by simpa using h2
   subst e1 e2;exact⟨.ref pl,rfl,.inr ⟨.inr nmX,cx,by show [(x,cx)].lookup x=_;simp,hcell⟩⟩
 ·obtain⟨_,rfl⟩:=lk z c h
  exact⟨_,hcell⟩
 ·obtain⟨_,rfl⟩:=lk z c h
  exact hcx
theorem ZI {A:Around}{y x m q:Str}{yp:Pos}{body:Expr}{cx lam c' pl:Addr}{pm ctv:Value}{s:Shared}{H:Hp}{j:Int}{tj:Tok}{o:Obj}{u:HO}{t:TE}{Q:VK}{R:Value->Shared->Prop}(hxy:(x == y)=false) (hd:A.handled=none) (e0:Env0 X.prog X.w X.K X.mg X.base A X.stack s H)
  (hH:∀ b,H b≠none->H b=some (.frz o u)/\s.heap.get? b=some o) (hic:s.heap.IsCell cx (some (.ref pl))) (hcx:H cx=none)
  (ho:s.heap.get? lam=some (PySem.W.kla_obj "<lambda>" q (dE y yp) body (bN y x m) [(x,cx)] pm c' ctv)) (hcd:s.heap.CodeRec (.ref c') q) (hroom:A.depth<recursionLimit)
  (hbind:bindArgs (PySem.W.kla_fn "<lambda>" q (dE y yp) body (bN y x m) [(x,cx)] pm (.ref c') ctv) ⟨[.int j tj],[]⟩=pure [(y,.int j tj)])
  (hb:PE (cxL X A y x m cx lam c' q s H) body t) (ht:t [some (.int j),some (.ref pl)] H Q)
  (hR:∀ v H' k s',Inv (cxL X A y x m cx lam c' q s H) [] [some (.int j),some (.ref pl)] H' s'->aT v k->Q v H'->Rl (frs X.stack) s s'->R k s'):
  wpAny (model X.prog X.w) A (call (.ref lam) [.int j tj]) R (fun _ _=>False) s:=by
 have lim:s.heap.NoLimit:=e0.mod.nolimit.keeps fun b o e=>(e0.bs b o e).1;refine ZK ho hcd hroom lim hbind fun h1 hns kp=>?_;have I:=YR (m:=m) (q:=q) (lam:=lam) (c':=c') (tk:=s.toks+1) hxy hd e0 hic hcx hns kp;refine wpAny_mono (hb [] _ _ H _ I ht) (fun k s' hk=>?_) fun _ _ z=>z;obtain⟨v,H',J,rv,hq⟩:=hk;refine hR v H' k s' J rv hq ⟨J.os,fun _=>J.bare,fun b ob e hf=>?_,fun b ob e hf=>?_⟩
 ·cases hb:H b with
  | none=>exact J.base.keep b ob e hb hf (by simp[cxL])
  | some z=>
   obtain⟨e1,e2⟩:=hH b (by rw[hb];simp);rw[e] at e2;cases e2;have:=J.hok b _ (J.base.frzs b _ _ e1);exact this.1
 ·exact J.base.slot b ob e (e0.frf b hf) hf (by simp[cxL])
end
section
variable {X:Cx}{pins:List (Addr × Obj)}{σ:St}{H:Hp}{s:Shared}
theorem ZJ {x y m:Str}{yp lpos:Pos}{body:Expr}{c P bm cx:Addr}{q:Str}{Qv:Value->Shared->Prop}(I:Inv X pins σ H s) (LK:LamK X.K X.mg c P bm) (hcode:X.env.code=.ref c) (hP:H P=some (.tbc lpos q)) (hq:q=X.env.qual ++ "<lambda>") (hcx:X.env.cells.lookup x=some cx)
  (h:∀ lam c' ctv H' s',Inv X pins σ H' s'->aO H H'->s'.heap.get? lam=some (PySem.W.kla_obj "<lambda>" q (dE y yp) body (bN y x m) [(x,cx)] ((X.mg "__name__").getD .none) c' ctv)->s'.heap.CodeRec (.ref c') q ->
   (∀ b o,b≠P->s.heap.get? b=some o->s'.heap.get? b=some o)->s.heap.objs.size<=lam->H' c'=some (.own P)->Qv (.ref lam) s'):
  wpAny (model X.prog X.w) X.A (eval (.Lambda (dE y yp) body (bN y x m) lpos) X.env) Qv X.xe s:=by
 obtain⟨ps,hPo,ht,hcase⟩:∃ ps:Array Value,s.heap.get? P=some { cls:=.none,data:=.fields ps }/\TriplesOk ps.toList/\(codeAmong lpos ps.toList=none\/∃ (c:Addr) (oc:Obj) (vs:Array Value) (t:Tok),codeAmong lpos ps.toList=some (.ref c)/\H c=some (.own P)/\s.heap.get? c=some oc/\oc.data=.fields vs/\vs[1]?=some (Value.str q t)):=I.hok P _ hP;have C:PySem.W.CodeHd s.heap c P:=PySem.W.codeHd_of_K I.kIn LK.code;have G0:s.heap.Ns mainGlobals X.mg:=I.mod.glob.keeps I.bk;obtain⟨sl,hbm⟩:=LK.mod;have hbo:=I.kIn _ _ hbm;have hbP:bm≠P:=fun z=>by rw[z,hPo] at hbo;cases hbo
 have hgP:mainGlobals≠P:=fun z=>by
  obtain⟨o,es,ep,e,hd,_⟩:=G0;rw[z,hPo] at e;cases e;cases hd
 have hB:s.heap.BuiltinsAt X.mg P:=⟨bm,_,LK.blt,LK.n1,LK.n2,hbP,hbo,rfl,rfl,rfl⟩;have hcl:closureFor (bN y x m) X.env=pure [(x,cx)]:=AF (TB hcx);refine PySem.W.kla_eval rfl ?_;rw[<- hq];rcases hcase with hn | ⟨c',oc,vs,t,hs,hown,hco,hd,hv⟩
 ·refine PySem.W.kla_makeFunction (mg:=X.mg) hcl I.ok.glob G0 hcode C hPo ht hn hgP hB fun c' ctv h' tk hx hge hlt hrec htb=>?_
  have hc'n:H c'=none:=I.hok.fresh hge;have hcP:c'≠P:=fun z=>by rw[z,hP] at hc'n;cases hc'n
  obtain⟨c₂,oc,vs,t,e2,hoc,hd,hv⟩:=hrec;cases e2;have neP:∀ b,H b=none->b≠P:=fun b e z=>by rw[z,hP] at e;cases e
  have kp:∀ b o,b≠P->s.heap.get? b=some o->(h'.push (PySem.W.kla_obj "<lambda>" q (dE y yp) body (bN y x m) [(x,cx)] ((X.mg "__name__").getD .none) c' ctv)).get? b=some o:=fun b o hb e=>aJa _ (hx b o hb e);have nec:∀ b o,H b=some o->b≠c':=fun b o e z=>by rw[z,hc'n] at e;cases e
  have I':=I.un (H':=upd H c' (.own P)) (h':=h'.push (PySem.W.kla_obj "<lambda>" q (dE y yp) body (bN y x m) [(x,cx)] ((X.mg "__name__").getD .none) c' ctv)) (t':=tk)
   ⟨fun b o e n _ _=>kp b o (neP b n) e,fun b o e n _ _=>⟨o.slots,kp b o (neP b n) e⟩,fun b o e n _=>by rw[aV (aLh (aJ7 (aJj e) hge))];exact n,fun b o e _=>?_,
    fun b xs e=>by rw[aV (nec b _ e)];exact e,fun b o u e=>by rw[aV (nec b _ e)];exact e,fun b ps e=>⟨#[],by rw[aV (nec b _ e),e];simp⟩⟩ (fun b o e=>?_)
  ·exact h _ c' ctv _ _ I' (dZ hc'n _) (aJi _ rfl) ⟨c',oc,vs,t,rfl,aJa _ hoc,hd,hv⟩ kp (aL9 hge (aL7 hlt)) dA
  ·by_cases hb:b=P
   ·subst hb;exact⟨_,aJa _ htb⟩
   ·exact⟨o,kp b o hb e⟩
  ·by_cases hb:b=c'
   ·subst hb
    rw[dA] at e;cases e;exact⟨oc,aJa _ hoc⟩
   ·rw[aV hb] at e
    by_cases hbP':b=P
    ·subst hbP'
     rw[hP] at e;cases e;refine⟨_,aJa _ htb,?_,.inr ⟨c',oc,vs,t,?_,dA,aJa _ hoc,hd,hv⟩⟩
     ·have:=TriplesOk_snoc lpos.line lpos.col (.ref c') _ ht
      simpa using this
     ·have:=codeAmong_snoc (pos:=lpos) (c:=.ref c') _ ht hn
      simpa using this
    ·refine (I.hok b o e).stay (fun b' u hb' e'=>kp b' u ?_ e') (fun b' e'=>by rw[aV (nec b' _ e')];exact e') fun b' xs e'=>by rw[aV (nec b' _ e')];exact e'
     rcases hb' with rfl | hb'
     ·exact hbP'
     ·exact fun z=>by rw[z,hP] at hb';cases hb'
 ·refine PySem.W.kla_makeFunctionHit (mg:=X.mg) hcl I.ok.glob G0 hcode C hPo ht hs hB fun ctv h' tk hk hsz=>?_
  have I':Inv X pins σ H { s with heap:=h'.push (PySem.W.kla_obj "<lambda>" q (dE y yp) body (bN y x m) [(x,cx)] ((X.mg "__name__").getD .none) c' ctv),toks:=tk }:=I.kept fun b o e=>aJa _ (hk b o e);exact h _ c' ctv _ _ I' (aO.refl H) (aJi _ rfl) ⟨c',oc,vs,t,rfl,aJa _ (hk _ _ hco),hd,hv⟩ (fun b o _ e=>aJa _ (hk b o e)) hsz hown
end
section
variable {X:Cx}
def aFx (K:PySem.W.Frag) (P:Addr) (lpos:Pos) (q:Str) (ix:Nat) (tb:Hp->TE) (ta:TA):TE:=fun σ H Q=>ta σ H fun vs H1=>∃ (n:Nat) (pl:Addr) (ns:List Int) (kf:Nat->Int × Int × Int),vs=[.int (n:Int)]/\H1 P=some (.tbc lpos q)/\σ[ix]?=some (some (.ref pl))/\SqL K H1 pl (ns.map V.int)/\ns.length=n/\n<64 /\
 eW n (bY kf)=true/\(∀ (j:Nat) (H0:Hp),j<n->SqL K H0 pl (ns.map V.int)->tb H0 [some (.int (j:Int)),some (.ref pl)] H0 fun v H'=>∃ q,v=.ref q/\SqT K H' q [.int (kf j).1,.int (kf j).2.1,.int (kf j).2.2]) /\
 ∀ H2 r,aO H1 H2->H2 r=none->Q (.ref r) (upd H2 r (.lst ((eD n (bY kf)).map V.int)))
theorem aCu {e : Expr} {ta : TA} {x y m : Str} {yp lpos kpos pos p p2 pos2 : Pos} {body : Expr} {c P bm : Addr} {q : Str} {ix k : Nat} {tb : Hp -> TE}
  (hc : X.calm = true) (hr : Room (k + 3) X.A) (LK : LamK X.K X.mg c P bm) (hcode : X.env.code = .ref c) (hq : q = X.env.qual ++ "<lambda>") (hN : X.N[ix]? = some x) (hkx : X.env.kindOf x = some .cell \/ X.env.kindOf x = some .free)
  (hb : ∀ (A : Around) (cx lam c' : Addr) (s : Shared) (H : Hp), Room k (A.deeper (sQ y x m cx lam c' q s.heap.objs.size)) -> PE (cxL X A y x m cx lam c' q s H) body (tb H)) (hyx : (x == y) = false)
  (hbind : ∀ (q : Str) (cl : List (Str × Addr)) (pm cdv ctv u : Value), bindArgs (PySem.W.kla_fn "<lambda>" q (dE y yp) body (bN y x m) cl pm cdv ctv) ⟨[u], []⟩ = pure [(y, u)])
  (hg : Gl X "sorted") (hm : X.mg "sorted" = none) (hgr : Gl X "range") (hmr : X.mg "range" = none) (ha : PA X [e] ta)
  (hs : starEach [e] X.env = [(false, eval e X.env)] := by rfl)
  (he : backTo pos (starEach [Expr.Call (.Name "range" p2) [e] [] pos2] X.env) = [(false, eval (.Call (.Name "range" p2) [e] [] pos2) X.env)] := by rfl)
  (hks : backToKw pos (keywordEach [⟨some "key", .Lambda (dE y yp) body (bN y x m) lpos, kpos⟩] X.env) = [(some ("key" : Str), do let v <- eval (.Lambda (dE y yp) body (bN y x m) lpos) X.env; standAt pos; pure v)] := by rfl) :
  PE X (.Call (.Name "sorted" p) [.Call (.Name "range" p2) [e] [] pos2] [⟨some "key", .Lambda (dE y yp) body (bN y x m) lpos, kpos⟩] pos) (aFx X.K P lpos q ix tb ta) := by
 intro pins s σ H Q I h;refine wpAny_Call_Name_kw (gN I hg hm PyProof.Rows.boot_sorted ?_ (by decide) (by decide));refine PyProof.Rows.callWith_kw ?_ he (by rw [he]; rfl) (by rw [hks]; rfl) (by rw [hks]; rfl);rw [he, hks];refine Calls.spliced_cons ?_;refine Call_ (gN I hgr hmr boot_range (aLu (thn (ha pos2 pins s σ H _ I h) fun us s1 ⟨vs, H1, I1, r1, q1⟩ => ?_) hs rfl));obtain ⟨n, pl, ns, kf, e, hP, hsl, hS, hln, h64, hgd, hkey, qq⟩ := q1;subst e;cases r1 with
 | cons r rr =>
 cases rr;obtain ⟨t, rfl⟩ := r;refine call_range_1 ?_;refine Calls.spliced_nil ?_;have I2 : Inv X pins σ H1 { s1 with heap := s1.heap.push { cls := .type "range", data := .fields #[.int 0 s1.toks, .int (n : Int) t, .int 1 (s1.toks + 1)] }, toks := s1.toks + 1 + 1 } := I1.kept fun b o e => aJa _ e;have hrg : IsRange (s1.heap.push { cls := .type "range", data := .fields #[.int 0 s1.toks, .int (n : Int) t, .int 1 (s1.toks + 1)] }) s1.heap.objs.size 0 (n : Int) 1 s1.toks t (s1.toks + 1) := IsRange.new ..;show wpAny _ _ (evalAll [do let v <- eval (.Lambda (dE y yp) body (bN y x m) lpos) X.env; standAt pos; pure v]) _ _ _
 -- the captured list
 obtain ⟨m0, hn0, hl0⟩ := I2.loc;obtain ⟨u0, ru0, lu0⟩ := hl0 ix x (.ref pl) hN hsl (hkx.elim (fun z => .inr (.inl z)) fun z => .inr (.inr z));cases ru0;obtain ⟨cx, hcx, hic⟩ : ∃ cx, X.env.cells.lookup x = some cx /\ (s1.heap.push { cls := .type "range", data := .fields #[.int 0 s1.toks, .int (n : Int) t, .int 1 (s1.toks + 1)] }).IsCell cx (some (.ref pl)) := by
  rcases lu0 with ⟨z, _⟩ | ⟨_, cx, ec, ic⟩
  ·rcases hkx with w | w <;> (rw [z] at w; cases w)
  ·exact ⟨cx, ec, ic⟩
 refine wpAny_evalAll_cons (wpAny_bind (ZJ I2 LK hcode hP hq hcx fun lam c' ctv H3 s3 I3 sm hlam hcd kp3 hlamge hcown => wpAny_bind (wpAny_standAt (wpAny_pure (wpAny_evalAll_nil ?_)))));show wpAny _ _ (call (.builtin "sorted") [.ref s1.heap.objs.size] [(Str.ofString "key", .ref lam)]) _ _ _;have neP : ∀ b o, (s1.heap.push { cls := .type "range", data := .fields #[.int 0 s1.toks, .int (n : Int) t, .int 1 (s1.toks + 1)] }).get? b = some o -> H1 b = none -> b ≠ P := fun b o _ e z => by rw [z, hP] at e; cases e
 have hrg3 : IsRange s3.heap s1.heap.objs.size 0 (n : Int) 1 s1.toks t (s1.toks + 1) := kp3 _ _ (neP _ _ hrg (I1.hok.fresh (aL8 _))) hrg;have hic3 : s3.heap.IsCell cx (some (.ref pl)) := by
  obtain ⟨oc, g1, g2⟩ := hic;exact ⟨oc, kp3 _ _ (neP _ _ g1 (I2.freeC x cx hcx)) g1, g2⟩
 have hS3 : SqL X.K H3 pl (ns.map V.int) := by
  rcases hS with hS | hS
  ·exact .inl (fO (fun o e => sm _ _ e) hS)
  ·exact .inr hS
 obtain ⟨its, rv, plo, hz⟩ := I3.list hS3
 -- the frames that run
 have frLt : ∀ b ∈ frs X.stack, ∃ o, s3.heap.get? b = some o := fun b hb => by
  obtain ⟨_, o, e, _⟩ := I3.stack.mem hb;exact ⟨o, e⟩
 have frNb : ∀ b ∈ frs X.stack, X.base.get? b = none := fun b hb => (I3.stack.mem hb).1;have lamF : lam ∉ frs X.stack := fun hb => by
  obtain ⟨_, o, e, _⟩ := I2.stack.mem hb;exact absurd (aJj e) (Nat.not_lt.mpr hlamge)
 have cF : c' ∉ frs X.stack := fun hb => by
  have := I3.stkFree _ hb;rw [hcown] at this; cases this
 refine call_function_entry_kw kind_sorted plain_sorted entry_sorted (ksk_s1 _ _) ?_;unfold Builtin.«sorted»;refine wpAny_bind (m := checkCount "sorted" 1 1 _) (wpAny_pure ?_);refine wpAny_bind (TD (n := n) (I.ok.hd hc) hrg3 (small_one (by lia) (by lia) (by lia) (by lia)) (by rw [rangeSize_one]; split <;> lia) (by lia) fun h4 tk4 acc sz4 kp4 hi => ?_)
 have hal : acc.toList.length = n := by simpa using hi.1
 have hav : ∀ (j : Nat) v, acc.toList[j]? = some v -> ∃ t, v = Value.int (j : Int) t := fun j v e => by
  obtain ⟨t, rfl⟩ := hi.2 j v (by simpa using e);exact ⟨t, by simp⟩
 refine wpAny_bind (wpAny_newList ?_ (by rw [sizeLine_eq, hal]; lia));have hoL : (h4.push (seqObj "list" acc.toList.toArray 0)).get? h4.objs.size = some (seqObj "list" acc.toList.toArray 0) := aJi _ rfl;have kp5 : ∀ b o, s3.heap.get? b = some o -> (h4.push (seqObj "list" acc.toList.toArray 0)).get? b = some o := fun b o e => aJa _ (kp4 b o e);have nea : ∀ b o, s3.heap.get? b = some o -> b ≠ h4.objs.size := fun b o e => aLh (aJj (kp4 b o e));have sz5 : (h4.push (seqObj "list" acc.toList.toArray 0)).objs.size = h4.objs.size + 1 := aJk ..;refine wpAny_bind (wpAny_holding (wpAny_call_entry_kw slot_list_sort ⟨_, hoL, rfl⟩ entry_list_sort ?_ (ksk_l1 _ _)));show wpAny _ X.A.in1.in1 (Builtin.«list.sort» ⟨[.ref h4.objs.size], [(Str.ofString "key", .ref lam)]⟩) _ _ { s3 with heap := h4.push (seqObj "list" acc.toList.toArray 0), toks := tk4 };rw [ksk_t1];have hok : fI n (bY kf) (PySem.W.kas_sort n) = true \/ n < 2 := by
  have := hgd;unfold eW at this;simp only [aJh, decide_eq_true_eq, aJc] at this;rcases this with z | z
  ·exact .inr z
  ·exact .inl z.1.1
 -- what is kept of the records that were there
 have all : ∀ s2, RlA (frs X.stack) h4.objs.size { s3 with heap := h4.push (seqObj "list" acc.toList.toArray 0), toks := tk4 } s2 -> (∀ b o, s3.heap.get? b = some o -> b ∉ frs X.stack -> s2.heap.get? b = some o) /\ (∀ b o, s3.heap.get? b = some o -> ∃ sl, s2.heap.get? b = some { o with slots := sl }) := fun s2 r => by
  refine ⟨fun b o e hf => r.keep b o (nea b o e) (kp5 b o e) hf, fun b o e => ?_⟩
  by_cases hf : b ∈ frs X.stack
  ·exact r.slot b o (nea b o e) (kp5 b o e) hf
  ·exact ⟨o.slots, r.keep b o (nea b o e) (kp5 b o e) hf⟩
 refine aFb (s := { s3 with heap := h4.push (seqObj "list" acc.toList.toArray 0), toks := tk4 }) (F := frs X.stack) (kf := kf) (fun b hb => ?_) hoL hal h64 hok (fun j xv kS s2 hx hkS hkS2 r2 hae => ?_) fun s' c7 r7 hout => ?_
 ·obtain ⟨o, e⟩ := frLt b hb
  exact ⟨aJj (kp5 b o e), nea b o e⟩
 ·obtain ⟨all2, slot2⟩ := all s2 r2
  obtain ⟨tx, rfl⟩ := hav j xv hx;have hj : j < n := by rw [<- hal]; exact (aJ4.mp hx).1
  -- the list alone is looked at
  have plS : ∃ o, s3.heap.get? pl = some o := by
   obtain ⟨o, _, g, _⟩ := plo;exact ⟨o, g⟩
  have plF : pl ∉ frs X.stack := fun hb => by
   rcases hS3 with z | ⟨o, its, n, hk, _⟩
   ·exact yH z (I3.stkFree _ hb)
   ·have := frNb _ hb
    rw [I3.mod.kin _ _ hk] at this; cases this
  obtain ⟨H0, o0, u0, f1, f2, f3⟩ : ∃ (H0 : Hp) (o0 : Obj) (u : HO), (∀ b, H0 b ≠ none -> b = pl /\ H0 b = some (.frz o0 u) /\ s2.heap.get? b = some o0 /\ H3 b ≠ none) /\ SqL X.K H0 pl (ns.map V.int) /\ HOk X.prog X.w H0 s2.heap := by
   rcases hS3 with z | z
   ·obtain ⟨z1, its1, n1, r1, e1⟩ := z.ok I3.hok
    have e2 := all2 _ _ e1 plF;refine ⟨fun b => if b = pl then some (.frz { cls := .type "list", data := .seq its1.toArray n1 } (.lst (ns.map V.int))) else none, { cls := .type "list", data := .seq its1.toArray n1 }, .lst (ns.map V.int), fun b hb => ?_, .inl (.inr ⟨_, if_pos rfl⟩), fun b ob e => ?_⟩
    ·by_cases hbp : b = pl
     ·refine ⟨hbp, if_pos hbp, by rw [hbp]; exact e2, by rw [hbp]; exact yH z⟩
     ·exact absurd (if_neg hbp) hb
    ·have e : (if b = pl then some (HO.frz { cls := .type "list", data := .seq its1.toArray n1 } (.lst (ns.map V.int))) else none) = some ob := e
     by_cases hbp : b = pl
     ·rw [if_pos hbp] at e
      cases e;rw [hbp];exact ⟨e2, z1, its1, n1, r1, e2⟩
     ·rw [if_neg hbp] at e
      cases e
   ·exact ⟨fun _ => none, { cls := .none, data := .fields #[] }, .lst [], fun b hb => absurd rfl hb, .inr z, fun b ob e => by cases e⟩
  have h0n : ∀ b, H3 b = none -> H0 b = none := fun b hb => by
   cases hq : H0 b with
   | none => rfl
   | some z => exact absurd hb (f1 b (by rw [hq]; simp)).2.2.2
  have hkS' : (h4.push (seqObj "list" acc.toList.toArray 0)).objs.size <= kS := hkS;rw [sz5] at hkS';have s3kS : ∀ b o, s3.heap.get? b = some o -> b ≠ kS := fun b o e => aLh (aJ7 (aJj e) (aL9 (aL9 (aL7 sz4) (Nat.le_succ _)) hkS'));have e0 : Env0 X.prog X.w X.K X.mg X.base X.A.in1.in1 X.stack s2 H0 := by
   refine ⟨I3.env0.in1.in1.frames, I3.mod, fun b o e => ?_, ?_, ?_, fun b hb => h0n b (I3.stkFree b hb), f3, r2.bare I3.bare⟩
   ·obtain ⟨g1, g2⟩ := I3.bs b o e
    exact ⟨all2 b o g1 (fun hb => by rw [frNb b hb] at e; cases e), h0n b g2⟩
   ·obtain ⟨ok, gk⟩ := hkS2
    exact aL9 I3.env0.bsz (aL9 (aL9 (aL7 sz4) (Nat.le_succ _)) (aL9 hkS' (aL7 (aJj gk))))
   ·exact I3.stack.of_keeps fun b o e _ => by
     obtain ⟨sl, e2⟩ := slot2 b o e;exact ⟨_, e2, rfl⟩
  have hic2 : s2.heap.IsCell cx (some (.ref pl)) := by
   obtain ⟨oc, g1, g2⟩ := hic3;obtain ⟨sl, e2⟩ := slot2 _ _ g1;exact ⟨_, e2, g2⟩
  have hcd2 : s2.heap.CodeRec (.ref c') q := by
   obtain ⟨c2, oc, vs, t, e2, hoc, hd, hv⟩ := hcd;obtain ⟨sl, e3⟩ := slot2 _ _ hoc;exact ⟨c2, _, vs, t, e2, e3, hd, hv⟩
  refine ZI (A := X.A.in1.in1) (o := o0) (u := u0) hyx (I.ok.hd hc) e0 (fun b hb => ⟨(f1 b hb).2.1, (f1 b hb).2.2.1⟩) hic2 (h0n cx (I3.freeC x cx hcx)) (all2 _ _ hlam lamF) hcd2 hr.depth (hbind _ _ _ _ _ _) (hb X.A.in1.in1 cx lam c' s2 H0 (hr.in1.in1.deeper _)) (hkey j H0 hj f2) fun v H' k s' J rk hv rl => ⟨rl, ?_⟩;obtain ⟨qa, rfl, hT⟩ := hv;cases rk;obtain ⟨its3, rv3, tp3, _⟩ := J.tuple hT;have inS2 : ∀ b, b = kS \/ b = h4.objs.size \/ b ∈ frs X.stack -> H' b = none := fun b hb => by
   have g : (∃ o, s2.heap.get? b = some o) /\ H0 b = none := by
    rcases hb with rfl | rfl | hb
    ·refine ⟨hkS2, ?_⟩
     cases hq : H0 b with
     | none => rfl
     | some z =>
      obtain ⟨o, e⟩ := plS;exact absurd (f1 b (by rw [hq]; simp)).1.symm (s3kS _ _ e)
    ·refine ⟨?_, ?_⟩
     ·obtain ⟨e, he⟩ := hae
      exact ⟨_, he⟩
     ·cases hq : H0 h4.objs.size with
      | none => rfl
      | some z =>
       obtain ⟨o, e⟩ := plS;exact absurd (f1 _ (by rw [hq]; simp)).1.symm (nea _ _ e)
    ·obtain ⟨o, e⟩ := frLt b hb
     obtain ⟨sl, e2⟩ := slot2 _ _ e;exact ⟨⟨_, e2⟩, h0n b (I3.stkFree b hb)⟩
   obtain ⟨⟨o, e⟩, n0⟩ := g;exact J.base.free b o e n0 (by simp [cxL])
  have apart : ∀ b, b = kS \/ b = h4.objs.size \/ b ∈ frs X.stack -> qa ≠ b := fun b hb z => by
   rcases hT with hT | ⟨o, _, _, hk, _⟩
   ·exact yH hT (by rw [z]; exact inS2 b hb)
   ·have e3 := (I3.bs _ _ (I3.mod.kin _ _ hk)).1
    rcases hb with rfl | rfl | hb
    ·exact s3kS _ _ e3 z
    ·exact nea _ _ e3 z
    ·have := frNb b hb
     rw [<- z, I3.mod.kin _ _ hk] at this; cases this
  cases rv3 with
  | cons a1 r3 =>
  cases r3 with
  | cons a2 r3 =>
  cases r3 with
  | cons a3 r3 =>
  cases r3;obtain ⟨t1, rfl⟩ := a1;obtain ⟨t2, rfl⟩ := a2;obtain ⟨t3, rfl⟩ := a3;exact ⟨qa, t1, t2, t3, rfl, apart _ (.inl rfl), apart _ (.inr (.inl rfl)), fun hb => apart qa (.inr (.inr hb)) rfl, tp3⟩
 ·obtain ⟨all7, slot7⟩ := all s' r7
  have ha3 : H3 h4.objs.size = none := I3.hok.fresh (aL7 sz4);have nea' : ∀ b u, H3 b = some u -> b ≠ h4.objs.size := fun b u e z => by rw [z, ha3] at e; cases e
  have nf : ∀ b u, H3 b = some u -> b ∉ frs X.stack := fun b u e hb => by rw [I3.stkFree b hb] at e; cases e
  have I7 : Inv X pins σ (upd H3 h4.objs.size (.lst ((eD n (bY kf)).map V.int))) s' := by
   refine I3.call' (ch := []) r7.os ⟨fun b o e _ hf _ => all7 b o e hf, fun b o e _ _ _ => slot7 b o e, fun b o e nn _ => by rw [aV (nea b o e)]; exact nn, fun b o e _ => by
     obtain ⟨sl, e2⟩ := slot7 b o e;exact ⟨_, e2⟩, fun b xs e => by rw [aV (nea' b _ e)]; exact e, fun b o u e => by rw [aV (nea' b _ e)]; exact e, fun b ps e => ⟨#[], by rw [aV (nea' b _ e), e]; simp⟩⟩ (fun b o e => ?_) (r7.bare I3.bare) fun b hb => absurd hb (by simp)
   by_cases hba : b = h4.objs.size
   ·subst hba
    rw [dA] at e;cases e;refine ⟨?_, _, c7, JV hal hav hgd, hout⟩;have := (JV hal hav hgd).length;rw [this, sizeLine_eq]
    split
    ·lia
    ·rw [aKg]
     have hg2 := hgd;unfold eW at hg2;simp only [aJh, decide_eq_true_eq, aJc] at hg2;lia
   ·rw [aV hba] at e
    refine (I3.hok b o e).stay (fun b' u hb' e' => all7 b' u e' ?_) (fun b' e' => by rw [aV (nea' b' _ e')]; exact e') fun b' xs e' => by rw [aV (nea' b' _ e')]; exact e'
    rcases hb' with rfl | hb'
    ·exact nf _ _ e
    ·exact nf _ _ hb'
  exact ⟨_, rfl, wpAny_pure ⟨_, rfl, .ref h4.objs.size, _, I7, rfl, qq H3 _ sm ha3⟩⟩
end
def gK (F:List T->Option T):List Int->Option (List Int)
 | []=>some []
 | a::r=>match F [.int a] with
  | some (.int c)=>(gK F r).map (c :: ·)
  | _=>none
theorem GL {F:List T->Option T}:∀ {ns cs:List Int},gK F ns=some cs->cs.length=ns.length/\∀ (j:Nat) p,ns[j]?=some p->∃ c,cs[j]?=some c/\F [.int p]=some (.int c)
 | [],cs,h=>by
  cases (aIz h);exact⟨rfl,fun j p e=>by simp at e⟩
 | a::r,cs,h=>by
  unfold gK at h;split at h
  ·rename_i c hc
   cases e:gK F r with
   | none=>rw[e] at h;cases h
   | some l=>
    rw[e] at h;cases (aIz h);obtain⟨h1,h2⟩:=GL e;refine⟨by simp[h1],fun j p ej=>?_⟩;cases j with
    | zero=>
     cases (show some a=some p from ej);exact⟨c,rfl,hc⟩
    | succ j=>exact h2 j p ej
  ·cases h
theorem GM {F:List T->Option T}{g:Int->Int}:∀ {ns:List Int},(∀ a∈ns,F [.int a]=some (.int (g a)))->gK F ns=some (ns.map g)
 | [],_=>rfl
 | a::r,h=>by
  unfold gK;rw[h a (by simp),GM fun b hb=>h b (aJ2 _ hb)]
  rfl
def kf3 (cs ns:List Int) (j:Nat):Int × Int × Int:=(cs.getD j 0,ns.getD j 0,(j:Int))
def xU (F:List T->Option T):List T->T->Option T
 | [.int n],.lst us=>(bX us).bind fun ns=>(gK F ns).bind fun cs=>if n=(ns.length:Int)/\ns.length<64/\eW ns.length (bY (kf3 cs ns))=true then some (.lst (tI (eD ns.length (bY (kf3 cs ns))))) else none
 | _,_=>none
def AT (fa:Rho->Option (List T)) (ix:Nat) (F:List T->Option T):Rho->Option T:=fun ρ=>(fa ρ).bind fun ts=>(aA ix ρ).bind fun t=>xU F ts t
@[simp] theorem fSKM_at (fa:Rho->Option (List T)) (ix:Nat) (F:List T->Option T) (ρ:Rho):AT fa ix F ρ=(fa ρ).bind fun ts=>(aA ix ρ).bind fun t=>xU F ts t:=id rfl
theorem aAg {F:List T->Option T}{ns cs:List Int}{n:Int}(hn:n=(ns.length:Int)) (h:ns.length<64) (hc:gK F ns=some cs) (hg:eW ns.length (bY (kf3 cs ns))=true):xU F [.int n] (.lst (tI ns))=some (.lst (tI (eD ns.length (bY (kf3 cs ns))))):=by
 simp[xU,mM,hn,h,hg,hc]
abbrev fbM (F:List T->Option T):Rho->Option T:=dM (aC (aG (aC (f2 (aA 1) (aA 0) oIx) aE) F) (aC (f2 (aA 1) (aA 0) oIx) (aC (aA 0) aE)))
theorem WD {F:List T->Option T}{ns:List Int}{j:Nat}{p c:Int}(hj:ns[j]?=some p) (hc:F [.int p]=some (.int c)):fbM F [some (.int (j:Int)),some (.lst (tI ns))]=some (.tup [.int c,.int p,.int (j:Int)]):=by
 have hi:oIx (.lst (tI ns)) (.int (j:Int))=some (.int p):=by
  show atI (tI ns) (j:Int)=_;obtain⟨hl,he⟩:=aJ4.mp hj;rw[eA hl]
  congr 2
  rw[aJ0,hj]
  rfl
 have h3:3<=cap:=by decide
 simp[fbM,dM,aC,aE,aG,f2,aA,hi,hc,h3]
section
variable {X:Cx}{B:Hp}{fl:List Nat}{e:Expr}{fa:Rho->Option (List T)}{l':Nat}
theorem WS {A:Around}{y x m q:Str}{cx lam c':Addr}{s:Shared}{H:Hp}{k l kt:Nat}{n:Bool}{ps:List Str}{F:List T->Option T}{p1 p2 p3 p4 p5 p6 p7 p8 p9 p10:Pos}
  (C:Cal X.prog X.w X.K X.mg X.base m k ps F n l) (hr:Room k (A.deeper (sQ y x m cx lam c' q s.heap.objs.size))) (hl:(decide (l=0)||decide (l=3))=true)
  (nmY:(bN y x m).names.lookup y=some .local) (nmX:(bN y x m).names.lookup x=some .free) (nmM:(bN y x m).names.lookup m=some .globalImplicit)
  (dx:(x == ("__debug__" : Str))=false) (dy:(y == ("__debug__" : Str))=false) (dm:(m == ("__debug__" : Str))=false) (cdx:(x == ("__classdict__" : Str))=false) (cdy:(y == ("__classdict__" : Str))=false):
  GE (cxL X A y x m cx lam c' q s H) H [1,1] (.Tuple [.Call (.Name m p1) [.Subscript (.Name x p2) (.Name y p3) p4] [] p5,.Subscript (.Name x p6) (.Name y p7) p8,.Name y p9] kt p10) (fbM F) true (min l (min 1 (min 1 3))):=by
 have vx:∀ {p:Pos},GE (cxL X A y x m cx lam c' q s H) H [1,1] (.Name x p) (aA 1) false 1:=aB 1 rfl (.inr (.inr nmX)) dx cdx;have vy:∀ {p:Pos},GE (cxL X A y x m cx lam c' q s H) H [1,1] (.Name y p) (aA 0) false 1:=aB 0 rfl (.inl nmY) dy cdy;exact hX (aD (aP (X:=cxL X A y x m cx lam c' q s H) C hr nmM (aD (bK vx vy) aF) hl dm) (aD (bK vx vy) (aD vy aF)))
theorem XA {z z2 kk x y m:Str}{yp lpos kpos pos p p2 pos2 p1 p3 p4 p5 p6 p7 p8 p9 p10 p11:Pos}{kt:Nat}{c Pt bm:Addr}{q:Str}{ix k l:Nat}{n:Bool}{ps:List Str}{F:List T->Option T}
  (hz:z = "sorted") (hz2:z2 = "range") (hkk:kk = "key")
  (hB:B Pt=some (.tbc lpos q)) (hc:X.calm=true) (hr:Room (k+3) X.A) (LK:LamK X.K X.mg c Pt bm) (hcode:X.env.code=.ref c) (hq:q=X.env.qual ++ "<lambda>") (hN:X.N[ix]?=some x) (hfl:1<=fl.getD ix 1)
  (hkx:X.env.kindOf x=some .cell\/X.env.kindOf x=some .free) (C:Cal X.prog X.w X.K X.mg X.base m k ps F n l) (hl:(decide (l=0)||decide (l=3))=true) (hyx:(x == y)=false)
  (nmY:(bN y x m).names.lookup y=some .local) (nmX:(bN y x m).names.lookup x=some .free) (nmM:(bN y x m).names.lookup m=some .globalImplicit)
  (dx:(x == ("__debug__" : Str))=false) (dy:(y == ("__debug__" : Str))=false) (dm:(m == ("__debug__" : Str))=false) (cdx:(x == ("__classdict__" : Str))=false) (cdy:(y == ("__classdict__" : Str))=false)
  (hbind:∀ (q:Str) (cl:List (Str × Addr)) (pm cdv ctv u:Value),bindArgs (PySem.W.kla_fn "<lambda>" q (dE y yp) (.Tuple [.Call (.Name m p1) [.Subscript (.Name x p11) (.Name y p3) p4] [] p5,.Subscript (.Name x p6) (.Name y p7) p8,.Name y p9] kt p10) (bN y x m) cl pm cdv ctv) ⟨[u],[]⟩=pure [(y,u)])
  (hg:Gl X z) (hm:X.mg z=none) (hgr:Gl X z2) (hmr:X.mg z2=none) (ha:GA X B fl [e] fa l')
  (hs:starEach [e] X.env=[(false,eval e X.env)]:=by rfl)
  (he:backTo pos (starEach [Expr.Call (.Name z2 p2) [e] [] pos2] X.env)=[(false,eval (.Call (.Name z2 p2) [e] [] pos2) X.env)]:=by rfl)
  (hks:backToKw pos (keywordEach [⟨some kk,.Lambda (dE y yp) (.Tuple [.Call (.Name m p1) [.Subscript (.Name x p11) (.Name y p3) p4] [] p5,.Subscript (.Name x p6) (.Name y p7) p8,.Name y p9] kt p10) (bN y x m) lpos,kpos⟩] X.env)=[(some kk,do let v <- eval (.Lambda (dE y yp) (.Tuple [.Call (.Name m p1) [.Subscript (.Name x p11) (.Name y p3) p4] [] p5,.Subscript (.Name x p6) (.Name y p7) p8,.Name y p9] kt p10) (bN y x m) lpos) X.env;standAt pos;pure v)]:=by rfl):
  GE X B fl (.Call (.Name z p) [.Call (.Name z2 p2) [e] [] pos2] [⟨some kk,.Lambda (dE y yp) (.Tuple [.Call (.Name m p1) [.Subscript (.Name x p11) (.Name y p3) p4] [] p5,.Subscript (.Name x p6) (.Name y p7) p8,.Name y p9] kt p10) (bN y x m) lpos,kpos⟩] pos) (AT fa ix F) true 3:=by
 subst hz hz2 hkk;refine bI (aCu (P:=Pt) (k:=k) (tb:=fun H=>tG X.K H [1,1] (fbM F) true (min l (min 1 (min 1 3)))) hc hr LK hcode hq hN hkx (fun A cx lam c' s H hr'=>WS C hr' hl nmY nmX nmM dx dy dm cdx cdy) hyx hbind hg hm hgr hmr ha hs he hks) ?_;rintro σ H Q ⟨Ex,ρ,M,t,S,hf,qq⟩;obtain⟨ts,hts,hf⟩:=bind_some hf;obtain⟨t0,ht0,hf⟩:=bind_some hf;refine⟨Ex,ρ,M,ts,S,hts,fun vs H1 s1 r1=>?_⟩
 match ts,t0,hf with
 | [.int n],.lst us,hf=>
  have hf:((bX us).bind fun ns=>(gK F ns).bind fun cs=>if n=(ns.length:Int)/\ns.length<64/\eW ns.length (bY (kf3 cs ns))=true then some (T.lst (tI (eD ns.length (bY (kf3 cs ns))))) else none)=some t:=hf;obtain⟨ns,hns,hf2⟩:=bind_some hf;obtain⟨cs,hcs,hf3⟩:=bind_some hf2
  clear hf hf2
  split at hf3
  ·rename_i hcd
   obtain⟨rfl,h64,hgd⟩:=hcd;have et:=aIz hf3;subst et;cases jN hns;obtain⟨y0,rfl,ry⟩:=eG r1;cases (show _=_ from ry);have e0:ρ[ix]?=some (some (.lst (tI ns))):=by
    unfold aA at ht0;cases h:ρ[ix]? with
    | none=>rw[h] at ht0;cases ht0
    | some o=>rw[h] at ht0;cases (show o=some _ from ht0);rfl
   obtain⟨v,ev,rv⟩:=(S.grow s1).slot ix _ e0 (.inl hfl);obtain⟨a,xs,rfl,h1,h2⟩:=rv.sqL;cases kG h2;obtain⟨hcl,hca⟩:=GL hcs;refine⟨ns.length,a,ns,kf3 cs ns,rfl,(S.same.trans s1) _ _ hB,ev,h1,rfl,h64,hgd,fun j H0 hj hS=>?_,fun H2 r sm hr=>qq _ _ ((s1.trans sm).trans (dZ hr _)) (aN.laid (s1.trans sm) hr (tV _))⟩;obtain⟨pv,hpv⟩:∃ pv,ns[j]?=some pv:=⟨_,aJ1 (by lia)⟩;obtain⟨c0,hc0,hF⟩:=hca j pv hpv;have rr:RepL X.K H0 (fun _=>True) [T.int (j:Int),T.lst (tI ns)] [V.int (j:Int),V.ref a]:=by
    refine⟨_,_,rfl,rfl,_,_,rfl,⟨a,ns.map V.int,rfl,?_,tV ns⟩,rfl⟩;rcases hS with hS | hS
    ·exact .inl ⟨trivial,hS⟩
    ·exact .inr hS
   have S0:=EB (K:=X.K) (H:=H0) (fl:=[1,1]) (N:=[y,x]) (ps:=[y,x]) (ts:=[T.int (j:Int),T.lst (tI ns)]) (vs:=[V.int (j:Int),V.ref a]) rfl (fun i hi=>by
    match i,hi with
    | 0,_=>rfl
    | 1,_=>rfl) rfl rr (by simp)
   refine⟨[],_,[],_,S0,WD hpv hF,fun v H' sm' rv'=>?_⟩;obtain⟨qa,ys,rfl,hq1,hq2⟩:=(rv'.rep S0).sqT;refine⟨qa,rfl,?_⟩;obtain⟨x1,r1,rfl,e1,x2,r2,rfl,e2,x3,r3,rfl,e3,rfl⟩:=hq2;cases (show x1=_ from e1);cases (show x2=_ from e2);cases (show x3=_ from e3);have k1:(kf3 cs ns j).1=c0:=by show cs.getD j 0=_;rw[aJ0,hc0];rfl
   have k2:(kf3 cs ns j).2.1=pv:=by show ns.getD j 0=_;rw[aJ0,hpv];rfl
   rw[k1,k2];exact hq1
  ·cases hf3
end
end G
namespace My
open PySem PySem.Spec PyProof.Rows L2 G
def top (i:Nat):Stmt:=PySem.Challenge.pw_groupcost_k73_whole_mixes_are_bases.main.body.getD i (.Pass ⟨0,0,0,0⟩)
local macro_rules | `(tactic| trivial)=>`(tactic| first | exact Or.inl rfl | exact Or.inr rfl | exact Or.inr (Or.inl rfl) | exact Or.inr (Or.inr rfl))
set_option maxRecDepth 100000
variable {P:Program}{w:World}{K:PySem.W.Frag}{mg:Str->Option Value}{base:Heap}{f Pt cq bm:Addr}
abbrev eQ:HO:=.tbc ⟨117,42,117,96⟩ ((("core_order" : Str) ++ ".<locals>.") ++ "<lambda>")
abbrev nJ:Stmt:=top 49
theorem aEj:FnScope ["script","k"] ["script","k"] (defScope nJ):=⟨rfl,rfl,rfl,by decide +kernel,rfl,by decide +kernel,by decide +kernel⟩
def tY:Rho->Option Out:=
 aH (rIf (fB (f2 (aA 1) (aG (aC (aA 0) aE) dN) oLt)) (aU (f1 (f2 (aA 0) (aA 1) oIx) aZ)) bW)
  (aU (fC (.int 0)))
def cQ:List T->Option T:=Fof 2 0 tY
theorem OR (t0 t1:T):cQ [t0,t1]=(tY [some t0,some t1]).bind bF:=rfl
theorem TU (aH2:mg "len" = none) (cdv:Value) (A:Around) (outer:List Env) (s:Shared) (H:Hp) (E:XK)
  (hr:Room 0 (A.deeper (envOfC "_law_cell" (defScope nJ) s.heap.objs.size f cdv))):
  GSs (aW CX0 P w K mg base ["script","k"] "_law_cell" (defScope nJ) f cdv A outer s H E).nox H [1,1] false 3 (defBody nJ) tY:=by
 have hu:=hr.units;unfold tY;exact @aJ _ _ _ _ _ _ _ _ _ (@cI _ _ _ _ _ _ _ _ _ _ _ _ (@BV _ _ _ _ _ _ _ _ _ _ _ _ (aB 1) (eM (by rfl) (by rfl) aH2 (aD (aB 0) aF))) (@aK _ _ _ _ _ _ _ (@aY _ _ _ _ _ _ _ _ (@bA _ _ _ _ _ _ _ _ _ (@GE.sc _ _ _ _ _ _ _ (@bK _ _ _ _ _ _ _ _ _ _ _ _ (aB 0) (aB 1) (by exact fun _ _=>rfl))) (by rfl)))) cJ) (@aK _ _ _ _ _ _ _ (@aY _ _ _ _ _ _ _ _ (@bA _ _ _ _ _ _ _ _ _ ge_int (by rfl))))
theorem aAm {fd:FuncData}(aH2:mg "len" = none) (Fu:Fun K "_law_cell" "_law_cell" nJ f fd):
  FnOk P w K mg base CX0 1 f fd ["script","k"] (spT K cQ false 3):=
 gfn Fu aEj rfl (by decide) (fun ts t h=>bB h) (fun cdv A outer s H E hr=>@TU _ _ _ _ _ _ aH2 cdv A outer s H E hr) (fun ts t h=>bC h)
abbrev nQ:Stmt:=top 51
theorem aEk:FnScope ["script"] ["script"] (defScope nQ):=⟨rfl,rfl,rfl,by decide +kernel,rfl,by decide +kernel,by decide +kernel⟩
def uF:Rho->Option Out:=
 aU (f1 (f2 (fC (.lst (tI [1,2,3,4,3,2,4,5,3,6]))) (f2 (aG (aC (aA 0) (aC (fC (.int 0)) aE)) cQ) (fC (.int 10)) bE) oIx) aZ)
def kN:List T->Option T:=Fof 1 0 uF
theorem OX (t0:T):kN [t0]=(uF [some t0]).bind bF:=rfl
theorem TZ (aH4:Cal P w K mg base "_law_cell" 1 ["script","k"] cQ false 3) (cdv:Value) (A:Around) (outer:List Env) (s:Shared) (H:Hp) (E:XK)
  (hr:Room 1 (A.deeper (envOfC "_law_hands" (defScope nQ) s.heap.objs.size f cdv))):
  GSs (aW CX0 P w K mg base ["script"] "_law_hands" (defScope nQ) f cdv A outer s H E).nox H [1] false 3 (defBody nQ) uF:=by
 have hu:=hr.units;unfold uF;exact @aK _ _ _ _ _ _ _ (@aY _ _ _ _ _ _ _ _ (@bA _ _ _ _ _ _ _ _ _ (@GE.sc _ _ _ _ _ _ _ (@bK _ _ _ _ _ _ _ _ _ _ _ _ (@sJ _ _ _ _ _ ([ 1 ,2 ,3 ,4 ,3 ,2 ,4 ,5 ,3 ,6 ]) (by rfl) (by decide +kernel)) (@cO _ _ _ _ _ _ _ _ _ _ _ _ (aP aH4 (hr.mono (by decide)) (by rfl) (aD (aB 0) (aD ge_int aF))) ge_int) (by exact fun _ _=>rfl))) (by rfl)))
theorem aAr {fd:FuncData}(aH4:Cal P w K mg base "_law_cell" 1 ["script","k"] cQ false 3) (Fu:Fun K "_law_hands" "_law_hands" nQ f fd):
  FnOk P w K mg base CX0 2 f fd ["script"] (spT K kN false 3):=
 gfn Fu aEk rfl (by decide) (fun ts t h=>bB h) (fun cdv A outer s H E hr=>@TZ _ _ _ _ _ _ aH4 cdv A outer s H E hr) (fun ts t h=>bC h)
abbrev nU:Stmt:=top 53
theorem vY:FnScope ["script","hands","size","slots","k","at"] ["script","hands"] (defScope nU):=⟨rfl,rfl,rfl,by decide +kernel,rfl,by decide +kernel,by decide +kernel⟩
def yN:Rho->Option T:=
 f2 (f2 (f2 (f2 (aA 0) (aA 0) bG) (fC (.int 48271)) bG) (f2 (fC (.int 7)) (aA 0) bG) dW) (fC (.int 1009)) bE
def yM:Rho->Option Out:=
 aH (aQ 5 (f2 (f2 (aA 4) (fC (.int 1)) eF) (aA 2) bE))
  (rD 3 (aA 5) (f2 (f2 (f2 (f2 (aA 3) (aA 5) oIx) (fC (.int 1000003)) bG) (f2 (aA 0) (aA 4) oIx) dW) (f2 (fC (.int 10)) (fC (.int 59)) dX) bE))
def uH:Rho->Option Out:=
 aH (aQ 2 (f2 (f2 (fC (.int 1)) (aA 1) eE) (fC (.int 1)) eF))
  (aH (dH 3 (cA (cV (aC (aA 2) aE) dO) [none] aR yN))
  (aH (dG 4 (cV (aC (fC (.int 1)) (aC (aG (aC (aA 0) aE) dN) aE)) gQ)
  yM)
  (aU (gL 3))))
def kO:List T->Option T:=Fof 2 4 uH
theorem OZ (t0 t1:T):kO [t0,t1]=(uH [some t0,some t1,none,none,none,none]).bind bF:=rfl
theorem UC (aH1:mg "range" = none) (aH2:mg "len" = none) (cdv:Value) (A:Around) (outer:List Env) (s:Shared) (H:Hp) (E:XK)
  (hr:Room 0 (A.deeper (envOfC "_law_slots" (defScope nU) s.heap.objs.size f cdv))):
  GSs (aW CX0 P w K mg base ["script","hands","size","slots","k","at"] "_law_slots" (defScope nU) f cdv A outer s H E).nox H [1,1,1,0,1,1] true 3 (defBody nU) uH:=by
 have hu:=hr.units;unfold uH yM yN;exact @aJ _ _ _ _ _ _ _ _ _ (@aX _ _ _ _ _ _ _ _ _ _ _ _ 2 (@eU _ _ _ _ _ _ _ _ _ _ _ _ (@gM _ _ _ _ _ _ _ _ _ _ _ _ ge_int (aB 1)) ge_int) vY.nd (by rfl) (Or.inl (by rfl)) (by rfl) (by rfl) (by trivial)) (@aJ _ _ _ _ _ _ _ _ _ (@BR _ _ _ _ _ _ _ _ _ _ _ _ _ _ _ _ _ _ _ _ _ _ _ _ _ 3 (cG (by kernel_rfl) (N':=[ "k" ]) (src:=[ none ])) (eK (by kernel_rfl) (fl':=[ 2 ])) (by rfl) (eV (by rfl) (by rfl) aH1 (aD (aB 2) aF)) (by rfl) (by rfl) (fun cl C s H ex=>⟨cW,@cO _ _ _ _ _ _ _ _ _ _ _ _ (@eL _ _ _ _ _ _ _ _ _ _ _ _ (@cL _ _ _ _ _ _ _ _ _ _ _ _ (@cL _ _ _ _ _ _ _ _ _ _ _ _ (aB 0) (aB 0)) ge_int) (@cL _ _ _ _ _ _ _ _ _ _ _ _ ge_int (aB 0))) ge_int⟩) vY.nd (by rfl) (Or.inl (by rfl)) (by rfl) (by rfl) (by intro _;rfl) (by trivial)) (@aJ _ _ _ _ _ _ _ _ _ (@dS _ _ _ _ _ _ _ _ _ 4 _ _ _ _ _ PassesOwn.never (by rfl) (BH (by rfl) (by rfl) aH1 (aD ge_int (aD (eM (by rfl) (by rfl) aH2 (aD (aB 0) aF)) aF))) vY.nd (by rfl) (Or.inl (by rfl)) (@aJ _ _ _ _ _ _ _ _ _ (@aX _ _ _ _ _ _ _ _ _ _ _ _ 5 (@cO _ _ _ _ _ _ _ _ _ _ _ _ (@eU _ _ _ _ _ _ _ _ _ _ _ _ (aB 4) ge_int) (aB 2)) vY.nd (by rfl) (Or.inl (by rfl)) (by rfl) (by rfl) (by trivial)) (@aK _ _ _ _ _ _ _ (@xA _ _ _ _ _ _ _ _ _ _ _ 3 _ _ _ _ _ _ (@cO _ _ _ _ _ _ _ _ _ _ _ _ (@eL _ _ _ _ _ _ _ _ _ _ _ _ (@cL _ _ _ _ _ _ _ _ _ _ _ _ (@bK _ _ _ _ _ _ _ _ _ _ _ _ (aB 3) (aB 5) (by exact fun _ _=>rfl)) ge_int) (@bK _ _ _ _ _ _ _ _ _ _ _ _ (aB 0) (aB 4) (by exact fun _ _=>rfl))) (@mT _ _ _ _ _ _ _ _ _ _ _ _ ge_int ge_int)) (aB 5) (by rfl) (by rfl) (by trivial) (by decide) (by decide) (by intro _;rfl) (by rfl) (by rfl) (by rfl)))) (by rfl) (by intro _;rfl) (by trivial)) (@aK _ _ _ _ _ _ _ (@aY _ _ _ _ _ _ _ _ (@mU _ _ _ _ _ _ _ 3 (by rfl) (by trivial) (by rfl) (by decide) (by decide))))))
theorem aAu {fd:FuncData}(aH1:mg "range" = none) (aH2:mg "len" = none) (Fu:Fun K "_law_slots" "_law_slots" nU f fd):
  FnOk P w K mg base CX0 1 f fd ["script","hands"] (spT K kO true 3):=
 gfn Fu vY rfl (by decide) (fun ts t h=>bB h) (fun cdv A outer s H E hr=>@UC _ _ _ _ _ _ aH1 aH2 cdv A outer s H E hr) (fun ts t h=>bC h)
abbrev nR:Stmt:=top 52
theorem zJ:FnScope ["group","many"] ["group"] (defScope nR):=⟨rfl,rfl,rfl,by decide +kernel,rfl,by decide +kernel,by decide +kernel⟩
def MR:Rho->Option Out:=
 aH (aQ 1 (f2 (aA 1) (f2 (aA 0) (fC (.int 2)) bE) dW))
  (aQ 0 (f2 (aA 0) (fC (.int 2)) bV))
def MS:Rho->Option Bool:=
 fB (f2 (aA 0) (fC (.int 0)) oGt)
def DM:Rho->Option Out:=
 aH (aQ 1 (fC (.int 0)))
  (aH (nF MS MR)
  (aU (f1 (aA 1) aZ)))
def fR:List T->Option T:=Fof 1 1 DM
theorem UA (cdv:Value) (A:Around) (outer:List Env) (s:Shared) (H:Hp) (E:XK)
  (hr:Room 0 (A.deeper (envOfC "_law_many" (defScope nR) s.heap.objs.size f cdv))):
  GSs (aW CX0 P w K mg base ["group","many"] "_law_many" (defScope nR) f cdv A outer s H E).nox H [1,1] false 3 (defBody nR) DM:=by
 have hu:=hr.units;unfold DM MS MR;exact @aJ _ _ _ _ _ _ _ _ _ (@aX _ _ _ _ _ _ _ _ _ _ _ _ 1 ge_int zJ.nd (by rfl) (Or.inl (by rfl)) (by rfl) (by rfl) (by trivial)) (@aJ _ _ _ _ _ _ _ _ _ (@BS _ _ _ _ _ _ _ _ _ _ PassesOwn.never (@sM _ _ _ _ _ _ _ _ _ _ _ _ (aB 0) ge_int) (@aJ _ _ _ _ _ _ _ _ _ (@aX _ _ _ _ _ _ _ _ _ _ _ _ 1 (@eL _ _ _ _ _ _ _ _ _ _ _ _ (aB 1) (@cO _ _ _ _ _ _ _ _ _ _ _ _ (aB 0) ge_int)) zJ.nd (by rfl) (Or.inl (by rfl)) (by rfl) (by rfl) (by trivial)) (@aK _ _ _ _ _ _ _ (@aX _ _ _ _ _ _ _ _ _ _ _ _ 0 (@fG _ _ _ _ _ _ _ _ _ _ _ _ (aB 0) ge_int) zJ.nd (by rfl) (Or.inl (by rfl)) (by rfl) (by rfl) (by trivial))))) (@aK _ _ _ _ _ _ _ (@aY _ _ _ _ _ _ _ _ (@bA _ _ _ _ _ _ _ _ _ (@GE.sc _ _ _ _ _ _ _ (aB 1)) (by rfl)))))
theorem aAs {fd:FuncData}(Fu:Fun K "_law_many" "_law_many" nR f fd):
  FnOk P w K mg base CX0 1 f fd ["group"] (spT K fR false 3):=
 gfn Fu zJ rfl (by decide) (fun ts t h=>bB h) (fun cdv A outer s H E hr=>@UA _ _ _ _ _ _  cdv A outer s H E hr) (fun ts t h=>bC h)
abbrev nV:Stmt:=top 55
theorem gC:FnScope ["slots","hands","most","table","part","slot","cap","weight","group","held","hand","each"] ["slots","hands","most"] (defScope nV):=⟨rfl,rfl,rfl,by decide +kernel,rfl,by decide +kernel,by decide +kernel⟩
def DN:Rho->Option T:=
 fC (.int 0)
def uJ:Rho->Option Out:=
 aH (aQ 9 (aG (aC (aA 6) (aC (aG (aC (f2 (aA 8) (aA 4) jC) aE) fR) aE)) sY))
  (rD 3 (aA 8) (f2 (f2 (aA 3) (aA 8) oIx) (f2 (aA 7) (aA 9) bG) dW))
def rF:Rho->Option Out:=
 aH (aQ 5 (f1 (f2 (aA 0) (f2 (aA 4) (fC (.int 1)) eF) oIx) aZ))
  (aH (aQ 6 (f2 (fC (.int 1)) (f2 (f2 (f2 (aA 5) (fC (.int 5)) bV) (fC (.int 11)) bE) (aG (aC (aA 4) aE) fR) bE) dW))
  (aH (aQ 7 (f2 (f2 (aA 5) (fC (.int 55)) bV) (aA 2) bE))
  (rIf (xZ (fB (f2 (aA 7) (fC (.int 0)) oGt)) (fB (f2 (f2 (aA 5) (fC (.int 5)) bE) (fC (.int 3)) oLt))) (dG 8 (cV (aC (f2 (fC (.int 1)) (aA 1) eE) aE) dO)
  uJ) bW)))
def uK:Rho->Option Out:=
 rIf (fB (f2 (f2 (f2 (aA 8) (aA 10) nC) (fC (.int 1)) jC) (fC (.int 1)) oEq)) (aH (aQ 11 (f2 (f2 (f2 (f2 (aA 0) (aA 10) oIx) (fC (.int 3)) bV) (fC (.int 7)) bE) (fC (.int 3)) eF))
  (rD 3 (aA 8) (f2 (f2 (aA 3) (aA 8) oIx) (f2 (f2 (aA 11) (aA 2) bG) (fC (.int 2)) bV) dW))) bW
def uL:Rho->Option Out:=
 dG 10 (cV (aC (aA 1) aE) dO)
  uK
def uI:Rho->Option Out:=
 aH (dH 3 (cA (cV (aC (f2 (fC (.int 1)) (aA 1) eE) aE) dO) [none] aR DN))
  (aH (dG 4 (cV (aC (fC (.int 1)) (aC (f2 (fC (.int 1)) (aA 1) eE) aE)) gQ)
  rF)
  (aH (dG 8 (cV (aC (f2 (fC (.int 1)) (aA 1) eE) aE) dO)
  uL)
  (aU (gL 3))))
def kP:List T->Option T:=Fof 3 9 uI
theorem PB (t0 t1 t2:T):kP [t0,t1,t2]=(uI [some t0,some t1,some t2,none,none,none,none,none,none,none,none,none]).bind bF:=rfl
theorem UD (aHa:Cal P w K mg base "_law_many" 1 ["group"] fR false 3) (aH1:mg "range" = none) (aHs:mg "min" = none) (cdv:Value) (A:Around) (outer:List Env) (s:Shared) (H:Hp) (E:XK)
  (hr:Room 1 (A.deeper (envOfC "_law_tied" (defScope nV) s.heap.objs.size f cdv))):
  GSs (aW CX0 P w K mg base ["slots","hands","most","table","part","slot","cap","weight","group","held","hand","each"] "_law_tied" (defScope nV) f cdv A outer s H E).nox H [1,1,1,0,1,1,1,1,1,1,1,1] true 3 (defBody nV) uI:=by
 have hu:=hr.units;unfold uI uL uK rF uJ DN;exact @aJ _ _ _ _ _ _ _ _ _ (@BR _ _ _ _ _ _ _ _ _ _ _ _ _ _ _ _ _ _ _ _ _ _ _ _ _ 3 (cG (by kernel_rfl) (N':=[ "group" ]) (src:=[ none ])) (eK (by kernel_rfl) (fl':=[ 2 ])) (by rfl) (eV (by rfl) (by rfl) aH1 (aD (@gM _ _ _ _ _ _ _ _ _ _ _ _ ge_int (aB 1)) aF)) (by rfl) (by rfl) (fun cl C s H ex=>⟨cW,@ge_int _ _ _ _ _ _⟩) gC.nd (by rfl) (Or.inl (by rfl)) (by rfl) (by rfl) (by intro _;rfl) (by trivial)) (@aJ _ _ _ _ _ _ _ _ _ (@dS _ _ _ _ _ _ _ _ _ 4 _ _ _ _ _ PassesOwn.never (by rfl) (BH (by rfl) (by rfl) aH1 (aD ge_int (aD (@gM _ _ _ _ _ _ _ _ _ _ _ _ ge_int (aB 1)) aF))) gC.nd (by rfl) (Or.inl (by rfl)) (@aJ _ _ _ _ _ _ _ _ _ (@aX _ _ _ _ _ _ _ _ _ _ _ _ 5 (@GE.sc _ _ _ _ _ _ _ (@bK _ _ _ _ _ _ _ _ _ _ _ _ (aB 0) (@eU _ _ _ _ _ _ _ _ _ _ _ _ (aB 4) ge_int) (by exact fun _ _=>rfl))) gC.nd (by rfl) (Or.inl (by rfl)) (by rfl) (by rfl) (by trivial)) (@aJ _ _ _ _ _ _ _ _ _ (@aX _ _ _ _ _ _ _ _ _ _ _ _ 6 (@eL _ _ _ _ _ _ _ _ _ _ _ _ ge_int (@cO _ _ _ _ _ _ _ _ _ _ _ _ (@cO _ _ _ _ _ _ _ _ _ _ _ _ (@fG _ _ _ _ _ _ _ _ _ _ _ _ (aB 5) ge_int) ge_int) (aP aHa (hr.mono (by decide)) (by rfl) (aD (aB 4) aF)))) gC.nd (by rfl) (Or.inl (by rfl)) (by rfl) (by rfl) (by trivial)) (@aJ _ _ _ _ _ _ _ _ _ (@aX _ _ _ _ _ _ _ _ _ _ _ _ 7 (@cO _ _ _ _ _ _ _ _ _ _ _ _ (@fG _ _ _ _ _ _ _ _ _ _ _ _ (aB 5) ge_int) (aB 2)) gC.nd (by rfl) (Or.inl (by rfl)) (by rfl) (by rfl) (by trivial)) (@aK _ _ _ _ _ _ _ (@cI _ _ _ _ _ _ _ _ _ _ _ _ (@GW.gt _ _ _ _ _ (@JC _ _ _ _ _ _ _ _ _ (@sM _ _ _ _ _ _ _ _ _ _ _ _ (aB 7) ge_int) (@JD _ _ _ _ _ _ (@BV _ _ _ _ _ _ _ _ _ _ _ _ (@cO _ _ _ _ _ _ _ _ _ _ _ _ (aB 5) ge_int) ge_int)))) (@aK _ _ _ _ _ _ _ (@dS _ _ _ _ _ _ _ _ _ 8 _ _ _ _ _ PassesOwn.never (by rfl) (eV (by rfl) (by rfl) aH1 (aD (@gM _ _ _ _ _ _ _ _ _ _ _ _ ge_int (aB 1)) aF)) gC.nd (by rfl) (Or.inl (by rfl)) (@aJ _ _ _ _ _ _ _ _ _ (@aX _ _ _ _ _ _ _ _ _ _ _ _ 9 (IE (by rfl) (by rfl) (by rfl) aHs (aD (aB 6) (aD (aP aHa (hr.mono (by decide)) (by rfl) (aD (@mR _ _ _ _ _ _ _ _ _ _ _ _ (aB 8) (aB 4)) aF)) aF))) gC.nd (by rfl) (Or.inl (by rfl)) (by rfl) (by rfl) (by trivial)) (@aK _ _ _ _ _ _ _ (@xA _ _ _ _ _ _ _ _ _ _ _ 3 _ _ _ _ _ _ (@eL _ _ _ _ _ _ _ _ _ _ _ _ (@bK _ _ _ _ _ _ _ _ _ _ _ _ (aB 3) (aB 8) (by exact fun _ _=>rfl)) (@cL _ _ _ _ _ _ _ _ _ _ _ _ (aB 7) (aB 9))) (aB 8) (by rfl) (by rfl) (by trivial) (by decide) (by decide) (by intro _;rfl) (by rfl) (by rfl) (by rfl)))) (by rfl) (by intro _;rfl) (by trivial))) cJ))))) (by rfl) (by intro _;rfl) (by trivial)) (@aJ _ _ _ _ _ _ _ _ _ (@dS _ _ _ _ _ _ _ _ _ 8 _ _ _ _ _ PassesOwn.never (by rfl) (eV (by rfl) (by rfl) aH1 (aD (@gM _ _ _ _ _ _ _ _ _ _ _ _ ge_int (aB 1)) aF)) gC.nd (by rfl) (Or.inl (by rfl)) (@aK _ _ _ _ _ _ _ (@dS _ _ _ _ _ _ _ _ _ 10 _ _ _ _ _ PassesOwn.never (by rfl) (eV (by rfl) (by rfl) aH1 (aD (aB 1) aF)) gC.nd (by rfl) (Or.inl (by rfl)) (@aK _ _ _ _ _ _ _ (@cI _ _ _ _ _ _ _ _ _ _ _ _ (@jV _ _ _ _ _ _ _ _ _ _ _ _ hu (@mR _ _ _ _ _ _ _ _ _ _ _ _ (@BE _ _ _ _ _ _ _ _ _ _ _ _ (aB 8) (aB 10)) ge_int) ge_int) (@aJ _ _ _ _ _ _ _ _ _ (@aX _ _ _ _ _ _ _ _ _ _ _ _ 11 (@eU _ _ _ _ _ _ _ _ _ _ _ _ (@cO _ _ _ _ _ _ _ _ _ _ _ _ (@fG _ _ _ _ _ _ _ _ _ _ _ _ (@bK _ _ _ _ _ _ _ _ _ _ _ _ (aB 0) (aB 10) (by exact fun _ _=>rfl)) ge_int) ge_int) ge_int) gC.nd (by rfl) (Or.inl (by rfl)) (by rfl) (by rfl) (by trivial)) (@aK _ _ _ _ _ _ _ (@xA _ _ _ _ _ _ _ _ _ _ _ 3 _ _ _ _ _ _ (@eL _ _ _ _ _ _ _ _ _ _ _ _ (@bK _ _ _ _ _ _ _ _ _ _ _ _ (aB 3) (aB 8) (by exact fun _ _=>rfl)) (@fG _ _ _ _ _ _ _ _ _ _ _ _ (@cL _ _ _ _ _ _ _ _ _ _ _ _ (aB 11) (aB 2)) ge_int)) (aB 8) (by rfl) (by rfl) (by trivial) (by decide) (by decide) (by intro _;rfl) (by rfl) (by rfl) (by rfl)))) cJ)) (by rfl) (by intro _;rfl) (by trivial))) (by rfl) (by intro _;rfl) (by trivial)) (@aK _ _ _ _ _ _ _ (@aY _ _ _ _ _ _ _ _ (@mU _ _ _ _ _ _ _ 3 (by rfl) (by trivial) (by rfl) (by decide) (by decide))))))
theorem aAv {fd:FuncData}(aHa:Cal P w K mg base "_law_many" 1 ["group"] fR false 3) (aH1:mg "range" = none) (aHs:mg "min" = none) (Fu:Fun K "_law_tied" "_law_tied" nV f fd):
  FnOk P w K mg base CX0 2 f fd ["slots","hands","most"] (spT K kP true 3):=
 gfn Fu gC rfl (by decide) (fun ts t h=>bB h) (fun cdv A outer s H E hr=>@UD _ _ _ _ _ _ aHa aH1 aHs cdv A outer s H E hr) (fun ts t h=>bC h)
abbrev nS:Stmt:=top 54
theorem vX:FnScope ["slots","hands","most","table","group","many","noise"] ["slots","hands","most"] (defScope nS):=⟨rfl,rfl,rfl,by decide +kernel,rfl,by decide +kernel,by decide +kernel⟩
def yL:Rho->Option Out:=
 aH (aQ 5 (f1 (aG (aC (aA 4) aE) fR) aZ))
  (aH (aQ 6 (f2 (f2 (f2 (aA 0) (f2 (aA 4) (fC (.int 1)) eF) oIx) (fC (.int 7)) bV) (aA 2) bE))
  (yE 3 (f2 (aA 6) (f2 (f2 (aA 2) (aA 5) bG) (aA 5) bG) eF)))
def uG:Rho->Option Out:=
 aH (dH 3 (fC (.lst (tI [0]))))
  (aH (dG 4 (cV (aC (fC (.int 1)) (aC (f2 (fC (.int 1)) (aA 1) eE) aE)) gQ)
  yL)
  (aU (gL 3)))
def jK:List T->Option T:=Fof 3 4 uG
theorem OY (t0 t1 t2:T):jK [t0,t1,t2]=(uG [some t0,some t1,some t2,none,none,none,none]).bind bF:=rfl
theorem UB (aHa:Cal P w K mg base "_law_many" 1 ["group"] fR false 3) (aH1:mg "range" = none) (cdv:Value) (A:Around) (outer:List Env) (s:Shared) (H:Hp) (E:XK)
  (hr:Room 1 (A.deeper (envOfC "_law_noisy" (defScope nS) s.heap.objs.size f cdv))):
  GSs (aW CX0 P w K mg base ["slots","hands","most","table","group","many","noise"] "_law_noisy" (defScope nS) f cdv A outer s H E).nox H [1,1,1,0,1,1,1] true 3 (defBody nS) uG:=by
 have hu:=hr.units;unfold uG yL;exact @aJ _ _ _ _ _ _ _ _ _ (@hZ _ _ _ _ _ _ _ _ _ _ _ 3 (@sJ _ _ _ _ _ ([ 0 ]) (by rfl) (by decide +kernel)) vX.nd (by rfl) (Or.inl (by rfl)) (by rfl) (by rfl) (by trivial)) (@aJ _ _ _ _ _ _ _ _ _ (@dS _ _ _ _ _ _ _ _ _ 4 _ _ _ _ _ PassesOwn.never (by rfl) (BH (by rfl) (by rfl) aH1 (aD ge_int (aD (@gM _ _ _ _ _ _ _ _ _ _ _ _ ge_int (aB 1)) aF))) vX.nd (by rfl) (Or.inl (by rfl)) (@aJ _ _ _ _ _ _ _ _ _ (@aX _ _ _ _ _ _ _ _ _ _ _ _ 5 (@GE.sc _ _ _ _ _ _ _ (aP aHa (hr.mono (by decide)) (by rfl) (aD (aB 4) aF))) vX.nd (by rfl) (Or.inl (by rfl)) (by rfl) (by rfl) (by trivial)) (@aJ _ _ _ _ _ _ _ _ _ (@aX _ _ _ _ _ _ _ _ _ _ _ _ 6 (@cO _ _ _ _ _ _ _ _ _ _ _ _ (@fG _ _ _ _ _ _ _ _ _ _ _ _ (@bK _ _ _ _ _ _ _ _ _ _ _ _ (aB 0) (@eU _ _ _ _ _ _ _ _ _ _ _ _ (aB 4) ge_int) (by exact fun _ _=>rfl)) ge_int) (aB 2)) vX.nd (by rfl) (Or.inl (by rfl)) (by rfl) (by rfl) (by trivial)) (@aK _ _ _ _ _ _ _ (@IO _ _ _ _ _ _ _ _ _ _ _ _ 3 _ _ (@eU _ _ _ _ _ _ _ _ _ _ _ _ (aB 6) (@cL _ _ _ _ _ _ _ _ _ _ _ _ (@cL _ _ _ _ _ _ _ _ _ _ _ _ (aB 2) (aB 5)) (aB 5))) (by rfl) (by rfl) (by trivial) (by decide) (by decide) (by rfl) (by rfl) (by rfl) (by rfl) (by rfl))))) (by rfl) (by intro _;rfl) (by trivial)) (@aK _ _ _ _ _ _ _ (@aY _ _ _ _ _ _ _ _ (@mU _ _ _ _ _ _ _ 3 (by rfl) (by trivial) (by rfl) (by decide) (by decide)))))
theorem aAt {fd:FuncData}(aHa:Cal P w K mg base "_law_many" 1 ["group"] fR false 3) (aH1:mg "range" = none) (Fu:Fun K "_law_noisy" "_law_noisy" nS f fd):
  FnOk P w K mg base CX0 2 f fd ["slots","hands","most"] (spT K jK true 3):=
 gfn Fu vX rfl (by decide) (fun ts t h=>bB h) (fun cdv A outer s H E hr=>@UB _ _ _ _ _ _ aHa aH1 cdv A outer s H E hr) (fun ts t h=>bC h)
abbrev nO:Stmt:=top 56
theorem qE:FnScope ["script","hands","slots","way","table"] ["script","hands"] (defScope nO):=⟨rfl,rfl,rfl,by decide +kernel,rfl,by decide +kernel,by decide +kernel⟩
def uC:Rho->Option T:=
 f2 (f2 (f2 (f2 (fC (.int 10)) (fC (.int 50)) dX) (fC (.int 2)) dX) (f2 (fC (.int 10)) (fC (.int 30)) dX) bG) (aA 0) bG
def uB:Rho->Option Out:=
 aH (aQ 2 (aG (aC (aA 0) (aC (aA 1) aE)) kO))
  (aH (aQ 3 (f2 (f2 (aG (aC (aA 0) (aC (fC (.int 0)) aE)) cQ) (fC (.int 10)) bV) (fC (.int 4)) bE))
  (aH (dH 4 (aG (aC (aA 2) (aC (aA 1) (aC (f2 (fF (aC (fC (.int 4)) (aC (f2 (fC (.int 10)) (fC (.int 50)) dX) aE))) (f2 (aA 3) (fC (.int 2)) bE) oIx) aE))) kP))
  (aH (rIf (fB (f2 (aA 3) (fC (.int 0)) oEq)) (dH 4 (aG (aC (aA 2) (aC (aA 1) (aC (f2 (fC (.int 10)) (fC (.int 58)) dX) aE))) jK)) bW)
  (aH (rIf (fB (f2 (aA 3) (fC (.int 1)) oEq)) (dH 4 (aG (aC (aA 2) (aC (aA 1) (aC (fC (.int 3)) aE))) jK)) bW)
  (aH (rIf (fB (f2 (f2 (f2 (aG (aC (aA 0) (aC (fC (.int 0)) aE)) cQ) (fC (.int 40)) bV) (fC (.int 8)) bE) (fC (.int 3)) oEq)) (dH 4 (cA (fFL (aA 4)) [none] aR uC)) bW)
  (aU (gL 4)))))))
def kM:List T->Option T:=Fof 2 3 uB
theorem OV (t0 t1:T):kM [t0,t1]=(uB [some t0,some t1,none,none,none]).bind bF:=rfl
theorem TX (aHy:Cal P w K mg base "_law_slots" 1 ["script","hands"] kO true 3) (aH4:Cal P w K mg base "_law_cell" 1 ["script","k"] cQ false 3) (aI0:Cal P w K mg base "_law_tied" 2 ["slots","hands","most"] kP true 3) (aHp:Cal P w K mg base "_law_noisy" 2 ["slots","hands","most"] jK true 3) (cdv:Value) (A:Around) (outer:List Env) (s:Shared) (H:Hp) (E:XK)
  (hr:Room 2 (A.deeper (envOfC "_law_falling" (defScope nO) s.heap.objs.size f cdv))):
  GSs (aW CX0 P w K mg base ["script","hands","slots","way","table"] "_law_falling" (defScope nO) f cdv A outer s H E).nox H [1,1,1,1,0] true 3 (defBody nO) uB:=by
 have hu:=hr.units;unfold uB uC;exact @aJ _ _ _ _ _ _ _ _ _ (@aX _ _ _ _ _ _ _ _ _ _ _ _ 2 (aP aHy (hr.mono (by decide)) (by rfl) (aD (aB 0) (aD (aB 1) aF))) qE.nd (by rfl) (Or.inl (by rfl)) (by rfl) (by rfl) (by trivial)) (@aJ _ _ _ _ _ _ _ _ _ (@aX _ _ _ _ _ _ _ _ _ _ _ _ 3 (@cO _ _ _ _ _ _ _ _ _ _ _ _ (@fG _ _ _ _ _ _ _ _ _ _ _ _ (aP aH4 (hr.mono (by decide)) (by rfl) (aD (aB 0) (aD ge_int aF))) ge_int) ge_int) qE.nd (by rfl) (Or.inl (by rfl)) (by rfl) (by rfl) (by trivial)) (@aJ _ _ _ _ _ _ _ _ _ (@hZ _ _ _ _ _ _ _ _ _ _ _ 4 (aP aI0 (hr.mono (by decide)) (by rfl) (aD (aB 2) (aD (aB 1) (aD (@bK _ _ _ _ _ _ _ _ _ _ _ _ (@fW _ _ _ _ _ _ _ (aD ge_int (aD (@mT _ _ _ _ _ _ _ _ _ _ _ _ ge_int ge_int) aF))) (@cO _ _ _ _ _ _ _ _ _ _ _ _ (aB 3) ge_int) (by exact fun _ _=>rfl)) aF)))) qE.nd (by rfl) (Or.inl (by rfl)) (by rfl) (by rfl) (by trivial)) (@aJ _ _ _ _ _ _ _ _ _ (@cI _ _ _ _ _ _ _ _ _ _ _ _ (@jV _ _ _ _ _ _ _ _ _ _ _ _ hu (aB 3) ge_int) (@aK _ _ _ _ _ _ _ (@hZ _ _ _ _ _ _ _ _ _ _ _ 4 (aP aHp (hr.mono (by decide)) (by rfl) (aD (aB 2) (aD (aB 1) (aD (@mT _ _ _ _ _ _ _ _ _ _ _ _ ge_int ge_int) aF)))) qE.nd (by rfl) (Or.inl (by rfl)) (by rfl) (by rfl) (by trivial))) cJ) (@aJ _ _ _ _ _ _ _ _ _ (@cI _ _ _ _ _ _ _ _ _ _ _ _ (@jV _ _ _ _ _ _ _ _ _ _ _ _ hu (aB 3) ge_int) (@aK _ _ _ _ _ _ _ (@hZ _ _ _ _ _ _ _ _ _ _ _ 4 (aP aHp (hr.mono (by decide)) (by rfl) (aD (aB 2) (aD (aB 1) (aD ge_int aF)))) qE.nd (by rfl) (Or.inl (by rfl)) (by rfl) (by rfl) (by trivial))) cJ) (@aJ _ _ _ _ _ _ _ _ _ (@cI _ _ _ _ _ _ _ _ _ _ _ _ (@jV _ _ _ _ _ _ _ _ _ _ _ _ hu (@cO _ _ _ _ _ _ _ _ _ _ _ _ (@fG _ _ _ _ _ _ _ _ _ _ _ _ (aP aH4 (hr.mono (by decide)) (by rfl) (aD (aB 0) (aD ge_int aF))) ge_int) ge_int) ge_int) (@aK _ _ _ _ _ _ _ (@BR _ _ _ _ _ _ _ _ _ _ _ _ _ _ _ _ _ _ _ _ _ _ _ _ _ 4 (cG (by kernel_rfl) (N':=[ "cost" ]) (src:=[ none ])) (eK (by kernel_rfl) (fl':=[ 2 ])) (by rfl) (fX (aB 4)) (by rfl) (by rfl) (fun cl C s H ex=>⟨cW,@cL _ _ _ _ _ _ _ _ _ _ _ _ (@cL _ _ _ _ _ _ _ _ _ _ _ _ (@mT _ _ _ _ _ _ _ _ _ _ _ _ (@mT _ _ _ _ _ _ _ _ _ _ _ _ ge_int ge_int) ge_int) (@mT _ _ _ _ _ _ _ _ _ _ _ _ ge_int ge_int)) (aB 0)⟩) qE.nd (by rfl) (Or.inl (by rfl)) (by rfl) (by rfl) (by intro _;rfl) (by trivial))) cJ) (@aK _ _ _ _ _ _ _ (@aY _ _ _ _ _ _ _ _ (@mU _ _ _ _ _ _ _ 4 (by rfl) (by trivial) (by rfl) (by decide) (by decide)))))))))
theorem aAp {fd:FuncData}(aHy:Cal P w K mg base "_law_slots" 1 ["script","hands"] kO true 3) (aH4:Cal P w K mg base "_law_cell" 1 ["script","k"] cQ false 3) (aI0:Cal P w K mg base "_law_tied" 2 ["slots","hands","most"] kP true 3) (aHp:Cal P w K mg base "_law_noisy" 2 ["slots","hands","most"] jK true 3) (Fu:Fun K "_law_falling" "_law_falling" nO f fd):
  FnOk P w K mg base CX0 3 f fd ["script","hands"] (spT K kM true 3):=
 gfn Fu qE rfl (by decide) (fun ts t h=>bB h) (fun cdv A outer s H E hr=>@TX _ _ _ _ _ _ aHy aH4 aI0 aHp cdv A outer s H E hr) (fun ts t h=>bC h)
abbrev nK:Stmt:=top 57
theorem zH:FnScope ["cell","hands","order","hand"] ["cell","hands"] (defScope nK):=⟨rfl,rfl,rfl,by decide +kernel,rfl,by decide +kernel,by decide +kernel⟩
def yK:Rho->Option Out:=
 aH (DF 2 (f2 (aA 0) (f2 (aA 3) (fC (.int 1)) dW) bE) (f1 (aA 3) aZ))
  (aQ 0 (f2 (aA 0) (f2 (aA 3) (fC (.int 1)) dW) bV))
def tZ:Rho->Option Out:=
 aH (dH 2 (fF aE))
  (aH (dG 3 (cV (aC (aA 1) aE) dO)
  yK)
  (aU (gL 2)))
def kK:List T->Option T:=Fof 2 2 tZ
theorem OS (t0 t1:T):kK [t0,t1]=(tZ [some t0,some t1,none,none]).bind bF:=rfl
theorem TV (aH1:mg "range" = none) (cdv:Value) (A:Around) (outer:List Env) (s:Shared) (H:Hp) (E:XK)
  (hr:Room 0 (A.deeper (envOfC "_law_drawn" (defScope nK) s.heap.objs.size f cdv))):
  GSs (aW CX0 P w K mg base ["cell","hands","order","hand"] "_law_drawn" (defScope nK) f cdv A outer s H E).nox H [1,1,0,1] true 3 (defBody nK) tZ:=by
 have hu:=hr.units;unfold tZ yK;exact @aJ _ _ _ _ _ _ _ _ _ (@hZ _ _ _ _ _ _ _ _ _ _ _ 2 (@fW _ _ _ _ _ _ _ aF) zH.nd (by rfl) (Or.inl (by rfl)) (by rfl) (by rfl) (by trivial)) (@aJ _ _ _ _ _ _ _ _ _ (@dS _ _ _ _ _ _ _ _ _ 3 _ _ _ _ _ PassesOwn.never (by rfl) (eV (by rfl) (by rfl) aH1 (aD (aB 1) aF)) zH.nd (by rfl) (Or.inl (by rfl)) (@aJ _ _ _ _ _ _ _ _ _ (@XQ _ _ _ _ _ _ _ _ _ _ _ _ _ _ _ _ 2 _ _ (@cO _ _ _ _ _ _ _ _ _ _ _ _ (aB 0) (@eL _ _ _ _ _ _ _ _ _ _ _ _ (aB 3) ge_int)) (@GE.sc _ _ _ _ _ _ _ (aB 3)) (by rfl) (by rfl) (by trivial) (by decide) (by decide) (by rfl) (by rfl) (by rfl) (by rfl) (by rfl) (by rfl) (by rfl)) (@aK _ _ _ _ _ _ _ (@aX _ _ _ _ _ _ _ _ _ _ _ _ 0 (@fG _ _ _ _ _ _ _ _ _ _ _ _ (aB 0) (@eL _ _ _ _ _ _ _ _ _ _ _ _ (aB 3) ge_int)) zH.nd (by rfl) (Or.inl (by rfl)) (by rfl) (by rfl) (by trivial)))) (by rfl) (by intro _;rfl) (by trivial)) (@aK _ _ _ _ _ _ _ (@aY _ _ _ _ _ _ _ _ (@mU _ _ _ _ _ _ _ 2 (by rfl) (by trivial) (by rfl) (by decide) (by decide)))))
theorem aAn {fd:FuncData}(aH1:mg "range" = none) (Fu:Fun K "_law_drawn" "_law_drawn" nK f fd):
  FnOk P w K mg base CX0 1 f fd ["cell","hands"] (spT K kK true 3):=
 gfn Fu zH rfl (by decide) (fun ts t h=>bB h) (fun cdv A outer s H E hr=>@TV _ _ _ _ _ _ aH1 cdv A outer s H E hr) (fun ts t h=>bC h)
abbrev nL:Stmt:=top 59
theorem DU:FnScope ["cells","hands","most","mix","cell"] ["cells","hands","most"] (defScope nL):=⟨rfl,rfl,rfl,by decide +kernel,rfl,by decide +kernel,by decide +kernel⟩
def nH:Rho->Option Out:=
 yE 3 (dM (aC (aG (aC (f2 (aA 4) (fC (.int 7)) bV) (aC (aA 1) aE)) kK) (aC (f2 (fC (.int 1)) (f2 (aA 4) (aA 2) bE) dW) aE)))
def uA:Rho->Option Out:=
 aH (dH 3 (fF aE))
  (aH (dG 4 (fFL (aA 0))
  nH)
  (aU (AS 3)))
def kL:List T->Option T:=Fof 3 2 uA
theorem OU (t0 t1 t2:T):kL [t0,t1,t2]=(uA [some t0,some t1,some t2,none,none]).bind bF:=rfl
theorem TW (aHw:Cal P w K mg base "_law_drawn" 1 ["cell","hands"] kK true 3) (cdv:Value) (A:Around) (outer:List Env) (s:Shared) (H:Hp) (E:XK)
  (hr:Room 1 (A.deeper (envOfC "_law_drawn_mix" (defScope nL) s.heap.objs.size f cdv))):
  GSs (aW CX0 P w K mg base ["cells","hands","most","mix","cell"] "_law_drawn_mix" (defScope nL) f cdv A outer s H E).nox H [1,1,1,0,1] true 3 (defBody nL) uA:=by
 have hu:=hr.units;unfold uA nH;exact @aJ _ _ _ _ _ _ _ _ _ (@hZ _ _ _ _ _ _ _ _ _ _ _ 3 (@fW _ _ _ _ _ _ _ aF) DU.nd (by rfl) (Or.inl (by rfl)) (by rfl) (by rfl) (by trivial)) (@aJ _ _ _ _ _ _ _ _ _ (@dS _ _ _ _ _ _ _ _ _ 4 _ _ _ _ _ PassesOwn.never (by rfl) (fX (aB 0)) DU.nd (by rfl) (Or.inl (by rfl)) (@aK _ _ _ _ _ _ _ (@IO _ _ _ _ _ _ _ _ _ _ _ _ 3 _ _ (@hX _ _ _ _ _ _ _ _ (aD (aP aHw (hr.mono (by decide)) (by rfl) (aD (@fG _ _ _ _ _ _ _ _ _ _ _ _ (aB 4) ge_int) (aD (aB 1) aF))) (aD (@eL _ _ _ _ _ _ _ _ _ _ _ _ ge_int (@cO _ _ _ _ _ _ _ _ _ _ _ _ (aB 4) (aB 2))) aF))) (by rfl) (by rfl) (by trivial) (by decide) (by decide) (by rfl) (by rfl) (by rfl) (by rfl) (by rfl))) (by rfl) (by intro _;rfl) (by trivial)) (@aK _ _ _ _ _ _ _ (@aY _ _ _ _ _ _ _ _ (@XM _ _ _ _ _ _ _ 3 (by rfl) (by trivial) (by rfl) (by decide) (by decide)))))
theorem aAo {fd:FuncData}(aHw:Cal P w K mg base "_law_drawn" 1 ["cell","hands"] kK true 3) (Fu:Fun K "_law_drawn_mix" "_law_drawn_mix" nL f fd):
  FnOk P w K mg base CX0 2 f fd ["cells","hands","most"] (spT K kL true 3):=
 gfn Fu DU rfl (by decide) (fun ts t h=>bB h) (fun cdv A outer s H E hr=>@TW _ _ _ _ _ _ aHw cdv A outer s H E hr) (fun ts t h=>bC h)
abbrev pH:Stmt:=top 11
theorem aEp:FnScope ["table"] ["table"] (defScope pH):=⟨rfl,rfl,rfl,by decide +kernel,rfl,by decide +kernel,by decide +kernel⟩
def uY:Rho->Option Out:=
 aU (f2 (f1 (aG (aC (aA 0) aE) dN) xP) (fC (.int 1)) eF)
def cR:List T->Option T:=Fof 1 0 uY
theorem QH (t0:T):cR [t0]=(uY [some t0]).bind bF:=rfl
theorem UP (aH2:mg "len" = none) (cdv:Value) (A:Around) (outer:List Env) (s:Shared) (H:Hp) (E:XK)
  (hr:Room 0 (A.deeper (envOfC "hand_count" (defScope pH) s.heap.objs.size f cdv))):
  GSs (aW CX0 P w K mg base ["table"] "hand_count" (defScope pH) f cdv A outer s H E).nox H [1] false 3 (defBody pH) uY:=by
 have hu:=hr.units;unfold uY;exact @aK _ _ _ _ _ _ _ (@aY _ _ _ _ _ _ _ _ (@bA _ _ _ _ _ _ _ _ _ (@eU _ _ _ _ _ _ _ _ _ _ _ _ (@HX _ _ _ _ _ _ _ _ _ (eM (by rfl) (by rfl) aH2 (aD (aB 0) aF)) (by rfl) (by rfl)) ge_int) (by rfl)))
theorem aB7 {fd:FuncData}(aH2:mg "len" = none) (Fu:Fun K "hand_count" "hand_count" pH f fd):
  FnOk P w K mg base CX0 1 f fd ["table"] (spT K cR false 3):=
 gfn Fu aEp rfl (by decide) (fun ts t h=>bB h) (fun cdv A outer s H E hr=>@UP _ _ _ _ _ _ aH2 cdv A outer s H E hr) (fun ts t h=>bC h)
abbrev nZ:Stmt:=top 36
theorem rO:FnScope ["table","order","shares","ahead","hand","joined"] ["table","order"] (defScope nZ):=⟨rfl,rfl,rfl,by decide +kernel,rfl,by decide +kernel,by decide +kernel⟩
def yP:Rho->Option Out:=
 aH (aQ 5 (f2 (aA 3) (f2 (fC (.int 1)) (aA 4) eE) oOr))
  (aH (rD 2 (aA 4) (f2 (f2 (aA 0) (aA 5) oIx) (f2 (aA 0) (aA 3) oIx) eF))
  (aQ 3 (f1 (aA 5) aZ)))
def uR:Rho->Option Out:=
 aH (dH 2 (f2 (fC (.lst (tI [0]))) (aG (aC (aA 0) aE) cR) tF))
  (aH (aQ 3 (fC (.int 0)))
  (aH (dG 4 (fFL (aA 1))
  yP)
  (aU (gL 2))))
def gE:List T->Option T:=Fof 2 4 uR
theorem PL (t0 t1:T):gE [t0,t1]=(uR [some t0,some t1,none,none,none,none]).bind bF:=rfl
theorem UH (aH3:Cal P w K mg base "hand_count" 1 ["table"] cR false 3) (cdv:Value) (A:Around) (outer:List Env) (s:Shared) (H:Hp) (E:XK)
  (hr:Room 1 (A.deeper (envOfC "by_order" (defScope nZ) s.heap.objs.size f cdv))):
  GSs (aW CX0 P w K mg base ["table","order","shares","ahead","hand","joined"] "by_order" (defScope nZ) f cdv A outer s H E).nox H [1,1,0,1,1,1] true 3 (defBody nZ) uR:=by
 have hu:=hr.units;unfold uR yP;exact @aJ _ _ _ _ _ _ _ _ _ (@hZ _ _ _ _ _ _ _ _ _ _ _ 2 (@IF _ _ _ _ _ _ _ _ _ _ _ (@sJ _ _ _ _ _ ([ 0 ]) (by rfl) (by decide +kernel)) (aP aH3 (hr.mono (by decide)) (by rfl) (aD (aB 0) aF))) rO.nd (by rfl) (Or.inl (by rfl)) (by rfl) (by rfl) (by trivial)) (@aJ _ _ _ _ _ _ _ _ _ (@aX _ _ _ _ _ _ _ _ _ _ _ _ 3 ge_int rO.nd (by rfl) (Or.inl (by rfl)) (by rfl) (by rfl) (by trivial)) (@aJ _ _ _ _ _ _ _ _ _ (@dS _ _ _ _ _ _ _ _ _ 4 _ _ _ _ _ PassesOwn.never (by rfl) (fX (aB 1)) rO.nd (by rfl) (Or.inl (by rfl)) (@aJ _ _ _ _ _ _ _ _ _ (@aX _ _ _ _ _ _ _ _ _ _ _ _ 5 (@wZ _ _ _ _ _ _ _ _ _ _ _ _ (aB 3) (@gM _ _ _ _ _ _ _ _ _ _ _ _ ge_int (aB 4))) rO.nd (by rfl) (Or.inl (by rfl)) (by rfl) (by rfl) (by trivial)) (@aJ _ _ _ _ _ _ _ _ _ (@xA _ _ _ _ _ _ _ _ _ _ _ 2 _ _ _ _ _ _ (@eU _ _ _ _ _ _ _ _ _ _ _ _ (@bK _ _ _ _ _ _ _ _ _ _ _ _ (aB 0) (aB 5) (by exact fun _ _=>rfl)) (@bK _ _ _ _ _ _ _ _ _ _ _ _ (aB 0) (aB 3) (by exact fun _ _=>rfl))) (aB 4) (by rfl) (by rfl) (by trivial) (by decide) (by decide) (by intro _;rfl) (by rfl) (by rfl) (by rfl)) (@aK _ _ _ _ _ _ _ (@aX _ _ _ _ _ _ _ _ _ _ _ _ 3 (@GE.sc _ _ _ _ _ _ _ (aB 5)) rO.nd (by rfl) (Or.inl (by rfl)) (by rfl) (by rfl) (by trivial))))) (by rfl) (by intro _;rfl) (by trivial)) (@aK _ _ _ _ _ _ _ (@aY _ _ _ _ _ _ _ _ (@mU _ _ _ _ _ _ _ 2 (by rfl) (by trivial) (by rfl) (by decide) (by decide))))))
theorem aAz {fd:FuncData}(aH3:Cal P w K mg base "hand_count" 1 ["table"] cR false 3) (Fu:Fun K "by_order" "by_order" nZ f fd):
  FnOk P w K mg base CX0 2 f fd ["table","order"] (spT K gE true 3):=
 gfn Fu rO rfl (by decide) (fun ts t h=>bB h) (fun cdv A outer s H E hr=>@UH _ _ _ _ _ _ aH3 cdv A outer s H E hr) (fun ts t h=>bC h)
abbrev pT:Stmt:=top 38
theorem wA:FnScope ["table","mix","row","order","many"] ["table","mix"] (defScope pT):=⟨rfl,rfl,rfl,by decide +kernel,rfl,by decide +kernel,by decide +kernel⟩
def rM:Rho->Option T:=
 f2 (aA 0) (f2 (aA 2) (aA 1) bG) dW
def rL:Rho->Option Out:=
 dH 2 (eB [0,1] (qM (fFL (aA 2)) (fFL (aG (aC (aA 0) (aC (aA 3) aE)) gE))) [none,none,some 4] aR rM)
def rK:Rho->Option Out:=
 aH (dH 2 (f2 (fC (.lst (tI [0]))) (aG (aC (aA 0) aE) cR) tF))
  (aH (tT [3,4] (fL (aA 1))
  rL)
  (aU (gL 2)))
def cS:List T->Option T:=Fof 2 3 rK
theorem EY (t0 t1:T):cS [t0,t1]=(rK [some t0,some t1,none,none,none]).bind bF:=rfl
theorem VC (aH3:Cal P w K mg base "hand_count" 1 ["table"] cR false 3) (aHe:Cal P w K mg base "by_order" 2 ["table","order"] gE true 3) (aHt:mg "zip" = none) (cdv:Value) (A:Around) (outer:List Env) (s:Shared) (H:Hp) (E:XK)
  (hr:Room 2 (A.deeper (envOfC "mix_row" (defScope pT) s.heap.objs.size f cdv))):
  GSs (aW CX0 P w K mg base ["table","mix","row","order","many"] "mix_row" (defScope pT) f cdv A outer s H E).nox H [1,1,0,1,1] true 3 (defBody pT) rK:=by
 have hu:=hr.units;unfold rK rL rM;exact @aJ _ _ _ _ _ _ _ _ _ (@hZ _ _ _ _ _ _ _ _ _ _ _ 2 (@IF _ _ _ _ _ _ _ _ _ _ _ (@sJ _ _ _ _ _ ([ 0 ]) (by rfl) (by decide +kernel)) (aP aH3 (hr.mono (by decide)) (by rfl) (aD (aB 0) aF))) wA.nd (by rfl) (Or.inl (by rfl)) (by rfl) (by rfl) (by trivial)) (@aJ _ _ _ _ _ _ _ _ _ (@BP _ _ _ _ _ _ _ _ _ _ _ [3 ,4] _ _ _ _ _ PassesOwn.never (by rfl) (@jT _ _ _ _ _ _ _ _ (aB 1)) (@cH _ _ _ _ _ _ wA.nd (by rfl) (Or.inl (by rfl)) (@cH _ _ _ _ _ _ wA.nd (by rfl) (Or.inr (by rfl)) (@fY _) (by trivial) (by rfl)) (by trivial) (by rfl)) (@aK _ _ _ _ _ _ _ (@XS _ _ _ _ _ _ _ _ _ _ _ _ _ _ _ _ _ _ _ _ _ 2 _ _ _ _ _ _ _ (cG (by kernel_rfl) (N':=[ "given" ,"share" ,"many" ]) (src:=[ none ,none ,some 4 ])) (jO (by kernel_rfl) (fl':=[ 2 ,2 ,1 ]) (js:=[ 0 ,1 ])) (by rfl) (@BI _ _ _ _ _ _ _ _ _ _ _ _ _ _ _ _ _ (by rfl) (by rfl) aHt (aB 2) (aP aHe (hr.mono (by decide)) (by rfl) (aD (aB 0) (aD (aB 3) aF))) (by rfl) (by rfl)) (fun cl C s H ex=>@pgT _ _ _ (2) _ _ (by rfl) (@cH _ _ _ _ _ _ (cX (by kernel_rfl)) (by rfl) (Or.inl (by rfl)) (@cH _ _ _ _ _ _ (cX (by kernel_rfl)) (by rfl) (Or.inl (by rfl)) (@fY _) (by trivial) (by rfl)) (by trivial) (by rfl)) (by rfl) (by rfl)) (by rfl) (fun cl C s H ex=>⟨cW,@eL _ _ _ _ _ _ _ _ _ _ _ _ (aB 0) (@cL _ _ _ _ _ _ _ _ _ _ _ _ (aB 2) (aB 1))⟩) wA.nd (by rfl) (Or.inl (by rfl)) (by rfl) (by rfl) (by intro _;rfl) (by trivial))) (by rfl) (by rfl) (by rfl) (by rfl) (by rfl) (by intro _;rfl)) (@aK _ _ _ _ _ _ _ (@aY _ _ _ _ _ _ _ _ (@mU _ _ _ _ _ _ _ 2 (by rfl) (by trivial) (by rfl) (by decide) (by decide)))))
theorem aBk {fd:FuncData}(aH3:Cal P w K mg base "hand_count" 1 ["table"] cR false 3) (aHe:Cal P w K mg base "by_order" 2 ["table","order"] gE true 3) (aHt:mg "zip" = none) (Fu:Fun K "mix_row" "mix_row" pT f fd):
  FnOk P w K mg base CX0 3 f fd ["table","mix"] (spT K cS true 3):=
 gfn Fu wA rfl (by decide) (fun ts t h=>bB h) (fun cdv A outer s H E hr=>@VC _ _ _ _ _ _ aH3 aHe aHt cdv A outer s H E hr) (fun ts t h=>bC h)
abbrev pU:Stmt:=top 39
theorem aEz:FnScope ["mix"] ["mix"] (defScope pU):=⟨rfl,rfl,rfl,by decide +kernel,rfl,by decide +kernel,by decide +kernel⟩
def DS:Rho->Option T:=
 f1 (aA 1) aZ
def vL:Rho->Option Out:=
 aU (aG (aC (eB [0,1] (fL (aA 0)) [none,none] aR DS) aE) tH)
def fU:List T->Option T:=Fof 1 0 vL
theorem QY (t0:T):fU [t0]=(vL [some t0]).bind bF:=rfl
theorem VD (aIb:mg "sum" = none) (cdv:Value) (A:Around) (outer:List Env) (s:Shared) (H:Hp) (E:XK)
  (hr:Room 0 (A.deeper (envOfC "mix_size" (defScope pU) s.heap.objs.size f cdv))):
  GSs (aW CX0 P w K mg base ["mix"] "mix_size" (defScope pU) f cdv A outer s H E).nox H [1] false 3 (defBody pU) vL:=by
 have hu:=hr.units;unfold vL DS;exact @aK _ _ _ _ _ _ _ (@aY _ _ _ _ _ _ _ _ (@bA _ _ _ _ _ _ _ _ _ (IH (by rfl) (by rfl) (by rfl) aIb (aD (@qO _ _ _ _ _ _ _ _ _ _ _ _ _ _ _ _ _ _ _ _ _ _ _ (cG (by kernel_rfl) (N':=[ "order" ,"many" ]) (src:=[ none ,none ])) (jO (by kernel_rfl) (fl':=[ 1 ,1 ]) (js:=[ 0 ,1 ])) (by decide) (by rfl) (@jT _ _ _ _ _ _ _ _ (aB 0)) (fun cl C s H ex=>@pgT _ _ _ (2) _ _ (by rfl) (@cH _ _ _ _ _ _ (cX (by kernel_rfl)) (by rfl) (Or.inl (by rfl)) (@cH _ _ _ _ _ _ (cX (by kernel_rfl)) (by rfl) (Or.inl (by rfl)) (@fY _) (by trivial) (by rfl)) (by trivial) (by rfl)) (by rfl) (by rfl)) (by rfl) (fun cl C s H ex=>⟨cW,@GE.sc _ _ _ _ _ _ _ (aB 1)⟩) (by intro _;rfl)) aF)) (by rfl)))
theorem aBl {fd:FuncData}(aIb:mg "sum" = none) (Fu:Fun K "mix_size" "mix_size" pU f fd):
  FnOk P w K mg base CX0 1 f fd ["mix"] (spT K fU false 3):=
 gfn Fu aEz rfl (by decide) (fun ts t h=>bB h) (fun cdv A outer s H E hr=>@VD _ _ _ _ _ _ aIb cdv A outer s H E hr) (fun ts t h=>bC h)
abbrev nP:Stmt:=top 58
theorem zI:FnScope ["row","group","total","hand"] ["row","group"] (defScope nP):=⟨rfl,rfl,rfl,by decide +kernel,rfl,by decide +kernel,by decide +kernel⟩
def uE:Rho->Option Out:=
 rIf (fB (f2 (f2 (f2 (aA 1) (aA 3) nC) (fC (.int 1)) jC) (fC (.int 1)) oEq)) (aQ 2 (f2 (aA 2) (f2 (aA 0) (aA 3) oIx) dW)) bW
def uD:Rho->Option Out:=
 aH (aQ 2 (fC (.int 0)))
  (aH (dG 3 (cV (aC (aG (aC (aA 0) aE) dN) aE) dO)
  uE)
  (aU (f1 (aA 2) aZ)))
def jJ:List T->Option T:=Fof 2 2 uD
theorem OW (t0 t1:T):jJ [t0,t1]=(uD [some t0,some t1,none,none]).bind bF:=rfl
theorem TY (aH2:mg "len" = none) (aH1:mg "range" = none) (cdv:Value) (A:Around) (outer:List Env) (s:Shared) (H:Hp) (E:XK)
  (hr:Room 0 (A.deeper (envOfC "_law_gives" (defScope nP) s.heap.objs.size f cdv))):
  GSs (aW CX0 P w K mg base ["row","group","total","hand"] "_law_gives" (defScope nP) f cdv A outer s H E).nox H [1,1,1,1] false 3 (defBody nP) uD:=by
 have hu:=hr.units;unfold uD uE;exact @aJ _ _ _ _ _ _ _ _ _ (@aX _ _ _ _ _ _ _ _ _ _ _ _ 2 ge_int zI.nd (by rfl) (Or.inl (by rfl)) (by rfl) (by rfl) (by trivial)) (@aJ _ _ _ _ _ _ _ _ _ (@dS _ _ _ _ _ _ _ _ _ 3 _ _ _ _ _ PassesOwn.never (by rfl) (eV (by rfl) (by rfl) aH1 (aD (eM (by rfl) (by rfl) aH2 (aD (aB 0) aF)) aF)) zI.nd (by rfl) (Or.inl (by rfl)) (@aK _ _ _ _ _ _ _ (@cI _ _ _ _ _ _ _ _ _ _ _ _ (@jV _ _ _ _ _ _ _ _ _ _ _ _ hu (@mR _ _ _ _ _ _ _ _ _ _ _ _ (@BE _ _ _ _ _ _ _ _ _ _ _ _ (aB 1) (aB 3)) ge_int) ge_int) (@aK _ _ _ _ _ _ _ (@aX _ _ _ _ _ _ _ _ _ _ _ _ 2 (@eL _ _ _ _ _ _ _ _ _ _ _ _ (aB 2) (@bK _ _ _ _ _ _ _ _ _ _ _ _ (aB 0) (aB 3) (by exact fun _ _=>rfl))) zI.nd (by rfl) (Or.inl (by rfl)) (by rfl) (by rfl) (by trivial))) cJ)) (by rfl) (by intro _;rfl) (by trivial)) (@aK _ _ _ _ _ _ _ (@aY _ _ _ _ _ _ _ _ (@bA _ _ _ _ _ _ _ _ _ (@GE.sc _ _ _ _ _ _ _ (aB 2)) (by rfl)))))
theorem aAq {fd:FuncData}(aH2:mg "len" = none) (aH1:mg "range" = none) (Fu:Fun K "_law_gives" "_law_gives" nP f fd):
  FnOk P w K mg base CX0 1 f fd ["row","group"] (spT K jJ false 3):=
 gfn Fu zI rfl (by decide) (fun ts t h=>bB h) (fun cdv A outer s H E hr=>@TY _ _ _ _ _ _ aH2 aH1 cdv A outer s H E hr) (fun ts t h=>bC h)
abbrev pC:Stmt:=top 12
theorem aEl:FnScope ["table"] ["table"] (defScope pC):=⟨rfl,rfl,rfl,by decide +kernel,rfl,by decide +kernel,by decide +kernel⟩
def rJ:Rho->Option Out:=
 aU (f2 (aG (aC (aA 0) aE) dN) (fC (.int 1)) eF)
def fS:List T->Option T:=Fof 1 0 rJ
theorem ET (t0:T):fS [t0]=(rJ [some t0]).bind bF:=rfl
theorem UK (aH2:mg "len" = none) (cdv:Value) (A:Around) (outer:List Env) (s:Shared) (H:Hp) (E:XK)
  (hr:Room 0 (A.deeper (envOfC "everybody" (defScope pC) s.heap.objs.size f cdv))):
  GSs (aW CX0 P w K mg base ["table"] "everybody" (defScope pC) f cdv A outer s H E).nox H [1] false 3 (defBody pC) rJ:=by
 have hu:=hr.units;unfold rJ;exact @aK _ _ _ _ _ _ _ (@aY _ _ _ _ _ _ _ _ (@bA _ _ _ _ _ _ _ _ _ (@eU _ _ _ _ _ _ _ _ _ _ _ _ (eM (by rfl) (by rfl) aH2 (aD (aB 0) aF)) ge_int) (by rfl)))
theorem aB2 {fd:FuncData}(aH2:mg "len" = none) (Fu:Fun K "everybody" "everybody" pC f fd):
  FnOk P w K mg base CX0 1 f fd ["table"] (spT K fS false 3):=
 gfn Fu aEl rfl (by decide) (fun ts t h=>bB h) (fun cdv A outer s H E hr=>@UK _ _ _ _ _ _ aH2 cdv A outer s H E hr) (fun ts t h=>bC h)
abbrev pI:Stmt:=top 6
theorem aEq:FnScope ["group"] ["group"] (defScope pI):=⟨rfl,rfl,rfl,by decide +kernel,rfl,by decide +kernel,by decide +kernel⟩
def MU:Rho->Option Bool:=
 fT (f2 (f2 (aA 1) (aA 0) nC) (fC (.int 1)) jC)
def MT:Rho->Option T:=
 f1 (aA 0) aZ
def DO:Rho->Option Out:=
 aU (cA (cV (aC (f1 (aA 0) xP) aE) dO) [none,some 0] MU MT)
def eS:List T->Option T:=Fof 1 0 DO
theorem UQ (aH1:mg "range" = none) (cdv:Value) (A:Around) (outer:List Env) (s:Shared) (H:Hp) (E:XK)
  (hr:Room 0 (A.deeper (envOfC "hands_in" (defScope pI) s.heap.objs.size f cdv))):
  GSs (aW CX0 P w K mg base ["group"] "hands_in" (defScope pI) f cdv A outer s H E).nox H [1] true 3 (defBody pI) DO:=by
 have hu:=hr.units;unfold DO MT MU;exact @aK _ _ _ _ _ _ _ (@aY _ _ _ _ _ _ _ _ (@bA _ _ _ _ _ _ _ _ _ (@hV _ _ _ _ _ _ _ _ _ _ _ _ _ _ _ _ _ _ _ _ (cG (by kernel_rfl) (N':=[ "hand" ,"group" ]) (src:=[ none ,some 0 ])) (eK (by kernel_rfl) (fl':=[ 2 ,1 ])) (by decide) (by rfl) (eV (by rfl) (by rfl) aH1 (aD (@HX _ _ _ _ _ _ _ _ _ (aB 0) (by rfl) (by rfl)) aF)) (by rfl) (by rfl) (fun cl C s H ex=>⟨@BJ _ _ _ _ _ (@jW _ _ _ _ _ _ _ (@mR _ _ _ _ _ _ _ _ _ _ _ _ (@BE _ _ _ _ _ _ _ _ _ _ _ _ (aB 1) (aB 0)) ge_int) (by intro _;rfl)),@GE.sc _ _ _ _ _ _ _ (aB 0)⟩) (by intro _;rfl)) (by rfl)))
theorem aB8 {fd:FuncData}(aH1:mg "range" = none) (Fu:Fun K "hands_in" "hands_in" pI f fd):
  FnOk P w K mg base CX0 1 f fd ["group"] (spT K eS true 3):=
 gfn Fu aEq rfl (by decide) (fun ts t h=>bB h) (fun cdv A outer s H E hr=>@UQ _ _ _ _ _ _ aH1 cdv A outer s H E hr) (fun ts t h=>bC h)
abbrev pZ:Stmt:=top 13
theorem aF1:FnScope ["row","group"] ["row","group"] (defScope pZ):=⟨rfl,rfl,rfl,by decide +kernel,rfl,by decide +kernel,by decide +kernel⟩
def zE:Rho->Option T:=
 f1 (f2 (aA 1) (aA 0) oIx) aZ
def vR:Rho->Option Out:=
 aU (aG (aC (cA (fFL (aG (aC (aA 1) aE) eS)) [none,some 0] aR zE) aE) tH)
def fV:List T->Option T:=Fof 2 0 vR
theorem RH (t0 t1:T):fV [t0,t1]=(vR [some t0,some t1]).bind bF:=rfl
theorem VI (aH7:Cal P w K mg base "hands_in" 1 ["group"] eS true 3) (aIb:mg "sum" = none) (cdv:Value) (A:Around) (outer:List Env) (s:Shared) (H:Hp) (E:XK)
  (hr:Room 1 (A.deeper (envOfC "row_gives" (defScope pZ) s.heap.objs.size f cdv))):
  GSs (aW CX0 P w K mg base ["row","group"] "row_gives" (defScope pZ) f cdv A outer s H E).nox H [1,1] false 3 (defBody pZ) vR:=by
 have hu:=hr.units;unfold vR zE;exact @aK _ _ _ _ _ _ _ (@aY _ _ _ _ _ _ _ _ (@bA _ _ _ _ _ _ _ _ _ (IH (by rfl) (by rfl) (by rfl) aIb (aD (@hV _ _ _ _ _ _ _ _ _ _ _ _ _ _ _ _ _ _ _ _ (cG (by kernel_rfl) (N':=[ "hand" ,"row" ]) (src:=[ none ,some 0 ])) (eK (by kernel_rfl) (fl':=[ 2 ,1 ])) (by decide) (by rfl) (fX (aP aH7 (hr.mono (by decide)) (by rfl) (aD (aB 1) aF))) (by rfl) (by rfl) (fun cl C s H ex=>⟨cW,@GE.sc _ _ _ _ _ _ _ (@bK _ _ _ _ _ _ _ _ _ _ _ _ (aB 1) (aB 0) (by exact fun _ _=>rfl))⟩) (by intro _;rfl)) aF)) (by rfl)))
theorem aBq {fd:FuncData}(aH7:Cal P w K mg base "hands_in" 1 ["group"] eS true 3) (aIb:mg "sum" = none) (Fu:Fun K "row_gives" "row_gives" pZ f fd):
  FnOk P w K mg base CX0 2 f fd ["row","group"] (spT K fV false 3):=
 gfn Fu aF1 rfl (by decide) (fun ts t h=>bB h) (fun cdv A outer s H E hr=>@VI _ _ _ _ _ _ aH7 aIb cdv A outer s H E hr) (fun ts t h=>bC h)
abbrev pP:Stmt:=top 15
theorem aEv:FnScope ["table","row"] ["table","row"] (defScope pP):=⟨rfl,rfl,rfl,by decide +kernel,rfl,by decide +kernel,by decide +kernel⟩
def zB:Rho->Option T:=
 f2 (aA 1) (aG (aC (aA 2) (aC (aA 0) aE)) fV) eF
def vF:Rho->Option Out:=
 aH (rIf (fB (f2 (aG (aC (aA 1) aE) dN) (aG (aC (aA 0) aE) cR) oNe)) tU bW)
  (aU (eB [0,1] (mO (fFL (aA 0))) [none,none,some 1] aR zB))
def eJ:List T->Option T:=Fof 2 0 vF
theorem QS (t0 t1:T):eJ [t0,t1]=(vF [some t0,some t1]).bind bF:=rfl
theorem UY (aH3:Cal P w K mg base "hand_count" 1 ["table"] cR false 3) (aHd:Cal P w K mg base "row_gives" 2 ["row","group"] fV false 3) (aH2:mg "len" = none) (aH5:mg "enumerate" = none) (cdv:Value) (A:Around) (outer:List Env) (s:Shared) (H:Hp) (E:XK)
  (hr:Room 2 (A.deeper (envOfC "less_row" (defScope pP) s.heap.objs.size f cdv))):
  GSs (aW CX0 P w K mg base ["table","row"] "less_row" (defScope pP) f cdv A outer s H E).nox H [1,1] true 3 (defBody pP) vF:=by
 have hu:=hr.units;unfold vF zB;exact @aJ _ _ _ _ _ _ _ _ _ (@cI _ _ _ _ _ _ _ _ _ _ _ _ (@BW _ _ _ _ _ _ _ _ _ _ _ _ hu (eM (by rfl) (by rfl) aH2 (aD (aB 1) aF)) (aP aH3 (hr.mono (by decide)) (by rfl) (aD (aB 0) aF))) (@aK _ _ _ _ _ _ _ BQ) cJ) (@aK _ _ _ _ _ _ _ (@aY _ _ _ _ _ _ _ _ (@bA _ _ _ _ _ _ _ _ _ (@qO _ _ _ _ _ _ _ _ _ _ _ _ _ _ _ _ _ _ _ _ _ _ _ (cG (by kernel_rfl) (N':=[ "group" ,"cost" ,"row" ]) (src:=[ none ,none ,some 1 ])) (jO (by kernel_rfl) (fl':=[ 2 ,2 ,1 ]) (js:=[ 0 ,1 ])) (by decide) (by rfl) (@BG _ _ _ _ _ _ _ _ _ _ _ _ _ (by rfl) (by rfl) aH5 (aB 0) (by rfl)) (fun cl C s H ex=>@pgT _ _ _ (2) _ _ (by rfl) (@cH _ _ _ _ _ _ (cX (by kernel_rfl)) (by rfl) (Or.inl (by rfl)) (@cH _ _ _ _ _ _ (cX (by kernel_rfl)) (by rfl) (Or.inl (by rfl)) (@fY _) (by trivial) (by rfl)) (by trivial) (by rfl)) (by rfl) (by rfl)) (by rfl) (fun cl C s H ex=>⟨cW,@eU _ _ _ _ _ _ _ _ _ _ _ _ (aB 1) (aP aHd (hr.mono (by decide)) (by rfl) (aD (aB 2) (aD (aB 0) aF)))⟩) (by intro _;rfl)) (by rfl))))
theorem aBg {fd:FuncData}(aH3:Cal P w K mg base "hand_count" 1 ["table"] cR false 3) (aHd:Cal P w K mg base "row_gives" 2 ["row","group"] fV false 3) (aH2:mg "len" = none) (aH5:mg "enumerate" = none) (Fu:Fun K "less_row" "less_row" pP f fd):
  FnOk P w K mg base CX0 3 f fd ["table","row"] (spT K eJ true 3):=
 gfn Fu aEv rfl (by decide) (fun ts t h=>bB h) (fun cdv A outer s H E hr=>@UY _ _ _ _ _ _ aH3 aHd aH2 aH5 cdv A outer s H E hr) (fun ts t h=>bC h)
abbrev pY:Stmt:=top 31
theorem DY:FnScope ["table","shares","left","least"] ["table","shares"] (defScope pY):=⟨rfl,rfl,rfl,by decide +kernel,rfl,by decide +kernel,by decide +kernel⟩
def vQ:Rho->Option Out:=
 aH (aQ 2 (aG (aC (aA 0) (aC (aA 1) aE)) eJ))
  (aH (aQ 3 (aG (aC (aA 2) aE) xS))
  (aU (dM (aC (f2 (aA 2) (aA 3) xQ) (aC (f1 (aA 3) qZ) aE)))))
def mH:List T->Option T:=Fof 2 2 vQ
theorem RF (t0 t1:T):mH [t0,t1]=(vQ [some t0,some t1,none,none]).bind bF:=rfl
theorem VH (aH6:Cal P w K mg base "less_row" 3 ["table","row"] eJ true 3) (aHs:mg "min" = none) (cdv:Value) (A:Around) (outer:List Env) (s:Shared) (H:Hp) (E:XK)
  (hr:Room 3 (A.deeper (envOfC "over" (defScope pY) s.heap.objs.size f cdv))):
  GSs (aW CX0 P w K mg base ["table","shares","left","least"] "over" (defScope pY) f cdv A outer s H E).nox H [1,1,1,1] false 3 (defBody pY) vQ:=by
 have hu:=hr.units;unfold vQ;exact @aJ _ _ _ _ _ _ _ _ _ (@aX _ _ _ _ _ _ _ _ _ _ _ _ 2 (aP aH6 (hr.mono (by decide)) (by rfl) (aD (aB 0) (aD (aB 1) aF))) DY.nd (by rfl) (Or.inl (by rfl)) (by rfl) (by rfl) (by trivial)) (@aJ _ _ _ _ _ _ _ _ _ (@aX _ _ _ _ _ _ _ _ _ _ _ _ 3 (WY (by rfl) (by rfl) (by rfl) aHs (aD (aB 2) aF)) DY.nd (by rfl) (Or.inl (by rfl)) (by rfl) (by rfl) (by trivial)) (@aK _ _ _ _ _ _ _ (@aY _ _ _ _ _ _ _ _ (@BN _ _ _ _ _ _ _ _ _ (@mV _ _ _ _ _ _ _ _ (@bA _ _ _ _ _ _ _ _ _ (@WV _ _ _ _ _ _ _ _ _ _ _ _ _ (aB 2) (aB 3) (by rfl) (by rfl) (by rfl) (by rfl)) (by rfl)) (@mV _ _ _ _ _ _ _ _ (@bA _ _ _ _ _ _ _ _ _ (@BD _ _ _ _ _ _ _ _ (aB 3)) (by rfl)) BO (by rfl) (by rfl)) (by rfl) (by rfl)) (by rfl)))))
theorem aBp {fd:FuncData}(aH6:Cal P w K mg base "less_row" 3 ["table","row"] eJ true 3) (aHs:mg "min" = none) (Fu:Fun K "over" "over" pY f fd):
  FnOk P w K mg base CX0 4 f fd ["table","shares"] (spT K mH false 3):=
 gfn Fu DY rfl (by decide) (fun ts t h=>bB h) (fun cdv A outer s H E hr=>@VH _ _ _ _ _ _ aH6 aHs cdv A outer s H E hr) (fun ts t h=>bC h)
abbrev pO:Stmt:=top 32
theorem aEu:FnScope ["table","shares"] ["table","shares"] (defScope pO):=⟨rfl,rfl,rfl,by decide +kernel,rfl,by decide +kernel,by decide +kernel⟩
def vD:Rho->Option Out:=
 aU (f2 (f2 (aG (aC (aA 0) (aC (aA 1) aE)) mH) (fC (.int 1)) oIx) (fC (.int 0)) oEq)
def mD:List T->Option T:=Fof 2 0 vD
theorem QN (t0 t1:T):mD [t0,t1]=(vD [some t0,some t1]).bind bF:=rfl
theorem UW (aIi:Cal P w K mg base "over" 4 ["table","shares"] mH false 3) (cdv:Value) (A:Around) (outer:List Env) (s:Shared) (H:Hp) (E:XK)
  (hr:Room 4 (A.deeper (envOfC "is_under" (defScope pO) s.heap.objs.size f cdv))):
  GSs (aW CX0 P w K mg base ["table","shares"] "is_under" (defScope pO) f cdv A outer s H E).nox H [1,1] false 3 (defBody pO) vD:=by
 have hu:=hr.units;unfold vD;exact @aK _ _ _ _ _ _ _ (@aY _ _ _ _ _ _ _ _ (@bA _ _ _ _ _ _ _ _ _ (@jR _ _ _ _ _ _ _ _ _ _ _ _ hu (@bK _ _ _ _ _ _ _ _ _ _ _ _ (aP aIi (hr.mono (by decide)) (by rfl) (aD (aB 0) (aD (aB 1) aF))) ge_int (by exact fun _ _=>rfl)) ge_int) (by rfl)))
theorem aBe {fd:FuncData}(aIi:Cal P w K mg base "over" 4 ["table","shares"] mH false 3) (Fu:Fun K "is_under" "is_under" pO f fd):
  FnOk P w K mg base CX0 5 f fd ["table","shares"] (spT K mD false 3):=
 gfn Fu aEu rfl (by decide) (fun ts t h=>bB h) (fun cdv A outer s H E hr=>@UW _ _ _ _ _ _ aIi cdv A outer s H E hr) (fun ts t h=>bC h)
abbrev pJ:Stmt:=top 33
theorem MX:FnScope ["table","shares","whole"] ["table","shares"] (defScope pJ):=⟨rfl,rfl,rfl,by decide +kernel,rfl,by decide +kernel,by decide +kernel⟩
def uZ:Rho->Option Out:=
 aH (aQ 2 (f1 (aG (aC (aA 0) aE) fS) aZ))
  (aU (f1 (kJ (aG (aC (aA 0) (aC (aA 1) aE)) mD) (f2 (aG (aC (aA 1) (aC (aA 2) aE)) fV) (f2 (aA 0) (aA 2) oIx) oEq)) aZ))
def eZ:List T->Option T:=Fof 2 1 uZ
theorem QJ (t0 t1:T):eZ [t0,t1]=(uZ [some t0,some t1,none]).bind bF:=rfl
theorem UR (aHc:Cal P w K mg base "everybody" 1 ["table"] fS false 3) (aI8:Cal P w K mg base "is_under" 5 ["table","shares"] mD false 3) (aHd:Cal P w K mg base "row_gives" 2 ["row","group"] fV false 3) (cdv:Value) (A:Around) (outer:List Env) (s:Shared) (H:Hp) (E:XK)
  (hr:Room 5 (A.deeper (envOfC "is_base" (defScope pJ) s.heap.objs.size f cdv))):
  GSs (aW CX0 P w K mg base ["table","shares","whole"] "is_base" (defScope pJ) f cdv A outer s H E).nox H [1,1,1] false 3 (defBody pJ) uZ:=by
 have hu:=hr.units;unfold uZ;exact @aJ _ _ _ _ _ _ _ _ _ (@aX _ _ _ _ _ _ _ _ _ _ _ _ 2 (@GE.sc _ _ _ _ _ _ _ (aP aHc (hr.mono (by decide)) (by rfl) (aD (aB 0) aF))) MX.nd (by rfl) (Or.inl (by rfl)) (by rfl) (by rfl) (by trivial)) (@aK _ _ _ _ _ _ _ (@aY _ _ _ _ _ _ _ _ (@bA _ _ _ _ _ _ _ _ _ (@GE.sc _ _ _ _ _ _ _ (@qN _ _ _ _ _ _ _ _ _ _ _ _ _ (aP aI8 (hr.mono (by decide)) (by rfl) (aD (aB 0) (aD (aB 1) aF))) (@sK _ _ _ _ _ _ _ _ _ (@jR _ _ _ _ _ _ _ _ _ _ _ _ hu (aP aHd (hr.mono (by decide)) (by rfl) (aD (aB 1) (aD (aB 2) aF))) (@bK _ _ _ _ _ _ _ _ _ _ _ _ (aB 0) (aB 2) (by exact fun _ _=>rfl)))))) (by rfl))))
theorem aB9 {fd:FuncData}(aHc:Cal P w K mg base "everybody" 1 ["table"] fS false 3) (aI8:Cal P w K mg base "is_under" 5 ["table","shares"] mD false 3) (aHd:Cal P w K mg base "row_gives" 2 ["row","group"] fV false 3) (Fu:Fun K "is_base" "is_base" pJ f fd):
  FnOk P w K mg base CX0 6 f fd ["table","shares"] (spT K eZ false 3):=
 gfn Fu MX rfl (by decide) (fun ts t h=>bB h) (fun cdv A outer s H E hr=>@UR _ _ _ _ _ _ aHc aI8 aHd cdv A outer s H E hr) (fun ts t h=>bC h)
abbrev pL:Stmt:=top 23
theorem aEr:FnScope ["value"] ["value"] (defScope pL):=⟨rfl,rfl,rfl,by decide +kernel,rfl,by decide +kernel,by decide +kernel⟩
def DP:Rho->Option Out:=
 aU (f1 (kJ (f1 (aA 0) (qX "int")) (zP (f1 (aA 0) (qX "bool")))) aZ)
def rV:List T->Option T:=Fof 1 0 DP
theorem UT (aH9:mg "isinstance" = none) (aIn:mg "int" = none) (aIk:mg "bool" = none) (cdv:Value) (A:Around) (outer:List Env) (s:Shared) (H:Hp) (E:XK)
  (hr:Room 0 (A.deeper (envOfC "is_number" (defScope pL) s.heap.objs.size f cdv))):
  GSs (aW CX0 P w K mg base ["value"] "is_number" (defScope pL) f cdv A outer s H E).nox H [1] false 3 (defBody pL) DP:=by
 have hu:=hr.units;unfold DP;exact @aK _ _ _ _ _ _ _ (@aY _ _ _ _ _ _ _ _ (@bA _ _ _ _ _ _ _ _ _ (@GE.sc _ _ _ _ _ _ _ (@qN _ _ _ _ _ _ _ _ _ _ _ _ _ (@BC _ _ _ _ _ _ _ _ _ _ _ _ _ (by rfl) YK (by rfl) aH9 (by rfl) aIn PyProof.Rows.boot_int (aB 0) (by decide) (by decide) (by rfl) (by rfl) (by rfl)) (@sK _ _ _ _ _ _ _ _ _ (@WZ _ _ _ _ _ _ _ _ (@BC _ _ _ _ _ _ _ _ _ _ _ _ _ (by rfl) YJ (by rfl) aH9 (by rfl) aIk PyProof.Rows.boot_bool (aB 0) (by decide) (by decide) (by rfl) (by rfl) (by rfl)))))) (by rfl)))
theorem aBb {fd:FuncData}(aH9:mg "isinstance" = none) (aIn:mg "int" = none) (aIk:mg "bool" = none) (Fu:Fun K "is_number" "is_number" pL f fd):
  FnOk P w K mg base CX0 1 f fd ["value"] (spT K rV false 3):=
 gfn Fu aEr rfl (by decide) (fun ts t h=>bB h) (fun cdv A outer s H E hr=>@UT _ _ _ _ _ _ aH9 aIn aIk cdv A outer s H E hr) (fun ts t h=>bC h)
abbrev pN:Stmt:=top 24
theorem aEt:FnScope ["hands","value"] ["hands","value"] (defScope pN):=⟨rfl,rfl,rfl,by decide +kernel,rfl,by decide +kernel,by decide +kernel⟩
def DQ:Rho->Option T:=
 f1 (aG (aC (aA 0) aE) rV) aZ
def vC:Rho->Option Out:=
 aU (f1 (kJ (f1 (aA 1) (qX "list")) (kJ (f2 (aG (aC (aA 1) aE) dN) (aA 0) oEq) (aG (aC (cA (fFL (aA 1)) [none] aR DQ) aE) qW))) aZ)
def mC:List T->Option T:=Fof 2 0 vC
theorem QM (t0 t1:T):mC [t0,t1]=(vC [some t0,some t1]).bind bF:=rfl
theorem UV (aI1:Cal P w K mg base "is_number" 1 ["value"] rV false 3) (aH9:mg "isinstance" = none) (aI4:mg "list" = none) (aH2:mg "len" = none) (aHr:mg "all" = none) (cdv:Value) (A:Around) (outer:List Env) (s:Shared) (H:Hp) (E:XK)
  (hr:Room 1 (A.deeper (envOfC "is_row" (defScope pN) s.heap.objs.size f cdv))):
  GSs (aW CX0 P w K mg base ["hands","value"] "is_row" (defScope pN) f cdv A outer s H E).nox H [1,1] false 3 (defBody pN) vC:=by
 have hu:=hr.units;unfold vC DQ;exact @aK _ _ _ _ _ _ _ (@aY _ _ _ _ _ _ _ _ (@bA _ _ _ _ _ _ _ _ _ (@GE.sc _ _ _ _ _ _ _ (@qN _ _ _ _ _ _ _ _ _ _ _ _ _ (@BC _ _ _ _ _ _ _ _ _ _ _ _ _ (by rfl) YL (by rfl) aH9 (by rfl) aI4 PyProof.Rows.boot_list (aB 1) (by decide) (by decide) (by rfl) (by rfl) (by rfl)) (@qN _ _ _ _ _ _ _ _ _ _ _ _ _ (@jR _ _ _ _ _ _ _ _ _ _ _ _ hu (eM (by rfl) (by rfl) aH2 (aD (aB 1) aF)) (aB 0)) (@sK _ _ _ _ _ _ _ _ _ (BA (by rfl) (by rfl) (by rfl) aHr (aD (@hV _ _ _ _ _ _ _ _ _ _ _ _ _ _ _ _ _ _ _ _ (cG (by kernel_rfl) (N':=[ "number" ]) (src:=[ none ])) (eK (by kernel_rfl) (fl':=[ 2 ])) (by decide) (by rfl) (fX (aB 1)) (by rfl) (by rfl) (fun cl C s H ex=>⟨cW,@GE.sc _ _ _ _ _ _ _ (aP aI1 (hr.mono (by decide)) (by rfl) (aD (aB 0) aF))⟩) (by intro _;rfl)) aF)))))) (by rfl)))
theorem aBd {fd:FuncData}(aI1:Cal P w K mg base "is_number" 1 ["value"] rV false 3) (aH9:mg "isinstance" = none) (aI4:mg "list" = none) (aH2:mg "len" = none) (aHr:mg "all" = none) (Fu:Fun K "is_row" "is_row" pN f fd):
  FnOk P w K mg base CX0 2 f fd ["hands","value"] (spT K mC false 3):=
 gfn Fu aEt rfl (by decide) (fun ts t h=>bB h) (fun cdv A outer s H E hr=>@UV _ _ _ _ _ _ aI1 aH9 aI4 aH2 aHr cdv A outer s H E hr) (fun ts t h=>bC h)
abbrev pM:Stmt:=top 25
theorem aEs:FnScope ["hands","value"] ["hands","value"] (defScope pM):=⟨rfl,rfl,rfl,by decide +kernel,rfl,by decide +kernel,by decide +kernel⟩
def vB:Rho->Option Out:=
 aU (f1 (kJ (aG (aC (aA 0) (aC (aA 1) aE)) mC) (f2 (aG (aC (aA 1) aE) xW) (aG (aC (aA 0) aE) sX) oEq)) aZ)
def kZ:List T->Option T:=Fof 2 0 vB
theorem QL (t0 t1:T):kZ [t0,t1]=(vB [some t0,some t1]).bind bF:=rfl
theorem UU (aIe:Cal P w K mg base "is_row" 2 ["hands","value"] mC false 3) (aHm:mg "sorted" = none) (aI4:mg "list" = none) (aH1:mg "range" = none) (cdv:Value) (A:Around) (outer:List Env) (s:Shared) (H:Hp) (E:XK)
  (hr:Room 2 (A.deeper (envOfC "is_order" (defScope pM) s.heap.objs.size f cdv))):
  GSs (aW CX0 P w K mg base ["hands","value"] "is_order" (defScope pM) f cdv A outer s H E).nox H [1,1] false 3 (defBody pM) vB:=by
 have hu:=hr.units;unfold vB;exact @aK _ _ _ _ _ _ _ (@aY _ _ _ _ _ _ _ _ (@bA _ _ _ _ _ _ _ _ _ (@GE.sc _ _ _ _ _ _ _ (@qN _ _ _ _ _ _ _ _ _ _ _ _ _ (aP aIe (hr.mono (by decide)) (by rfl) (aD (aB 0) (aD (aB 1) aF))) (@sK _ _ _ _ _ _ _ _ _ (@jR _ _ _ _ _ _ _ _ _ _ _ _ hu (XB (by rfl) (by rfl) aHm (aD (aB 1) aF)) (@WX _ _ _ _ _ _ _ _ _ _ _ _ (by rfl) (by rfl) (by rfl) (by rfl) aI4 (by rfl) aH1 (aD (aB 0) aF) (by rfl) (by rfl)))))) (by rfl)))
theorem aBc {fd:FuncData}(aIe:Cal P w K mg base "is_row" 2 ["hands","value"] mC false 3) (aHm:mg "sorted" = none) (aI4:mg "list" = none) (aH1:mg "range" = none) (Fu:Fun K "is_order" "is_order" pM f fd):
  FnOk P w K mg base CX0 3 f fd ["hands","value"] (spT K kZ false 3):=
 gfn Fu aEs rfl (by decide) (fun ts t h=>bB h) (fun cdv A outer s H E hr=>@UU _ _ _ _ _ _ aIe aHm aI4 aH1 cdv A outer s H E hr) (fun ts t h=>bC h)
abbrev pK:Stmt:=top 40
theorem MY:FnScope ["table","shares","mix","hands"] ["table","shares","mix"] (defScope pK):=⟨rfl,rfl,rfl,by decide +kernel,rfl,by decide +kernel,by decide +kernel⟩
def yV:Rho->Option T:=
 f1 (kJ (f2 (aA 1) (fC (.int 1)) oGe) (aG (aC (aA 2) (aC (aA 0) aE)) kZ)) aZ
def yW:Rho->Option T:=
 f2 (aA 0) (aG (aC (aA 1) aE) fU) bG
def vA:Rho->Option Out:=
 aH (aQ 3 (f1 (aG (aC (aA 0) aE) cR) aZ))
  (aH (rIf (pOr (fB (f2 (aG (aC (aA 2) aE) dN) (fC (.int 0)) oEq)) (rC (fT (aG (aC (eB [0,1] (fL (aA 2)) [none,none,some 3] aR yV) aE) qW)))) (aU (fC (.bl false))) bW)
  (aU (f2 (aG (aC (aA 0) (aC (aA 2) aE)) cS) (cA (fFL (aA 1)) [none,some 2] aR yW) oEq)))
def gF:List T->Option T:=Fof 3 1 vA
theorem QK (t0 t1 t2:T):gF [t0,t1,t2]=(vA [some t0,some t1,some t2,none]).bind bF:=rfl
theorem US (aH3:Cal P w K mg base "hand_count" 1 ["table"] cR false 3) (aI7:Cal P w K mg base "is_order" 3 ["hands","value"] kZ false 3) (aH8:Cal P w K mg base "mix_row" 3 ["table","mix"] cS true 3) (aHf:Cal P w K mg base "mix_size" 1 ["mix"] fU false 3) (aH2:mg "len" = none) (aHr:mg "all" = none) (cdv:Value) (A:Around) (outer:List Env) (s:Shared) (H:Hp) (E:XK)
  (hr:Room 3 (A.deeper (envOfC "is_mix" (defScope pK) s.heap.objs.size f cdv))):
  GSs (aW CX0 P w K mg base ["table","shares","mix","hands"] "is_mix" (defScope pK) f cdv A outer s H E).nox H [1,1,1,1] false 3 (defBody pK) vA:=by
 have hu:=hr.units;unfold vA yW yV;exact @aJ _ _ _ _ _ _ _ _ _ (@aX _ _ _ _ _ _ _ _ _ _ _ _ 3 (@GE.sc _ _ _ _ _ _ _ (aP aH3 (hr.mono (by decide)) (by rfl) (aD (aB 0) aF))) MY.nd (by rfl) (Or.inr (by rfl)) (by rfl) (by rfl) (by trivial)) (@aJ _ _ _ _ _ _ _ _ _ (@cI _ _ _ _ _ _ _ _ _ _ _ _ (@GW.gt _ _ _ _ _ (@JE _ _ _ _ _ _ _ _ _ (@jV _ _ _ _ _ _ _ _ _ _ _ _ hu (eM (by rfl) (by rfl) aH2 (aD (aB 2) aF)) ge_int) (@JF _ _ _ _ _ _ (@BX _ _ _ _ _ _ (@jW _ _ _ _ _ _ _ (BA (by rfl) (by rfl) (by rfl) aHr (aD (@qO _ _ _ _ _ _ _ _ _ _ _ _ _ _ _ _ _ _ _ _ _ _ _ (cG (by kernel_rfl) (N':=[ "order" ,"many" ,"hands" ]) (src:=[ none ,none ,some 3 ])) (jO (by kernel_rfl) (fl':=[ 1 ,1 ,1 ]) (js:=[ 0 ,1 ])) (by decide) (by rfl) (@jT _ _ _ _ _ _ _ _ (aB 2)) (fun cl C s H ex=>@pgT _ _ _ (2) _ _ (by rfl) (@cH _ _ _ _ _ _ (cX (by kernel_rfl)) (by rfl) (Or.inl (by rfl)) (@cH _ _ _ _ _ _ (cX (by kernel_rfl)) (by rfl) (Or.inl (by rfl)) (@fY _) (by trivial) (by rfl)) (by trivial) (by rfl)) (by rfl) (by rfl)) (by rfl) (fun cl C s H ex=>⟨cW,@GE.sc _ _ _ _ _ _ _ (@qN _ _ _ _ _ _ _ _ _ _ _ _ _ (@WT _ _ _ _ _ _ _ _ _ _ _ _ (aB 1) ge_int) (@sK _ _ _ _ _ _ _ _ _ (aP aI7 (hr.mono (by decide)) (by rfl) (aD (aB 2) (aD (aB 0) aF)))))⟩) (by intro _;rfl)) aF)) (by intro _;rfl)))))) (@aK _ _ _ _ _ _ _ (@aY _ _ _ _ _ _ _ _ (@bA _ _ _ _ _ _ _ _ _ jQ (by rfl)))) cJ) (@aK _ _ _ _ _ _ _ (@aY _ _ _ _ _ _ _ _ (@bA _ _ _ _ _ _ _ _ _ (@jR _ _ _ _ _ _ _ _ _ _ _ _ hu (aP aH8 (hr.mono (by decide)) (by rfl) (aD (aB 0) (aD (aB 2) aF))) (@hV _ _ _ _ _ _ _ _ _ _ _ _ _ _ _ _ _ _ _ _ (cG (by kernel_rfl) (N':=[ "share" ,"mix" ]) (src:=[ none ,some 2 ])) (eK (by kernel_rfl) (fl':=[ 2 ,1 ])) (by decide) (by rfl) (fX (aB 1)) (by rfl) (by rfl) (fun cl C s H ex=>⟨cW,@cL _ _ _ _ _ _ _ _ _ _ _ _ (aB 0) (aP aHf (hr.mono (by decide)) (by rfl) (aD (aB 1) aF))⟩) (by intro _;rfl))) (by rfl)))))
theorem aBa {fd:FuncData}(aH3:Cal P w K mg base "hand_count" 1 ["table"] cR false 3) (aI7:Cal P w K mg base "is_order" 3 ["hands","value"] kZ false 3) (aH8:Cal P w K mg base "mix_row" 3 ["table","mix"] cS true 3) (aHf:Cal P w K mg base "mix_size" 1 ["mix"] fU false 3) (aH2:mg "len" = none) (aHr:mg "all" = none) (Fu:Fun K "is_mix" "is_mix" pK f fd):
  FnOk P w K mg base CX0 4 f fd ["table","shares","mix"] (spT K gF false 3):=
 gfn Fu MY rfl (by decide) (fun ts t h=>bB h) (fun cdv A outer s H E hr=>@US _ _ _ _ _ _ aH3 aI7 aH8 aHf aH2 aHr cdv A outer s H E hr) (fun ts t h=>bC h)
abbrev qC:Stmt:=top 17
theorem aF3:FnScope ["table","one","other"] ["table","one","other"] (defScope qC):=⟨rfl,rfl,rfl,by decide +kernel,rfl,by decide +kernel,by decide +kernel⟩
def vV:Rho->Option Out:=
 aU (f2 (f2 (f2 (aA 0) (aA 1) oIx) (f2 (aA 0) (aA 2) oIx) dW) (f2 (f2 (aA 0) (f2 (aA 1) (aA 2) oOr) oIx) (f2 (aA 0) (f2 (aA 1) (aA 2) jC) oIx) dW) oLt)
def mJ:List T->Option T:=Fof 3 0 vV
theorem RO (t0 t1 t2:T):mJ [t0,t1,t2]=(vV [some t0,some t1,some t2]).bind bF:=rfl
theorem VM (cdv:Value) (A:Around) (outer:List Env) (s:Shared) (H:Hp) (E:XK)
  (hr:Room 0 (A.deeper (envOfC "two_break" (defScope qC) s.heap.objs.size f cdv))):
  GSs (aW CX0 P w K mg base ["table","one","other"] "two_break" (defScope qC) f cdv A outer s H E).nox H [1,1,1] false 3 (defBody qC) vV:=by
 have hu:=hr.units;unfold vV;exact @aK _ _ _ _ _ _ _ (@aY _ _ _ _ _ _ _ _ (@bA _ _ _ _ _ _ _ _ _ (@ID _ _ _ _ _ _ _ _ _ _ _ _ (@eL _ _ _ _ _ _ _ _ _ _ _ _ (@bK _ _ _ _ _ _ _ _ _ _ _ _ (aB 0) (aB 1) (by exact fun _ _=>rfl)) (@bK _ _ _ _ _ _ _ _ _ _ _ _ (aB 0) (aB 2) (by exact fun _ _=>rfl))) (@eL _ _ _ _ _ _ _ _ _ _ _ _ (@bK _ _ _ _ _ _ _ _ _ _ _ _ (aB 0) (@wZ _ _ _ _ _ _ _ _ _ _ _ _ (aB 1) (aB 2)) (by exact fun _ _=>rfl)) (@bK _ _ _ _ _ _ _ _ _ _ _ _ (aB 0) (@mR _ _ _ _ _ _ _ _ _ _ _ _ (aB 1) (aB 2)) (by exact fun _ _=>rfl)))) (by rfl)))
theorem aBt {fd:FuncData}(Fu:Fun K "two_break" "two_break" qC f fd):
  FnOk P w K mg base CX0 1 f fd ["table","one","other"] (spT K mJ false 3):=
 gfn Fu aF3 rfl (by decide) (fun ts t h=>bB h) (fun cdv A outer s H E hr=>@VM _ _ _ _ _ _  cdv A outer s H E hr) (fun ts t h=>bC h)
abbrev nX:Stmt:=top 18
theorem vZ:FnScope ["table","group","outside","place","first","second"] ["table","group"] (defScope nX):=⟨rfl,rfl,rfl,by decide +kernel,rfl,by decide +kernel,by decide +kernel⟩
def rH:Rho->Option Out:=
 rIf (fT (aG (aC (aA 0) (aC (f2 (aA 1) (f2 (fC (.int 1)) (aA 4) eE) oOr) (aC (f2 (aA 1) (f2 (fC (.int 1)) (aA 5) eE) oOr) aE))) mJ)) (aU (dM (aC (f1 (aA 1) aZ) (aC (f1 (aA 4) aZ) (aC (f1 (aA 5) aZ) aE))))) bW
def uP:Rho->Option Out:=
 dG 5 (fFL (wS (aA 2) (rB (f2 (aA 3) (fC (.int 1)) dW)) tD tD))
  rH
def uO:Rho->Option Out:=
 aH (aQ 2 (aG (aC (f2 (aG (aC (aA 0) aE) fS) (aA 1) CU) aE) eS))
  (aH (tT [3,4] (mO (fFL (aA 2)))
  uP)
  (aU (fC .non)))
def kQ:List T->Option T:=Fof 2 4 uO
theorem PH (t0 t1:T):kQ [t0,t1]=(uO [some t0,some t1,none,none,none,none]).bind bF:=rfl
theorem UF (aHc:Cal P w K mg base "everybody" 1 ["table"] fS false 3) (aH7:Cal P w K mg base "hands_in" 1 ["group"] eS true 3) (aI3:Cal P w K mg base "two_break" 1 ["table","one","other"] mJ false 3) (aH5:mg "enumerate" = none) (cdv:Value) (A:Around) (outer:List Env) (s:Shared) (H:Hp) (E:XK)
  (hr:Room 1 (A.deeper (envOfC "break_beside" (defScope nX) s.heap.objs.size f cdv))):
  GSs (aW CX0 P w K mg base ["table","group","outside","place","first","second"] "break_beside" (defScope nX) f cdv A outer s H E).nox H [1,1,1,1,1,1] false 3 (defBody nX) uO:=by
 have hu:=hr.units;unfold uO uP rH;exact @aJ _ _ _ _ _ _ _ _ _ (@aX _ _ _ _ _ _ _ _ _ _ _ _ 2 (aP aH7 (hr.mono (by decide)) (by rfl) (aD (@XC _ _ _ _ _ _ _ _ _ _ _ _ (aP aHc (hr.mono (by decide)) (by rfl) (aD (aB 0) aF)) (aB 1)) aF)) vZ.nd (by rfl) (Or.inl (by rfl)) (by rfl) (by rfl) (by trivial)) (@aJ _ _ _ _ _ _ _ _ _ (@BP _ _ _ _ _ _ _ _ _ _ _ [3 ,4] _ _ _ _ _ PassesOwn.never (by rfl) (@BG _ _ _ _ _ _ _ _ _ _ _ _ _ (by rfl) (by rfl) aH5 (aB 2) (by rfl)) (@cH _ _ _ _ _ _ vZ.nd (by rfl) (Or.inl (by rfl)) (@cH _ _ _ _ _ _ vZ.nd (by rfl) (Or.inl (by rfl)) (@fY _) (by trivial) (by rfl)) (by trivial) (by rfl)) (@aK _ _ _ _ _ _ _ (@dS _ _ _ _ _ _ _ _ _ 5 _ _ _ _ _ PassesOwn.never (by rfl) (fX (@IG _ _ _ _ _ _ _ _ _ _ _ _ _ _ _ (aB 2) (@BM _ _ _ _ _ _ _ (@eL _ _ _ _ _ _ _ _ _ _ _ _ (aB 3) ge_int)) BL BL (by intro _ _;first | exact⟨_,rfl⟩ | (refine⟨_,?_⟩;with_unfolding_all rfl)))) vZ.nd (by rfl) (Or.inl (by rfl)) (@aK _ _ _ _ _ _ _ (@cI _ _ _ _ _ _ _ _ _ _ _ _ (@jW _ _ _ _ _ _ _ (aP aI3 (hr.mono (by decide)) (by rfl) (aD (aB 0) (aD (@wZ _ _ _ _ _ _ _ _ _ _ _ _ (aB 1) (@gM _ _ _ _ _ _ _ _ _ _ _ _ ge_int (aB 4))) (aD (@wZ _ _ _ _ _ _ _ _ _ _ _ _ (aB 1) (@gM _ _ _ _ _ _ _ _ _ _ _ _ ge_int (aB 5))) aF)))) (by intro _;rfl)) (@aK _ _ _ _ _ _ _ (@aY _ _ _ _ _ _ _ _ (@BN _ _ _ _ _ _ _ _ _ (@mV _ _ _ _ _ _ _ _ (@bA _ _ _ _ _ _ _ _ _ (@GE.sc _ _ _ _ _ _ _ (aB 1)) (by rfl)) (@mV _ _ _ _ _ _ _ _ (@bA _ _ _ _ _ _ _ _ _ (@GE.sc _ _ _ _ _ _ _ (aB 4)) (by rfl)) (@mV _ _ _ _ _ _ _ _ (@bA _ _ _ _ _ _ _ _ _ (@GE.sc _ _ _ _ _ _ _ (aB 5)) (by rfl)) BO (by rfl) (by rfl)) (by rfl) (by rfl)) (by rfl) (by rfl)) (by rfl)))) cJ)) (by rfl) (by intro _;rfl) (by trivial))) (by rfl) (by rfl) (by rfl) (by rfl) (by rfl) (by intro _;rfl)) (@aK _ _ _ _ _ _ _ (@aY _ _ _ _ _ _ _ _ (@bA _ _ _ _ _ _ _ _ _ qP (by rfl)))))
theorem aAx {fd:FuncData}(aHc:Cal P w K mg base "everybody" 1 ["table"] fS false 3) (aH7:Cal P w K mg base "hands_in" 1 ["group"] eS true 3) (aI3:Cal P w K mg base "two_break" 1 ["table","one","other"] mJ false 3) (aH5:mg "enumerate" = none) (Fu:Fun K "break_beside" "break_beside" nX f fd):
  FnOk P w K mg base CX0 2 f fd ["table","group"] (spT K kQ false 3):=
 gfn Fu vZ rfl (by decide) (fun ts t h=>bB h) (fun cdv A outer s H E hr=>@UF _ _ _ _ _ _ aHc aH7 aI3 aH5 cdv A outer s H E hr) (fun ts t h=>bC h)
abbrev nY:Stmt:=top 19
theorem DV:FnScope ["table","group","found"] ["table"] (defScope nY):=⟨rfl,rfl,rfl,by decide +kernel,rfl,by decide +kernel,by decide +kernel⟩
def yO:Rho->Option Out:=
 aH (aQ 2 (f1 (aG (aC (aA 0) (aC (aA 1) aE)) kQ) aZ))
  (rIf (fB (f2 (aA 2) (fC .non) xR)) (aU (f1 (aA 2) aZ)) bW)
def uQ:Rho->Option Out:=
 aH (dG 1 (cV (aC (aG (aC (aA 0) aE) dN) aE) dO)
  yO)
  (aU (fC .non))
def kR:List T->Option T:=Fof 1 2 uQ
theorem PJ (t0:T):kR [t0]=(uQ [some t0,none,none]).bind bF:=rfl
theorem UG (aHq:Cal P w K mg base "break_beside" 2 ["table","group"] kQ false 3) (aH2:mg "len" = none) (aH1:mg "range" = none) (cdv:Value) (A:Around) (outer:List Env) (s:Shared) (H:Hp) (E:XK)
  (hr:Room 2 (A.deeper (envOfC "break_of" (defScope nY) s.heap.objs.size f cdv))):
  GSs (aW CX0 P w K mg base ["table","group","found"] "break_of" (defScope nY) f cdv A outer s H E).nox H [1,1,1] false 3 (defBody nY) uQ:=by
 have hu:=hr.units;unfold uQ yO;exact @aJ _ _ _ _ _ _ _ _ _ (@dS _ _ _ _ _ _ _ _ _ 1 _ _ _ _ _ PassesOwn.never (by rfl) (eV (by rfl) (by rfl) aH1 (aD (eM (by rfl) (by rfl) aH2 (aD (aB 0) aF)) aF)) DV.nd (by rfl) (Or.inl (by rfl)) (@aJ _ _ _ _ _ _ _ _ _ (@aX _ _ _ _ _ _ _ _ _ _ _ _ 2 (@GE.sc _ _ _ _ _ _ _ (aP aHq (hr.mono (by decide)) (by rfl) (aD (aB 0) (aD (aB 1) aF)))) DV.nd (by rfl) (Or.inl (by rfl)) (by rfl) (by rfl) (by trivial)) (@aK _ _ _ _ _ _ _ (@cI _ _ _ _ _ _ _ _ _ _ _ _ (@XV _ _ _ _ _ _ _ _ _ _ _ _ (aB 2) qP) (@aK _ _ _ _ _ _ _ (@aY _ _ _ _ _ _ _ _ (@bA _ _ _ _ _ _ _ _ _ (@GE.sc _ _ _ _ _ _ _ (aB 2)) (by rfl)))) cJ))) (by rfl) (by intro _;rfl) (by trivial)) (@aK _ _ _ _ _ _ _ (@aY _ _ _ _ _ _ _ _ (@bA _ _ _ _ _ _ _ _ _ qP (by rfl))))
theorem aAy {fd:FuncData}(aHq:Cal P w K mg base "break_beside" 2 ["table","group"] kQ false 3) (aH2:mg "len" = none) (aH1:mg "range" = none) (Fu:Fun K "break_of" "break_of" nY f fd):
  FnOk P w K mg base CX0 3 f fd ["table"] (spT K kR false 3):=
 gfn Fu DV rfl (by decide) (fun ts t h=>bB h) (fun cdv A outer s H E hr=>@UG _ _ _ _ _ _ aHq aH2 aH1 cdv A outer s H E hr) (fun ts t h=>bC h)
abbrev pD:Stmt:=top 20
theorem aEm:FnScope ["table"] ["table"] (defScope pD):=⟨rfl,rfl,rfl,by decide +kernel,rfl,by decide +kernel,by decide +kernel⟩
def uU:Rho->Option Out:=
 aU (f2 (aG (aC (aA 0) aE) kR) (fC .non) oIs)
def jL:List T->Option T:=Fof 1 0 uU
theorem QA (t0:T):jL [t0]=(uU [some t0]).bind bF:=rfl
theorem UL (aI5:Cal P w K mg base "break_of" 3 ["table"] kR false 3) (cdv:Value) (A:Around) (outer:List Env) (s:Shared) (H:Hp) (E:XK)
  (hr:Room 3 (A.deeper (envOfC "falls" (defScope pD) s.heap.objs.size f cdv))):
  GSs (aW CX0 P w K mg base ["table"] "falls" (defScope pD) f cdv A outer s H E).nox H [1] false 3 (defBody pD) uU:=by
 have hu:=hr.units;unfold uU;exact @aK _ _ _ _ _ _ _ (@aY _ _ _ _ _ _ _ _ (@bA _ _ _ _ _ _ _ _ _ (@WW _ _ _ _ _ _ _ _ _ _ _ _ (aP aI5 (hr.mono (by decide)) (by rfl) (aD (aB 0) aF)) qP) (by rfl)))
theorem aB3 {fd:FuncData}(aI5:Cal P w K mg base "break_of" 3 ["table"] kR false 3) (Fu:Fun K "falls" "falls" pD f fd):
  FnOk P w K mg base CX0 4 f fd ["table"] (spT K jL false 3):=
 gfn Fu aEm rfl (by decide) (fun ts t h=>bB h) (fun cdv A outer s H E hr=>@UL _ _ _ _ _ _ aI5 cdv A outer s H E hr) (fun ts t h=>bC h)
abbrev pX:Stmt:=top 21
theorem aF0:FnScope ["table"] ["table"] (defScope pX):=⟨rfl,rfl,rfl,by decide +kernel,rfl,by decide +kernel,by decide +kernel⟩
def vP:Rho->Option Out:=
 rIf (rC (fT (aG (aC (aA 0) aE) jL))) tU bW
def mG:List T->Option T:=Fof 1 0 vP
theorem RD (t0:T):mG [t0]=(vP [some t0]).bind bF:=rfl
theorem VG (aIg:Cal P w K mg base "falls" 4 ["table"] jL false 3) (cdv:Value) (A:Around) (outer:List Env) (s:Shared) (H:Hp) (E:XK)
  (hr:Room 4 (A.deeper (envOfC "must_fall" (defScope pX) s.heap.objs.size f cdv))):
  GSs (aW CX0 P w K mg base ["table"] "must_fall" (defScope pX) f cdv A outer s H E).nox H [1] false 3 (defBody pX) vP:=by
 have hu:=hr.units;unfold vP;exact @aK _ _ _ _ _ _ _ (@cI _ _ _ _ _ _ _ _ _ _ _ _ (@BX _ _ _ _ _ _ (@jW _ _ _ _ _ _ _ (aP aIg (hr.mono (by decide)) (by rfl) (aD (aB 0) aF)) (by intro _;rfl))) (@aK _ _ _ _ _ _ _ BQ) cJ)
theorem aBo {fd:FuncData}(aIg:Cal P w K mg base "falls" 4 ["table"] jL false 3) (Fu:Fun K "must_fall" "must_fall" pX f fd):
  FnOk P w K mg base CX0 5 f fd ["table"] (spT K mG false 3):=
 gfn Fu aF0 rfl (by decide) (fun ts t h=>bB h) (fun cdv A outer s H E hr=>@VG _ _ _ _ _ _ aIg cdv A outer s H E hr) (fun ts t h=>bC h)
abbrev qA:Stmt:=top 14
theorem aF2:FnScope ["many","table"] ["many","table"] (defScope qA):=⟨rfl,rfl,rfl,by decide +kernel,rfl,by decide +kernel,by decide +kernel⟩
def zF:Rho->Option T:=
 f2 (aA 1) (aA 0) bG
def vS:Rho->Option Out:=
 aU (cA (fFL (aA 1)) [none,some 0] aR zF)
def gG:List T->Option T:=Fof 2 0 vS
theorem RJ (t0 t1:T):gG [t0,t1]=(vS [some t0,some t1]).bind bF:=rfl
theorem VJ (cdv:Value) (A:Around) (outer:List Env) (s:Shared) (H:Hp) (E:XK)
  (hr:Room 0 (A.deeper (envOfC "scaled" (defScope qA) s.heap.objs.size f cdv))):
  GSs (aW CX0 P w K mg base ["many","table"] "scaled" (defScope qA) f cdv A outer s H E).nox H [1,1] true 3 (defBody qA) vS:=by
 have hu:=hr.units;unfold vS zF;exact @aK _ _ _ _ _ _ _ (@aY _ _ _ _ _ _ _ _ (@bA _ _ _ _ _ _ _ _ _ (@hV _ _ _ _ _ _ _ _ _ _ _ _ _ _ _ _ _ _ _ _ (cG (by kernel_rfl) (N':=[ "cost" ,"many" ]) (src:=[ none ,some 0 ])) (eK (by kernel_rfl) (fl':=[ 2 ,1 ])) (by decide) (by rfl) (fX (aB 1)) (by rfl) (by rfl) (fun cl C s H ex=>⟨cW,@cL _ _ _ _ _ _ _ _ _ _ _ _ (aB 1) (aB 0)⟩) (by intro _;rfl)) (by rfl)))
theorem aBr {fd:FuncData}(Fu:Fun K "scaled" "scaled" qA f fd):
  FnOk P w K mg base CX0 1 f fd ["many","table"] (spT K gG true 3):=
 gfn Fu aF2 rfl (by decide) (fun ts t h=>bB h) (fun cdv A outer s H E hr=>@VJ _ _ _ _ _ _  cdv A outer s H E hr) (fun ts t h=>bC h)
abbrev pG:Stmt:=top 34
theorem aEo:FnScope ["table","shares"] ["table","shares"] (defScope pG):=⟨rfl,rfl,rfl,by decide +kernel,rfl,by decide +kernel,by decide +kernel⟩
def yU:Rho->Option Bool:=
 fB (f2 (aA 1) (fC (.int 0)) oEq)
def yT:Rho->Option T:=
 f1 (aA 0) aZ
def uX:Rho->Option Out:=
 aU (eB [0,1] (mO (fFL (aG (aC (aA 0) (aC (aA 1) aE)) eJ))) [none,none] yU yT)
def kY:List T->Option T:=Fof 2 0 uX
theorem QG (t0 t1:T):kY [t0,t1]=(uX [some t0,some t1]).bind bF:=rfl
theorem UO (aH6:Cal P w K mg base "less_row" 3 ["table","row"] eJ true 3) (aH5:mg "enumerate" = none) (cdv:Value) (A:Around) (outer:List Env) (s:Shared) (H:Hp) (E:XK)
  (hr:Room 3 (A.deeper (envOfC "full_groups" (defScope pG) s.heap.objs.size f cdv))):
  GSs (aW CX0 P w K mg base ["table","shares"] "full_groups" (defScope pG) f cdv A outer s H E).nox H [1,1] true 3 (defBody pG) uX:=by
 have hu:=hr.units;unfold uX yT yU;exact @aK _ _ _ _ _ _ _ (@aY _ _ _ _ _ _ _ _ (@bA _ _ _ _ _ _ _ _ _ (@qO _ _ _ _ _ _ _ _ _ _ _ _ _ _ _ _ _ _ _ _ _ _ _ (cG (by kernel_rfl) (N':=[ "group" ,"spare" ]) (src:=[ none ,none ])) (jO (by kernel_rfl) (fl':=[ 2 ,2 ]) (js:=[ 0 ,1 ])) (by decide) (by rfl) (@BG _ _ _ _ _ _ _ _ _ _ _ _ _ (by rfl) (by rfl) aH5 (aP aH6 (hr.mono (by decide)) (by rfl) (aD (aB 0) (aD (aB 1) aF))) (by rfl)) (fun cl C s H ex=>@pgT _ _ _ (2) _ _ (by rfl) (@cH _ _ _ _ _ _ (cX (by kernel_rfl)) (by rfl) (Or.inl (by rfl)) (@cH _ _ _ _ _ _ (cX (by kernel_rfl)) (by rfl) (Or.inl (by rfl)) (@fY _) (by trivial) (by rfl)) (by trivial) (by rfl)) (by rfl) (by rfl)) (by rfl) (fun cl C s H ex=>⟨@BJ _ _ _ _ _ (@jV _ _ _ _ _ _ _ _ _ _ _ _ hu (aB 1) ge_int),@GE.sc _ _ _ _ _ _ _ (aB 0)⟩) (by intro _;rfl)) (by rfl)))
theorem aB6 {fd:FuncData}(aH6:Cal P w K mg base "less_row" 3 ["table","row"] eJ true 3) (aH5:mg "enumerate" = none) (Fu:Fun K "full_groups" "full_groups" pG f fd):
  FnOk P w K mg base CX0 4 f fd ["table","shares"] (spT K kY true 3):=
 gfn Fu aEo rfl (by decide) (fun ts t h=>bB h) (fun cdv A outer s H E hr=>@UO _ _ _ _ _ _ aH6 aH5 cdv A outer s H E hr) (fun ts t h=>bC h)
abbrev qD:Stmt:=top 8
theorem aF4:FnScope ["one","other"] ["one","other"] (defScope qD):=⟨rfl,rfl,rfl,by decide +kernel,rfl,by decide +kernel,by decide +kernel⟩
def vW:Rho->Option Out:=
 aU (f2 (f2 (aA 0) (aA 1) jC) (aA 0) oEq)
def mK:List T->Option T:=Fof 2 0 vW
theorem RS (t0 t1:T):mK [t0,t1]=(vW [some t0,some t1]).bind bF:=rfl
theorem VN (cdv:Value) (A:Around) (outer:List Env) (s:Shared) (H:Hp) (E:XK)
  (hr:Room 0 (A.deeper (envOfC "within" (defScope qD) s.heap.objs.size f cdv))):
  GSs (aW CX0 P w K mg base ["one","other"] "within" (defScope qD) f cdv A outer s H E).nox H [1,1] false 3 (defBody qD) vW:=by
 have hu:=hr.units;unfold vW;exact @aK _ _ _ _ _ _ _ (@aY _ _ _ _ _ _ _ _ (@bA _ _ _ _ _ _ _ _ _ (@jR _ _ _ _ _ _ _ _ _ _ _ _ hu (@mR _ _ _ _ _ _ _ _ _ _ _ _ (aB 0) (aB 1)) (aB 0)) (by rfl)))
theorem aBu {fd:FuncData}(Fu:Fun K "within" "within" qD f fd):
  FnOk P w K mg base CX0 1 f fd ["one","other"] (spT K mK false 3):=
 gfn Fu aF4 rfl (by decide) (fun ts t h=>bB h) (fun cdv A outer s H E hr=>@VN _ _ _ _ _ _  cdv A outer s H E hr) (fun ts t h=>bC h)
abbrev qB:Stmt:=top 9
theorem zK:FnScope ["groups","hand","shared","group"] ["groups","hand"] (defScope qB):=⟨rfl,rfl,rfl,by decide +kernel,rfl,by decide +kernel,by decide +kernel⟩
def vU:Rho->Option Out:=
 rIf (fT (aG (aC (f2 (fC (.int 1)) (aA 1) eE) (aC (aA 3) aE)) mK)) (aQ 2 (fIf (fB (f2 (aA 2) (fC .non) oIs)) (f1 (aA 3) aZ) (f2 (aA 2) (aA 3) jC))) bW
def vT:Rho->Option Out:=
 aH (aQ 2 (fC .non))
  (aH (dG 3 (fFL (aA 0))
  vU)
  (aU (f1 (aA 2) aZ)))
def mI:List T->Option T:=Fof 2 2 vT
theorem RL (t0 t1:T):mI [t0,t1]=(vT [some t0,some t1,none,none]).bind bF:=rfl
theorem VL (aIf:Cal P w K mg base "within" 1 ["one","other"] mK false 3) (cdv:Value) (A:Around) (outer:List Env) (s:Shared) (H:Hp) (E:XK)
  (hr:Room 1 (A.deeper (envOfC "shared_with" (defScope qB) s.heap.objs.size f cdv))):
  GSs (aW CX0 P w K mg base ["groups","hand","shared","group"] "shared_with" (defScope qB) f cdv A outer s H E).nox H [1,1,1,1] false 3 (defBody qB) vT:=by
 have hu:=hr.units;unfold vT vU;exact @aJ _ _ _ _ _ _ _ _ _ (@aX _ _ _ _ _ _ _ _ _ _ _ _ 2 qP zK.nd (by rfl) (Or.inl (by rfl)) (by rfl) (by rfl) (by trivial)) (@aJ _ _ _ _ _ _ _ _ _ (@dS _ _ _ _ _ _ _ _ _ 3 _ _ _ _ _ PassesOwn.never (by rfl) (fX (aB 0)) zK.nd (by rfl) (Or.inl (by rfl)) (@aK _ _ _ _ _ _ _ (@cI _ _ _ _ _ _ _ _ _ _ _ _ (@jW _ _ _ _ _ _ _ (aP aIf (hr.mono (by decide)) (by rfl) (aD (@gM _ _ _ _ _ _ _ _ _ _ _ _ ge_int (aB 1)) (aD (aB 3) aF))) (by intro _;rfl)) (@aK _ _ _ _ _ _ _ (@aX _ _ _ _ _ _ _ _ _ _ _ _ 2 (@WU _ _ _ _ _ _ _ _ _ _ _ _ (@XU _ _ _ _ _ _ _ _ _ _ _ _ (aB 2) qP) (@GE.sc _ _ _ _ _ _ _ (aB 3)) (@mR _ _ _ _ _ _ _ _ _ _ _ _ (aB 2) (aB 3))) zK.nd (by rfl) (Or.inl (by rfl)) (by rfl) (by rfl) (by trivial))) cJ)) (by rfl) (by intro _;rfl) (by trivial)) (@aK _ _ _ _ _ _ _ (@aY _ _ _ _ _ _ _ _ (@bA _ _ _ _ _ _ _ _ _ (@GE.sc _ _ _ _ _ _ _ (aB 2)) (by rfl)))))
theorem aBs {fd:FuncData}(aIf:Cal P w K mg base "within" 1 ["one","other"] mK false 3) (Fu:Fun K "shared_with" "shared_with" qB f fd):
  FnOk P w K mg base CX0 2 f fd ["groups","hand"] (spT K mI false 3):=
 gfn Fu zK rfl (by decide) (fun ts t h=>bB h) (fun cdv A outer s H E hr=>@VL _ _ _ _ _ _ aIf cdv A outer s H E hr) (fun ts t h=>bC h)
abbrev pR:Stmt:=top 7
theorem aEx:FnScope ["group"] ["group"] (defScope pR):=⟨rfl,rfl,rfl,by decide +kernel,rfl,by decide +kernel,by decide +kernel⟩
def DR:Rho->Option Out:=
 aU (aG (aC (aG (aC (aA 0) aE) eS) aE) dN)
def gZ:List T->Option T:=Fof 1 0 DR
theorem VA (aH7:Cal P w K mg base "hands_in" 1 ["group"] eS true 3) (aH2:mg "len" = none) (cdv:Value) (A:Around) (outer:List Env) (s:Shared) (H:Hp) (E:XK)
  (hr:Room 1 (A.deeper (envOfC "many_in" (defScope pR) s.heap.objs.size f cdv))):
  GSs (aW CX0 P w K mg base ["group"] "many_in" (defScope pR) f cdv A outer s H E).nox H [1] false 3 (defBody pR) DR:=by
 have hu:=hr.units;unfold DR;exact @aK _ _ _ _ _ _ _ (@aY _ _ _ _ _ _ _ _ (@bA _ _ _ _ _ _ _ _ _ (eM (by rfl) (by rfl) aH2 (aD (aP aH7 (hr.mono (by decide)) (by rfl) (aD (aB 0) aF)) aF)) (by rfl)))
theorem aBi {fd:FuncData}(aH7:Cal P w K mg base "hands_in" 1 ["group"] eS true 3) (aH2:mg "len" = none) (Fu:Fun K "many_in" "many_in" pR f fd):
  FnOk P w K mg base CX0 2 f fd ["group"] (spT K gZ false 3):=
 gfn Fu aEx rfl (by decide) (fun ts t h=>bB h) (fun cdv A outer s H E hr=>@VA _ _ _ _ _ _ aH7 aH2 cdv A outer s H E hr) (fun ts t h=>bC h)
abbrev pB:Stmt:=top 41
theorem DW:FnScope ["table","shares","full","cores"] ["table","shares"] (defScope pB):=⟨rfl,rfl,rfl,by decide +kernel,rfl,by decide +kernel,by decide +kernel⟩
def yS:Rho->Option T:=
 f1 (aG (aC (aA 1) (aC (aA 0) aE)) mI) aZ
def uT:Rho->Option Out:=
 aH (aQ 2 (aG (aC (aA 0) (aC (aA 1) aE)) kY))
  (aH (aQ 3 (cA (cV (aC (aG (aC (aA 1) aE) dN) aE) dO) [none,some 2] aR yS))
  (aU (AT (aC (aG (aC (aA 1) aE) dN) aE) 3 gZ)))
def kU:List T->Option T:=Fof 2 2 uT
theorem PP (t0 t1:T):kU [t0,t1]=(uT [some t0,some t1,none,none]).bind bF:=rfl
theorem UJ (LK:LamK K mg cq Pt bm) (aHu:Cal P w K mg base "full_groups" 4 ["table","shares"] kY true 3) (aHv:Cal P w K mg base "shared_with" 2 ["groups","hand"] mI false 3) (aIc:Cal P w K mg base "many_in" 2 ["group"] gZ false 3) (aH2:mg "len" = none) (aH1:mg "range" = none) (aHm:mg "sorted" = none) (A:Around) (outer:List Env) (s:Shared) (H:Hp) (E:XK) (hP:H Pt=some eQ)
  (hr:Room 5 (A.deeper (envOfC "core_order" (defScope pB) s.heap.objs.size f (.ref cq)))):
  GSs (aW CX0 P w K mg base ["table","shares","full","cores"] "core_order" (defScope pB) f (.ref cq) A outer s H E).nox H [1,1,1,1] true 3 (defBody pB) uT:=by
 have hu:=hr.units;unfold uT yS;exact @aJ _ _ _ _ _ _ _ _ _ (@aX _ _ _ _ _ _ _ _ _ _ _ _ 2 (aP aHu (hr.mono (by decide)) (by rfl) (aD (aB 0) (aD (aB 1) aF))) DW.nd (by rfl) (Or.inr (by rfl)) (by rfl) (by rfl) (by trivial)) (@aJ _ _ _ _ _ _ _ _ _ (@aX _ _ _ _ _ _ _ _ _ _ _ _ 3 (@hV _ _ _ _ _ _ _ _ _ _ _ _ _ _ _ _ _ _ _ _ (cG (by kernel_rfl) (N':=[ "hand" ,"full" ]) (src:=[ none ,some 2 ])) (eK (by kernel_rfl) (fl':=[ 2 ,1 ])) (by decide) (by rfl) (eV (by rfl) (by rfl) aH1 (aD (eM (by rfl) (by rfl) aH2 (aD (aB 1) aF)) aF)) (by rfl) (by rfl) (fun cl C s H ex=>⟨cW,@GE.sc _ _ _ _ _ _ _ (aP aHv (hr.mono (by decide)) (by rfl) (aD (aB 1) (aD (aB 0) aF)))⟩) (by intro _;rfl)) DW.nd (by rfl) (Or.inr (by rfl)) (by rfl) (by rfl) (by trivial)) (@aK _ _ _ _ _ _ _ (@aY _ _ _ _ _ _ _ _ (@bA _ _ _ _ _ _ _ _ _ (XA (by rfl) (by rfl) (by rfl) hP (by rfl) (hr.mono (by decide)) LK (by rfl) (by rfl) (by rfl) (by decide) (by trivial) aIc (by rfl) (by decide) (by rfl) (by rfl) (by rfl) (by decide) (by decide) (by decide) (by decide) (by decide) (by intros;rfl) (by rfl) aHm (by rfl) aH1 (aD (eM (by rfl) (by rfl) aH2 (aD (aB 1) aF)) aF)) (by rfl)))))
theorem aB1 {fd:FuncData}(LK:LamK K mg cq Pt bm) (aHu:Cal P w K mg base "full_groups" 4 ["table","shares"] kY true 3) (aHv:Cal P w K mg base "shared_with" 2 ["groups","hand"] mI false 3) (aIc:Cal P w K mg base "many_in" 2 ["group"] gZ false 3) (aH2:mg "len" = none) (aH1:mg "range" = none) (aHm:mg "sorted" = none) (Fu:FunC K "core_order" "core_order" pB f fd cq):
  FnOk P w K mg base CX0 6 f fd ["table","shares"] (spP Pt eQ (spT K kU true 3)):=
 XD Fu DW rfl (by decide) (fun ts t h=>bB h) (fun A outer s H E hP hr=>UJ LK aHu aHv aIc aH2 aH1 aHm A outer s H E hP hr) (fun ts t h=>bC h)
abbrev pF:Stmt:=top 29
theorem aEn:FnScope ["one","other"] ["one","other"] (defScope pF):=⟨rfl,rfl,rfl,by decide +kernel,rfl,by decide +kernel,by decide +kernel⟩
def uW:Rho->Option Out:=
 aU (f2 (f2 (f2 (aA 0) (fC (.int 0)) oIx) (f2 (aA 1) (fC (.int 1)) oIx) bG) (f2 (f2 (aA 1) (fC (.int 0)) oIx) (f2 (aA 0) (fC (.int 1)) oIx) bG) oLt)
def kX:List T->Option T:=Fof 2 0 uW
theorem QE (t0 t1:T):kX [t0,t1]=(uW [some t0,some t1]).bind bF:=rfl
theorem UN (cdv:Value) (A:Around) (outer:List Env) (s:Shared) (H:Hp) (E:XK)
  (hr:Room 0 (A.deeper (envOfC "fraction_less" (defScope pF) s.heap.objs.size f cdv))):
  GSs (aW CX0 P w K mg base ["one","other"] "fraction_less" (defScope pF) f cdv A outer s H E).nox H [1,1] false 3 (defBody pF) uW:=by
 have hu:=hr.units;unfold uW;exact @aK _ _ _ _ _ _ _ (@aY _ _ _ _ _ _ _ _ (@bA _ _ _ _ _ _ _ _ _ (@ID _ _ _ _ _ _ _ _ _ _ _ _ (@cL _ _ _ _ _ _ _ _ _ _ _ _ (@bK _ _ _ _ _ _ _ _ _ _ _ _ (aB 0) ge_int (by exact fun _ _=>rfl)) (@bK _ _ _ _ _ _ _ _ _ _ _ _ (aB 1) ge_int (by exact fun _ _=>rfl))) (@cL _ _ _ _ _ _ _ _ _ _ _ _ (@bK _ _ _ _ _ _ _ _ _ _ _ _ (aB 1) ge_int (by exact fun _ _=>rfl)) (@bK _ _ _ _ _ _ _ _ _ _ _ _ (aB 0) ge_int (by exact fun _ _=>rfl)))) (by rfl)))
theorem aB5 {fd:FuncData}(Fu:Fun K "fraction_less" "fraction_less" pF f fd):
  FnOk P w K mg base CX0 1 f fd ["one","other"] (spT K kX false 3):=
 gfn Fu aEn rfl (by decide) (fun ts t h=>bB h) (fun cdv A outer s H E hr=>@UN _ _ _ _ _ _  cdv A outer s H E hr) (fun ts t h=>bC h)
abbrev pA:Stmt:=top 27
theorem rP:FnScope ["one","other","greater","lesser","rest"] ["one","other"] (defScope pA):=⟨rfl,rfl,rfl,by decide +kernel,rfl,by decide +kernel,by decide +kernel⟩
def yQ:Rho->Option Out:=
 aH (aQ 4 (f2 (aA 2) (aA 3) bE))
  (aH (aQ 2 (f1 (aA 3) aZ))
  (aQ 3 (f1 (aA 4) aZ)))
def yR:Rho->Option Bool:=
 fB (f2 (aA 3) (fC (.int 0)) oNe)
def uS:Rho->Option Out:=
 aH (aQ 2 (aG (aC (aA 0) aE) xO))
  (aH (aQ 3 (aG (aC (aA 1) aE) xO))
  (aH (nF yR yQ)
  (aU (f1 (aA 2) aZ))))
def kT:List T->Option T:=Fof 2 3 uS
theorem PM (t0 t1:T):kT [t0,t1]=(uS [some t0,some t1,none,none,none]).bind bF:=rfl
theorem UI (aIl:mg "abs" = none) (cdv:Value) (A:Around) (outer:List Env) (s:Shared) (H:Hp) (E:XK)
  (hr:Room 0 (A.deeper (envOfC "common_divisor" (defScope pA) s.heap.objs.size f cdv))):
  GSs (aW CX0 P w K mg base ["one","other","greater","lesser","rest"] "common_divisor" (defScope pA) f cdv A outer s H E).nox H [1,1,1,1,1] false 3 (defBody pA) uS:=by
 have hu:=hr.units;unfold uS yR yQ;exact @aJ _ _ _ _ _ _ _ _ _ (@aX _ _ _ _ _ _ _ _ _ _ _ _ 2 (HW (by rfl) (by rfl) aIl (aD (aB 0) aF)) rP.nd (by rfl) (Or.inl (by rfl)) (by rfl) (by rfl) (by trivial)) (@aJ _ _ _ _ _ _ _ _ _ (@aX _ _ _ _ _ _ _ _ _ _ _ _ 3 (HW (by rfl) (by rfl) aIl (aD (aB 1) aF)) rP.nd (by rfl) (Or.inl (by rfl)) (by rfl) (by rfl) (by trivial)) (@aJ _ _ _ _ _ _ _ _ _ (@BS _ _ _ _ _ _ _ _ _ _ PassesOwn.never (@BW _ _ _ _ _ _ _ _ _ _ _ _ hu (aB 3) ge_int) (@aJ _ _ _ _ _ _ _ _ _ (@aX _ _ _ _ _ _ _ _ _ _ _ _ 4 (@cO _ _ _ _ _ _ _ _ _ _ _ _ (aB 2) (aB 3)) rP.nd (by rfl) (Or.inl (by rfl)) (by rfl) (by rfl) (by trivial)) (@aJ _ _ _ _ _ _ _ _ _ (@aX _ _ _ _ _ _ _ _ _ _ _ _ 2 (@GE.sc _ _ _ _ _ _ _ (aB 3)) rP.nd (by rfl) (Or.inl (by rfl)) (by rfl) (by rfl) (by trivial)) (@aK _ _ _ _ _ _ _ (@aX _ _ _ _ _ _ _ _ _ _ _ _ 3 (@GE.sc _ _ _ _ _ _ _ (aB 4)) rP.nd (by rfl) (Or.inl (by rfl)) (by rfl) (by rfl) (by trivial)))))) (@aK _ _ _ _ _ _ _ (@aY _ _ _ _ _ _ _ _ (@bA _ _ _ _ _ _ _ _ _ (@GE.sc _ _ _ _ _ _ _ (aB 2)) (by rfl))))))
theorem aB0 {fd:FuncData}(aIl:mg "abs" = none) (Fu:Fun K "common_divisor" "common_divisor" pA f fd):
  FnOk P w K mg base CX0 1 f fd ["one","other"] (spT K kT false 3):=
 gfn Fu rP rfl (by decide) (fun ts t h=>bB h) (fun cdv A outer s H E hr=>@UI _ _ _ _ _ _ aIl cdv A outer s H E hr) (fun ts t h=>bC h)
abbrev pE:Stmt:=top 28
theorem DX:FnScope ["top","bottom","divisor"] ["top","bottom"] (defScope pE):=⟨rfl,rfl,rfl,by decide +kernel,rfl,by decide +kernel,by decide +kernel⟩
def uV:Rho->Option Out:=
 aH (aQ 2 (f1 (aG (aC (aA 0) (aC (aA 1) aE)) kT) aZ))
  (aH (rIf (fB (f2 (aA 1) (fC (.int 0)) oLt)) (aQ 2 (f1 (aA 2) qZ)) bW)
  (aU (dM (aC (f2 (aA 0) (aA 2) nA) (aC (f2 (aA 1) (aA 2) nA) aE)))))
def kW:List T->Option T:=Fof 2 1 uV
theorem QC (t0 t1:T):kW [t0,t1]=(uV [some t0,some t1,none]).bind bF:=rfl
theorem UM (aHi:Cal P w K mg base "common_divisor" 1 ["one","other"] kT false 3) (cdv:Value) (A:Around) (outer:List Env) (s:Shared) (H:Hp) (E:XK)
  (hr:Room 1 (A.deeper (envOfC "fraction" (defScope pE) s.heap.objs.size f cdv))):
  GSs (aW CX0 P w K mg base ["top","bottom","divisor"] "fraction" (defScope pE) f cdv A outer s H E).nox H [1,1,1] false 3 (defBody pE) uV:=by
 have hu:=hr.units;unfold uV;exact @aJ _ _ _ _ _ _ _ _ _ (@aX _ _ _ _ _ _ _ _ _ _ _ _ 2 (@GE.sc _ _ _ _ _ _ _ (aP aHi (hr.mono (by decide)) (by rfl) (aD (aB 0) (aD (aB 1) aF)))) DX.nd (by rfl) (Or.inl (by rfl)) (by rfl) (by rfl) (by trivial)) (@aJ _ _ _ _ _ _ _ _ _ (@cI _ _ _ _ _ _ _ _ _ _ _ _ (@BV _ _ _ _ _ _ _ _ _ _ _ _ (aB 1) ge_int) (@aK _ _ _ _ _ _ _ (@aX _ _ _ _ _ _ _ _ _ _ _ _ 2 (@BD _ _ _ _ _ _ _ _ (aB 2)) DX.nd (by rfl) (Or.inl (by rfl)) (by rfl) (by rfl) (by trivial))) cJ) (@aK _ _ _ _ _ _ _ (@aY _ _ _ _ _ _ _ _ (@BN _ _ _ _ _ _ _ _ _ (@mV _ _ _ _ _ _ _ _ (@bA _ _ _ _ _ _ _ _ _ (@IC _ _ _ _ _ _ _ _ _ _ _ _ (aB 0) (aB 2)) (by rfl)) (@mV _ _ _ _ _ _ _ _ (@bA _ _ _ _ _ _ _ _ _ (@IC _ _ _ _ _ _ _ _ _ _ _ _ (aB 1) (aB 2)) (by rfl)) BO (by rfl) (by rfl)) (by rfl) (by rfl)) (by rfl)))))
theorem aB4 {fd:FuncData}(aHi:Cal P w K mg base "common_divisor" 1 ["one","other"] kT false 3) (Fu:Fun K "fraction" "fraction" pE f fd):
  FnOk P w K mg base CX0 2 f fd ["top","bottom"] (spT K kW false 3):=
 gfn Fu DX rfl (by decide) (fun ts t h=>bB h) (fun cdv A outer s H E hr=>@UM _ _ _ _ _ _ aHi cdv A outer s H E hr) (fun ts t h=>bC h)
abbrev pW:Stmt:=top 42
theorem rQ:FnScope ["table","size","rest","shares","most","spares","spare","gap"] ["table","size","rest","shares"] (defScope pW):=⟨rfl,rfl,rfl,by decide +kernel,rfl,by decide +kernel,by decide +kernel⟩
def vO:Rho->Option Out:=
 rIf (xZ (fB (f2 (aA 7) (fC (.int 0)) oGt)) (fT (aG (aC (dM (aC (f1 (aA 6) aZ) (aC (f1 (aA 7) aZ) aE))) (aC (aA 4) aE)) kX))) (aQ 4 (f1 (aG (aC (aA 6) (aC (aA 7) aE)) kW) aZ)) bW
def vN:Rho->Option Out:=
 aH (aQ 4 (dM (aC (f1 (aA 1) aZ) (aC (fC (.int 1)) aE))))
  (aH (aQ 5 (aG (aC (aG (aC (aA 1) (aC (aA 0) aE)) gG) (aC (aA 2) aE)) eJ))
  (aH (tT [6,7] (qM (fFL (aA 5)) (fFL (aG (aC (aA 0) (aC (aA 3) aE)) eJ)))
  vO)
  (aU (f1 (aA 4) aZ))))
def mF:List T->Option T:=Fof 4 4 vN
theorem RC (t0 t1 t2 t3:T):mF [t0,t1,t2,t3]=(vN [some t0,some t1,some t2,some t3,none,none,none,none]).bind bF:=rfl
theorem VF (aHl:Cal P w K mg base "scaled" 1 ["many","table"] gG true 3) (aH6:Cal P w K mg base "less_row" 3 ["table","row"] eJ true 3) (aHj:Cal P w K mg base "fraction_less" 1 ["one","other"] kX false 3) (aI6:Cal P w K mg base "fraction" 2 ["top","bottom"] kW false 3) (aHt:mg "zip" = none) (cdv:Value) (A:Around) (outer:List Env) (s:Shared) (H:Hp) (E:XK)
  (hr:Room 3 (A.deeper (envOfC "most_of" (defScope pW) s.heap.objs.size f cdv))):
  GSs (aW CX0 P w K mg base ["table","size","rest","shares","most","spares","spare","gap"] "most_of" (defScope pW) f cdv A outer s H E).nox H [1,1,1,1,1,1,1,1] false 3 (defBody pW) vN:=by
 have hu:=hr.units;unfold vN vO;exact @aJ _ _ _ _ _ _ _ _ _ (@aX _ _ _ _ _ _ _ _ _ _ _ _ 4 (@hX _ _ _ _ _ _ _ _ (aD (@GE.sc _ _ _ _ _ _ _ (aB 1)) (aD ge_int aF))) rQ.nd (by rfl) (Or.inl (by rfl)) (by rfl) (by rfl) (by trivial)) (@aJ _ _ _ _ _ _ _ _ _ (@aX _ _ _ _ _ _ _ _ _ _ _ _ 5 (aP aH6 (hr.mono (by decide)) (by rfl) (aD (aP aHl (hr.mono (by decide)) (by rfl) (aD (aB 1) (aD (aB 0) aF))) (aD (aB 2) aF))) rQ.nd (by rfl) (Or.inl (by rfl)) (by rfl) (by rfl) (by trivial)) (@aJ _ _ _ _ _ _ _ _ _ (@BP _ _ _ _ _ _ _ _ _ _ _ [6 ,7] _ _ _ _ _ PassesOwn.never (by rfl) (@BI _ _ _ _ _ _ _ _ _ _ _ _ _ _ _ _ _ (by rfl) (by rfl) aHt (aB 5) (aP aH6 (hr.mono (by decide)) (by rfl) (aD (aB 0) (aD (aB 3) aF))) (by rfl) (by rfl)) (@cH _ _ _ _ _ _ rQ.nd (by rfl) (Or.inl (by rfl)) (@cH _ _ _ _ _ _ rQ.nd (by rfl) (Or.inl (by rfl)) (@fY _) (by trivial) (by rfl)) (by trivial) (by rfl)) (@aK _ _ _ _ _ _ _ (@cI _ _ _ _ _ _ _ _ _ _ _ _ (@GW.gt _ _ _ _ _ (@JC _ _ _ _ _ _ _ _ _ (@sM _ _ _ _ _ _ _ _ _ _ _ _ (aB 7) ge_int) (@JD _ _ _ _ _ _ (@jW _ _ _ _ _ _ _ (aP aHj (hr.mono (by decide)) (by rfl) (aD (@hX _ _ _ _ _ _ _ _ (aD (@GE.sc _ _ _ _ _ _ _ (aB 6)) (aD (@GE.sc _ _ _ _ _ _ _ (aB 7)) aF))) (aD (aB 4) aF))) (by intro _;rfl))))) (@aK _ _ _ _ _ _ _ (@aX _ _ _ _ _ _ _ _ _ _ _ _ 4 (@GE.sc _ _ _ _ _ _ _ (aP aI6 (hr.mono (by decide)) (by rfl) (aD (aB 6) (aD (aB 7) aF)))) rQ.nd (by rfl) (Or.inl (by rfl)) (by rfl) (by rfl) (by trivial))) cJ)) (by rfl) (by rfl) (by rfl) (by rfl) (by rfl) (by intro _;rfl)) (@aK _ _ _ _ _ _ _ (@aY _ _ _ _ _ _ _ _ (@bA _ _ _ _ _ _ _ _ _ (@GE.sc _ _ _ _ _ _ _ (aB 4)) (by rfl))))))
theorem aBn {fd:FuncData}(aHl:Cal P w K mg base "scaled" 1 ["many","table"] gG true 3) (aH6:Cal P w K mg base "less_row" 3 ["table","row"] eJ true 3) (aHj:Cal P w K mg base "fraction_less" 1 ["one","other"] kX false 3) (aI6:Cal P w K mg base "fraction" 2 ["top","bottom"] kW false 3) (aHt:mg "zip" = none) (Fu:Fun K "most_of" "most_of" pW f fd):
  FnOk P w K mg base CX0 4 f fd ["table","size","rest","shares"] (spT K mF false 3):=
 gfn Fu rQ rfl (by decide) (fun ts t h=>bB h) (fun cdv A outer s H E hr=>@VF _ _ _ _ _ _ aHl aH6 aHj aI6 aHt cdv A outer s H E hr) (fun ts t h=>bC h)
abbrev pV:Stmt:=top 43
theorem gX:FnScope ["table","shares","mix","size","rest","order","taken","most"] ["table","shares"] (defScope pV):=⟨rfl,rfl,rfl,by decide +kernel,rfl,by decide +kernel,by decide +kernel⟩
def zC:Rho->Option T:=
 f2 (f2 (f2 (aA 2) (fC (.int 1)) oIx) (aA 0) bG) (f2 (f2 (aA 2) (fC (.int 0)) oIx) (aA 1) bG) eF
def zD:Rho->Option T:=
 dM (aC (aA 0) (aC (f2 (f2 (aA 2) (fC (.int 1)) oIx) (aA 1) bG) aE))
def gT:Rho->Option Out:=
 aH (aQ 5 (aG (aC (aG (aC (aA 3) (aC (aA 0) aE)) gG) (aC (aA 4) aE)) kU))
  (aH (aQ 6 (aG (aC (aA 0) (aC (aA 5) aE)) gE))
  (aH (aQ 7 (f1 (aG (aC (aA 0) (aC (aA 3) (aC (aA 4) (aC (aA 6) aE)))) mF) aZ))
  (aH (aQ 4 (eB [0,1] (qM (fFL (aA 4)) (fFL (aA 6))) [none,none,some 7] aR zC))
  (aH (aQ 3 (f2 (f2 (f2 (aA 7) (fC (.int 1)) oIx) (aA 3) bG) (f2 (aA 7) (fC (.int 0)) oIx) eF))
  (aQ 2 (f2 (eB [0,1] (fL (aA 2)) [none,none,some 7] aR zD) (fF (aC (dM (aC (aA 5) (aC (f1 (f2 (aA 7) (fC (.int 0)) oIx) aZ) aE))) aE)) jD))))))
def jG:Rho->Option Bool:=
 fB (f2 (aA 3) (fC (.int 0)) oGt)
def vM:Rho->Option Out:=
 aH (yF (aG (aC (aA 0) aE) mG))
  (aH (rIf (rC (fT (aG (aC (aA 0) (aC (aA 1) aE)) eZ))) tU bW)
  (aH (aQ 2 (fF aE))
  (aH (aQ 3 (fC (.int 1)))
  (aH (aQ 4 (aA 1))
  (aH (nF jG gT)
  (aU (aA 2)))))))
def jM:List T->Option T:=Fof 2 6 vM
theorem QZ (t0 t1:T):jM [t0,t1]=(vM [some t0,some t1,none,none,none,none,none,none]).bind bF:=rfl
theorem VE (aI2:Cal P w K mg base "must_fall" 5 ["table"] mG false 3) (aHg:Cal P w K mg base "is_base" 6 ["table","shares"] eZ false 3) (aHl:Cal P w K mg base "scaled" 1 ["many","table"] gG true 3) (aHz:CalP P w K mg base Pt eQ "core_order" 6 ["table","shares"] kU true 3) (aHe:Cal P w K mg base "by_order" 2 ["table","order"] gE true 3) (aId:Cal P w K mg base "most_of" 4 ["table","size","rest","shares"] mF false 3) (aHt:mg "zip" = none) (cdv:Value) (A:Around) (outer:List Env) (s:Shared) (H:Hp) (E:XK) (hP:H Pt=some eQ)
  (hr:Room 6 (A.deeper (envOfC "mixed" (defScope pV) s.heap.objs.size f cdv))):
  GSs (aW CX0 P w K mg base ["table","shares","mix","size","rest","order","taken","most"] "mixed" (defScope pV) f cdv A outer s H E).nox H [1,1,2,1,1,2,1,1] false 3 (defBody pV) vM:=by
 have hu:=hr.units;unfold vM jG gT zD zC;exact @aJ _ _ _ _ _ _ _ _ _ (@XN _ _ _ _ _ _ _ _ _ _ (aP aI2 (hr.mono (by decide)) (by rfl) (aD (aB 0) aF)) (by rfl)) (@aJ _ _ _ _ _ _ _ _ _ (@cI _ _ _ _ _ _ _ _ _ _ _ _ (@BX _ _ _ _ _ _ (@jW _ _ _ _ _ _ _ (aP aHg (hr.mono (by decide)) (by rfl) (aD (aB 0) (aD (aB 1) aF))) (by intro _;rfl))) (@aK _ _ _ _ _ _ _ BQ) cJ) (@aJ _ _ _ _ _ _ _ _ _ (@aX _ _ _ _ _ _ _ _ _ _ _ _ 2 (@fW _ _ _ _ _ _ _ aF) gX.nd (by rfl) (Or.inl (by rfl)) (by rfl) (by rfl) (by trivial)) (@aJ _ _ _ _ _ _ _ _ _ (@aX _ _ _ _ _ _ _ _ _ _ _ _ 3 ge_int gX.nd (by rfl) (Or.inl (by rfl)) (by rfl) (by rfl) (by trivial)) (@aJ _ _ _ _ _ _ _ _ _ (@aX _ _ _ _ _ _ _ _ _ _ _ _ 4 (aB 1) gX.nd (by rfl) (Or.inl (by rfl)) (by rfl) (by rfl) (by trivial)) (@aJ _ _ _ _ _ _ _ _ _ (@BS _ _ _ _ _ _ _ _ _ _ PassesOwn.never (@sM _ _ _ _ _ _ _ _ _ _ _ _ (aB 3) ge_int) (@aJ _ _ _ _ _ _ _ _ _ (@aX _ _ _ _ _ _ _ _ _ _ _ _ 5 (HY aHz hP (hr.mono (by decide)) (by rfl) (aD (aP aHl (hr.mono (by decide)) (by rfl) (aD (aB 3) (aD (aB 0) aF))) (aD (aB 4) aF))) gX.nd (by rfl) (Or.inl (by rfl)) (by rfl) (by rfl) (by trivial)) (@aJ _ _ _ _ _ _ _ _ _ (@aX _ _ _ _ _ _ _ _ _ _ _ _ 6 (aP aHe (hr.mono (by decide)) (by rfl) (aD (aB 0) (aD (aB 5) aF))) gX.nd (by rfl) (Or.inl (by rfl)) (by rfl) (by rfl) (by trivial)) (@aJ _ _ _ _ _ _ _ _ _ (@aX _ _ _ _ _ _ _ _ _ _ _ _ 7 (@GE.sc _ _ _ _ _ _ _ (aP aId (hr.mono (by decide)) (by rfl) (aD (aB 0) (aD (aB 3) (aD (aB 4) (aD (aB 6) aF)))))) gX.nd (by rfl) (Or.inr (by rfl)) (by rfl) (by rfl) (by trivial)) (@aJ _ _ _ _ _ _ _ _ _ (@XT _ _ _ _ _ _ _ _ _ _ _ _ _ _ _ _ _ _ _ _ _ 4 _ _ _ _ _ _ _ (cG (by kernel_rfl) (N':=[ "left" ,"share" ,"most" ]) (src:=[ none ,none ,some 7 ])) (jO (by kernel_rfl) (fl':=[ 2 ,2 ,1 ]) (js:=[ 0 ,1 ])) (by rfl) (@BI _ _ _ _ _ _ _ _ _ _ _ _ _ _ _ _ _ (by rfl) (by rfl) aHt (aB 4) (aB 6) (by rfl) (by rfl)) (fun cl C s H ex=>@pgT _ _ _ (2) _ _ (by rfl) (@cH _ _ _ _ _ _ (cX (by kernel_rfl)) (by rfl) (Or.inl (by rfl)) (@cH _ _ _ _ _ _ (cX (by kernel_rfl)) (by rfl) (Or.inl (by rfl)) (@fY _) (by trivial) (by rfl)) (by trivial) (by rfl)) (by rfl) (by rfl)) (by rfl) (fun cl C s H ex=>⟨cW,@eU _ _ _ _ _ _ _ _ _ _ _ _ (@cL _ _ _ _ _ _ _ _ _ _ _ _ (@bK _ _ _ _ _ _ _ _ _ _ _ _ (aB 2) ge_int (by exact fun _ _=>rfl)) (aB 0)) (@cL _ _ _ _ _ _ _ _ _ _ _ _ (@bK _ _ _ _ _ _ _ _ _ _ _ _ (aB 2) ge_int (by exact fun _ _=>rfl)) (aB 1))⟩) gX.nd (by rfl) (Or.inl (by rfl)) (by rfl) (by rfl) (by intro _;rfl) (by trivial)) (@aJ _ _ _ _ _ _ _ _ _ (@aX _ _ _ _ _ _ _ _ _ _ _ _ 3 (@eU _ _ _ _ _ _ _ _ _ _ _ _ (@cL _ _ _ _ _ _ _ _ _ _ _ _ (@bK _ _ _ _ _ _ _ _ _ _ _ _ (aB 7) ge_int (by exact fun _ _=>rfl)) (aB 3)) (@bK _ _ _ _ _ _ _ _ _ _ _ _ (aB 7) ge_int (by exact fun _ _=>rfl))) gX.nd (by rfl) (Or.inl (by rfl)) (by rfl) (by rfl) (by trivial)) (@aK _ _ _ _ _ _ _ (@aX _ _ _ _ _ _ _ _ _ _ _ _ 2 (@BB _ _ _ _ _ _ _ _ _ _ _ _ (@qO _ _ _ _ _ _ _ _ _ _ _ _ _ _ _ _ _ _ _ _ _ _ _ (cG (by kernel_rfl) (N':=[ "ahead" ,"many" ,"most" ]) (src:=[ none ,none ,some 7 ])) (jO (by kernel_rfl) (fl':=[ 2 ,2 ,1 ]) (js:=[ 0 ,1 ])) (by decide) (by rfl) (@jT _ _ _ _ _ _ _ _ (aB 2)) (fun cl C s H ex=>@pgT _ _ _ (2) _ _ (by rfl) (@cH _ _ _ _ _ _ (cX (by kernel_rfl)) (by rfl) (Or.inl (by rfl)) (@cH _ _ _ _ _ _ (cX (by kernel_rfl)) (by rfl) (Or.inl (by rfl)) (@fY _) (by trivial) (by rfl)) (by trivial) (by rfl)) (by rfl) (by rfl)) (by rfl) (fun cl C s H ex=>⟨cW,@hX _ _ _ _ _ _ _ _ (aD (aB 0) (aD (@cL _ _ _ _ _ _ _ _ _ _ _ _ (@bK _ _ _ _ _ _ _ _ _ _ _ _ (aB 2) ge_int (by exact fun _ _=>rfl)) (aB 1)) aF))⟩) (by intro _;rfl)) (@fW _ _ _ _ _ _ _ (aD (@hX _ _ _ _ _ _ _ _ (aD (aB 5) (aD (@GE.sc _ _ _ _ _ _ _ (@bK _ _ _ _ _ _ _ _ _ _ _ _ (aB 7) ge_int (by exact fun _ _=>rfl))) aF))) aF))) gX.nd (by rfl) (Or.inl (by rfl)) (by rfl) (by rfl) (by trivial))))))))) (@aK _ _ _ _ _ _ _ (@aY _ _ _ _ _ _ _ _ (@bA _ _ _ _ _ _ _ _ _ (aB 2) (by rfl)))))))))
theorem aBm {fd:FuncData}(aI2:Cal P w K mg base "must_fall" 5 ["table"] mG false 3) (aHg:Cal P w K mg base "is_base" 6 ["table","shares"] eZ false 3) (aHl:Cal P w K mg base "scaled" 1 ["many","table"] gG true 3) (aHz:CalP P w K mg base Pt eQ "core_order" 6 ["table","shares"] kU true 3) (aHe:Cal P w K mg base "by_order" 2 ["table","order"] gE true 3) (aId:Cal P w K mg base "most_of" 4 ["table","size","rest","shares"] mF false 3) (aHt:mg "zip" = none) (Fu:Fun K "mixed" "mixed" pV f fd):
  FnOk P w K mg base CX0 7 f fd ["table","shares"] (spP Pt eQ (spT K jM false 3)):=
 IJ Fu gX rfl (by decide) (fun ts t h=>bB h) (fun cdv A outer s H E hP hr=>VE aI2 aHg aHl aHz aHe aId aHt cdv A outer s H E hP hr) (fun ts t h=>bC h)
abbrev pQ:Stmt:=top 45
theorem aEw:FnScope ["begun","hands"] ["begun","hands"] (defScope pQ):=⟨rfl,rfl,rfl,by decide +kernel,rfl,by decide +kernel,by decide +kernel⟩
def vI:Rho->Option Bool:=
 fB (f2 (aA 0) (aA 1) tE)
def vH:Rho->Option T:=
 f1 (f2 (aA 1) (fF (aC (f1 (aA 0) aZ) aE)) jD) sI
def vG:Rho->Option Out:=
 aU (cA (cV (aC (aA 1) aE) dO) [none,some 0] vI vH)
def mE:List T->Option T:=Fof 2 0 vG
theorem QU (t0 t1:T):mE [t0,t1]=(vG [some t0,some t1]).bind bF:=rfl
theorem UZ (aH1:mg "range" = none) (cdv:Value) (A:Around) (outer:List Env) (s:Shared) (H:Hp) (E:XK)
  (hr:Room 0 (A.deeper (envOfC "longer_orders" (defScope pQ) s.heap.objs.size f cdv))):
  GSs (aW CX0 P w K mg base ["begun","hands"] "longer_orders" (defScope pQ) f cdv A outer s H E).nox H [1,1] true 3 (defBody pQ) vG:=by
 have hu:=hr.units;unfold vG vH vI;exact @aK _ _ _ _ _ _ _ (@aY _ _ _ _ _ _ _ _ (@bA _ _ _ _ _ _ _ _ _ (@hV _ _ _ _ _ _ _ _ _ _ _ _ _ _ _ _ _ _ _ _ (cG (by kernel_rfl) (N':=[ "hand" ,"begun" ]) (src:=[ none ,some 0 ])) (eK (by kernel_rfl) (fl':=[ 2 ,1 ])) (by decide) (by rfl) (eV (by rfl) (by rfl) aH1 (aD (aB 1) aF)) (by rfl) (by rfl) (fun cl C s H ex=>⟨@BJ _ _ _ _ _ (@XW _ _ _ _ _ _ _ _ _ _ _ _ (aB 0) (aB 1) (by rfl)),@GE.flt _ _ _ _ _ _ (@BB _ _ _ _ _ _ _ _ _ _ _ _ (aB 1) (@fW _ _ _ _ _ _ _ (aD (@GE.sc _ _ _ _ _ _ _ (aB 0)) aF)))⟩) (by intro _;rfl)) (by rfl)))
theorem aBh {fd:FuncData}(aH1:mg "range" = none) (Fu:Fun K "longer_orders" "longer_orders" pQ f fd):
  FnOk P w K mg base CX0 1 f fd ["begun","hands"] (spT K mE true 3):=
 gfn Fu aEw rfl (by decide) (fun ts t h=>bB h) (fun cdv A outer s H E hr=>@UZ _ _ _ _ _ _ aH1 cdv A outer s H E hr) (fun ts t h=>bC h)
abbrev nW:Stmt:=top 46
theorem rN:FnScope ["hands","orders","place","longer","begun"] ["hands"] (defScope nW):=⟨rfl,rfl,rfl,by decide +kernel,rfl,by decide +kernel,by decide +kernel⟩
def rG:Rho->Option Out:=
 DE 3 (aG (aC (aA 4) (aC (aA 0) aE)) mE)
def uN:Rho->Option Out:=
 aH (dH 3 (fF aE))
  (aH (dG 4 (fL (aA 1))
  rG)
  (DG 1 3))
def uM:Rho->Option Out:=
 aH (aQ 1 (fF (aC (fF aE) aE)))
  (aH (dG 2 (cV (aC (aA 0) aE) dO)
  uN)
  (aU (aA 1)))
def eY:List T->Option T:=Fof 1 4 uM
theorem PC (t0:T):eY [t0]=(uM [some t0,none,none,none,none]).bind bF:=rfl
theorem UE (aHk:Cal P w K mg base "longer_orders" 1 ["begun","hands"] mE true 3) (aH1:mg "range" = none) (cdv:Value) (A:Around) (outer:List Env) (s:Shared) (H:Hp) (E:XK)
  (hr:Room 1 (A.deeper (envOfC "all_orders" (defScope nW) s.heap.objs.size f cdv))):
  GSs (aW CX0 P w K mg base ["hands","orders","place","longer","begun"] "all_orders" (defScope nW) f cdv A outer s H E).nox H [1,2,1,0,1] false 3 (defBody nW) uM:=by
 have hu:=hr.units;unfold uM uN rG;exact @aJ _ _ _ _ _ _ _ _ _ (@aX _ _ _ _ _ _ _ _ _ _ _ _ 1 (@fW _ _ _ _ _ _ _ (aD (@fW _ _ _ _ _ _ _ aF) aF)) rN.nd (by rfl) (Or.inl (by rfl)) (by rfl) (by rfl) (by trivial)) (@aJ _ _ _ _ _ _ _ _ _ (@dS _ _ _ _ _ _ _ _ _ 2 _ _ _ _ _ PassesOwn.never (by rfl) (eV (by rfl) (by rfl) aH1 (aD (aB 0) aF)) rN.nd (by rfl) (Or.inl (by rfl)) (@aJ _ _ _ _ _ _ _ _ _ (@hZ _ _ _ _ _ _ _ _ _ _ _ 3 (@fW _ _ _ _ _ _ _ aF) rN.nd (by rfl) (Or.inl (by rfl)) (by rfl) (by rfl) (by trivial)) (@aJ _ _ _ _ _ _ _ _ _ (@dS _ _ _ _ _ _ _ _ _ 4 _ _ _ _ _ PassesOwn.never (by rfl) (@jT _ _ _ _ _ _ _ _ (aB 1)) rN.nd (by rfl) (Or.inl (by rfl)) (@aK _ _ _ _ _ _ _ (XO 3 (aP aHk (hr.mono (by decide)) (by rfl) (aD (aB 4) (aD (aB 0) aF))) (by rfl))) (by rfl) (by intro _;rfl) (by trivial)) (@aK _ _ _ _ _ _ _ (XR 1 3 rN.nd (by rfl) (Or.inl (by rfl)) (by rfl))))) (by rfl) (by intro _;rfl) (by trivial)) (@aK _ _ _ _ _ _ _ (@aY _ _ _ _ _ _ _ _ (@bA _ _ _ _ _ _ _ _ _ (aB 1) (by rfl)))))
theorem aAw {fd:FuncData}(aHk:Cal P w K mg base "longer_orders" 1 ["begun","hands"] mE true 3) (aH1:mg "range" = none) (Fu:Fun K "all_orders" "all_orders" nW f fd):
  FnOk P w K mg base CX0 2 f fd ["hands"] (spT K eY false 3):=
 gfn Fu rN rfl (by decide) (fun ts t h=>bB h) (fun cdv A outer s H E hr=>@UE _ _ _ _ _ _ aHk aH1 cdv A outer s H E hr) (fun ts t h=>bC h)
abbrev pS:Stmt:=top 47
theorem aEy:FnScope ["table"] ["table"] (defScope pS):=⟨rfl,rfl,rfl,by decide +kernel,rfl,by decide +kernel,by decide +kernel⟩
def vK:Rho->Option T:=
 dM (aC (aA 0) (aC (fC (.int 1)) aE))
def vJ:Rho->Option Out:=
 aU (aG (aC (aA 0) (aC (cA (fL (aG (aC (aG (aC (aA 0) aE) cR) aE) eY)) [none] aR vK) aE)) cS)
def hE:List T->Option T:=Fof 1 0 vJ
theorem QX (t0:T):hE [t0]=(vJ [some t0]).bind bF:=rfl
theorem VB (aH3:Cal P w K mg base "hand_count" 1 ["table"] cR false 3) (aHb:Cal P w K mg base "all_orders" 2 ["hands"] eY false 3) (aH8:Cal P w K mg base "mix_row" 3 ["table","mix"] cS true 3) (cdv:Value) (A:Around) (outer:List Env) (s:Shared) (H:Hp) (E:XK)
  (hr:Room 3 (A.deeper (envOfC "mean_row" (defScope pS) s.heap.objs.size f cdv))):
  GSs (aW CX0 P w K mg base ["table"] "mean_row" (defScope pS) f cdv A outer s H E).nox H [1] true 3 (defBody pS) vJ:=by
 have hu:=hr.units;unfold vJ vK;exact @aK _ _ _ _ _ _ _ (@aY _ _ _ _ _ _ _ _ (@bA _ _ _ _ _ _ _ _ _ (aP aH8 (hr.mono (by decide)) (by rfl) (aD (aB 0) (aD (@hV _ _ _ _ _ _ _ _ _ _ _ _ _ _ _ _ _ _ _ _ (cG (by kernel_rfl) (N':=[ "order" ]) (src:=[ none ])) (eK (by kernel_rfl) (fl':=[ 2 ])) (by decide) (by rfl) (@jT _ _ _ _ _ _ _ _ (aP aHb (hr.mono (by decide)) (by rfl) (aD (aP aH3 (hr.mono (by decide)) (by rfl) (aD (aB 0) aF)) aF))) (by rfl) (by rfl) (fun cl C s H ex=>⟨cW,@hX _ _ _ _ _ _ _ _ (aD (aB 0) (aD ge_int aF))⟩) (by intro _;rfl)) aF))) (by rfl)))
theorem aBj {fd:FuncData}(aH3:Cal P w K mg base "hand_count" 1 ["table"] cR false 3) (aHb:Cal P w K mg base "all_orders" 2 ["hands"] eY false 3) (aH8:Cal P w K mg base "mix_row" 3 ["table","mix"] cS true 3) (Fu:Fun K "mean_row" "mean_row" pS f fd):
  FnOk P w K mg base CX0 4 f fd ["table"] (spT K hE true 3):=
 gfn Fu aEy rfl (by decide) (fun ts t h=>bB h) (fun cdv A outer s H E hr=>@VB _ _ _ _ _ _ aH3 aHb aH8 cdv A outer s H E hr) (fun ts t h=>bC h)
abbrev gU:Stmt:=top 60
theorem gW:FnScope ["script","hands","table","mix","row","size","group","shares","every"] ["script"] (defScope gU):=⟨rfl,rfl,rfl,by decide +kernel,rfl,by decide +kernel,by decide +kernel⟩
def yY:Rho->Option T:=
 dM (aC (f2 (f2 (aA 2) (fC (.int 0)) oIx) (fC (.int 0)) oIx) (aC (f1 (aA 1) aZ) aE))
def yX:Rho->Option Out:=
 rIf (fB (f2 (aG (aC (aA 4) (aC (aA 6) aE)) jJ) (f2 (aA 5) (f2 (aA 2) (aA 6) oIx) bG) oGt)) (aU (fC (.bl false))) bW
def yZ:Rho->Option T:=
 f2 (f2 (aA 0) (aA 1) bE) (fC (.int 0)) oEq
def zA:Rho->Option T:=
 f2 (aA 0) (aA 1) bV
def nI:Rho->Option T:=
 dM (aC (aA 0) (aC (fC (.int 1)) aE))
def vE:Rho->Option Out:=
 aH (aQ 1 (aG (aC (fC (.int 4)) (aC (aG (aC (aA 0) aE) kN) aE)) sY))
  (aH (aQ 2 (aG (aC (aA 0) (aC (aA 1) aE)) kM))
  (aH (aQ 3 (aG (aC (f2 (wS (aA 0) (rB (fC (.int 1))) (rB (fC (.int 13))) tD) (fC (.lst (tI [3]))) jD) (aC (aA 1) (aC (f2 (fF (aC (fC (.int 3)) (aC (f2 (fC (.int 10)) (fC (.int 40)) dX) aE))) (f2 (f2 (aG (aC (aA 0) (aC (fC (.int 1)) aE)) cQ) (fC (.int 5)) bV) (fC (.int 2)) bE) oIx) aE))) kL))
  (aH (rIf (fB (f2 (f2 (aG (aC (aA 0) (aC (fC (.int 1)) aE)) cQ) (fC (.int 2)) bE) (fC (.int 1)) oEq)) (aQ 3 (eB [0,1] (fL (aA 3)) [none,none,some 3] aR yY)) bW)
  (aH (aQ 4 (aG (aC (aA 2) (aC (aA 3) aE)) cS))
  (aH (aQ 5 (f1 (aG (aC (aA 3) aE) fU) aZ))
  (aH (dG 6 (cV (aC (aG (aC (aA 2) aE) dN) aE) dO)
  yX)
  (aH (rIf (fB (f2 (aG (aC (aA 4) (aC (f2 (aG (aC (aA 2) aE) dN) (fC (.int 1)) eF) aE)) jJ) (f2 (aA 5) (f2 (aA 2) (f1 (fC (.int 1)) qZ) oIx) bG) oNe)) (aU (fC (.bl false))) bW)
  (aH (rIf (fT (aG (aC (cA (fFL (aA 4)) [none,some 5] aR yZ) aE) qW)) (aH (aQ 7 (cA (fFL (aA 4)) [none,some 5] aR zA))
  (aH (rIf (pOr (fB (f2 (aG (aC (aA 2) (aC (aA 7) aE)) eZ) (fC (.bl true)) qY)) (fB (f2 (aG (aC (aA 2) (aC (aA 7) (aC (aA 3) aE))) gF) (fC (.bl true)) qY))) (aU (fC (.bl false))) bW)
  (rIf (fB (f2 (aG (aC (aA 2) (aC (aA 7) (aC (aG (aC (aA 2) (aC (aA 7) aE)) jM) aE))) gF) (fC (.bl true)) qY)) (aU (fC (.bl false))) bW))) bW)
  (aH (aQ 8 (cA (fL (aG (aC (aA 1) aE) eY)) [none] aR nI))
  (aU (f2 (aG (aC (aA 2) (aC (aA 8) aE)) cS) (aG (aC (aA 2) aE) hE) oEq)))))))))))
def qH:List T->Option T:=Fof 1 8 vE
theorem QQ (t0:T):qH [t0]=(vE [some t0,none,none,none,none,none,none,none,none]).bind bF:=rfl
theorem UX (aHx:Cal P w K mg base "_law_hands" 2 ["script"] kN false 3) (aHn:Cal P w K mg base "_law_falling" 3 ["script","hands"] kM true 3) (aH4:Cal P w K mg base "_law_cell" 1 ["script","k"] cQ false 3) (aHh:Cal P w K mg base "_law_drawn_mix" 2 ["cells","hands","most"] kL true 3) (aH8:Cal P w K mg base "mix_row" 3 ["table","mix"] cS true 3) (aHf:Cal P w K mg base "mix_size" 1 ["mix"] fU false 3) (aHo:Cal P w K mg base "_law_gives" 1 ["row","group"] jJ false 3) (aHg:Cal P w K mg base "is_base" 6 ["table","shares"] eZ false 3) (aIa:Cal P w K mg base "is_mix" 4 ["table","shares","mix"] gF false 3) (aIh:CalP P w K mg base Pt eQ "mixed" 7 ["table","shares"] jM false 3) (aHb:Cal P w K mg base "all_orders" 2 ["hands"] eY false 3) (aI9:Cal P w K mg base "mean_row" 4 ["table"] hE true 3) (aHs:mg "min" = none) (aH2:mg "len" = none) (aH1:mg "range" = none) (aHr:mg "all" = none) (cdv:Value) (A:Around) (outer:List Env) (s:Shared) (H:Hp) (E:XK) (hP:H Pt=some eQ)
  (hr:Room 7 (A.deeper (envOfC "law" (defScope gU) s.heap.objs.size f cdv))):
  GSs (aW CX0 P w K mg base ["script","hands","table","mix","row","size","group","shares","every"] "law" (defScope gU) f cdv A outer s H E).nox H [1,1,1,1,1,1,1,1,1] false 3 (defBody gU) vE:=by
 have hu:=hr.units;unfold vE nI zA yZ yX yY;exact @aJ _ _ _ _ _ _ _ _ _ (@aX _ _ _ _ _ _ _ _ _ _ _ _ 1 (IE (by rfl) (by rfl) (by rfl) aHs (aD ge_int (aD (aP aHx (hr.mono (by decide)) (by rfl) (aD (aB 0) aF)) aF))) gW.nd (by rfl) (Or.inl (by rfl)) (by rfl) (by rfl) (by trivial)) (@aJ _ _ _ _ _ _ _ _ _ (@aX _ _ _ _ _ _ _ _ _ _ _ _ 2 (aP aHn (hr.mono (by decide)) (by rfl) (aD (aB 0) (aD (aB 1) aF))) gW.nd (by rfl) (Or.inl (by rfl)) (by rfl) (by rfl) (by trivial)) (@aJ _ _ _ _ _ _ _ _ _ (@aX _ _ _ _ _ _ _ _ _ _ _ _ 3 (aP aHh (hr.mono (by decide)) (by rfl) (aD (@BB _ _ _ _ _ _ _ _ _ _ _ _ (@IG _ _ _ _ _ _ _ _ _ _ _ _ _ _ _ (aB 0) (@BM _ _ _ _ _ _ _ ge_int) (@BM _ _ _ _ _ _ _ ge_int) BL (by intro _ _;first | exact⟨_,rfl⟩ | (refine⟨_,?_⟩;with_unfolding_all rfl))) (@sJ _ _ _ _ _ ([ 3 ]) (by rfl) (by decide +kernel))) (aD (aB 1) (aD (@bK _ _ _ _ _ _ _ _ _ _ _ _ (@fW _ _ _ _ _ _ _ (aD ge_int (aD (@mT _ _ _ _ _ _ _ _ _ _ _ _ ge_int ge_int) aF))) (@cO _ _ _ _ _ _ _ _ _ _ _ _ (@fG _ _ _ _ _ _ _ _ _ _ _ _ (aP aH4 (hr.mono (by decide)) (by rfl) (aD (aB 0) (aD ge_int aF))) ge_int) ge_int) (by exact fun _ _=>rfl)) aF)))) gW.nd (by rfl) (Or.inr (by rfl)) (by rfl) (by rfl) (by trivial)) (@aJ _ _ _ _ _ _ _ _ _ (@cI _ _ _ _ _ _ _ _ _ _ _ _ (@jV _ _ _ _ _ _ _ _ _ _ _ _ hu (@cO _ _ _ _ _ _ _ _ _ _ _ _ (aP aH4 (hr.mono (by decide)) (by rfl) (aD (aB 0) (aD ge_int aF))) ge_int) ge_int) (@aK _ _ _ _ _ _ _ (@aX _ _ _ _ _ _ _ _ _ _ _ _ 3 (@qO _ _ _ _ _ _ _ _ _ _ _ _ _ _ _ _ _ _ _ _ _ _ _ (cG (by kernel_rfl) (N':=[ "order" ,"many" ,"mix" ]) (src:=[ none ,none ,some 3 ])) (jO (by kernel_rfl) (fl':=[ 1 ,1 ,1 ]) (js:=[ 0 ,1 ])) (by decide) (by rfl) (@jT _ _ _ _ _ _ _ _ (aB 3)) (fun cl C s H ex=>@pgT _ _ _ (2) _ _ (by rfl) (@cH _ _ _ _ _ _ (cX (by kernel_rfl)) (by rfl) (Or.inl (by rfl)) (@cH _ _ _ _ _ _ (cX (by kernel_rfl)) (by rfl) (Or.inl (by rfl)) (@fY _) (by trivial) (by rfl)) (by trivial) (by rfl)) (by rfl) (by rfl)) (by rfl) (fun cl C s H ex=>⟨cW,@hX _ _ _ _ _ _ _ _ (aD (@bK _ _ _ _ _ _ _ _ _ _ _ _ (@bK _ _ _ _ _ _ _ _ _ _ _ _ (aB 2) ge_int (by exact fun _ _=>rfl)) ge_int (by exact fun _ _=>rfl)) (aD (@GE.sc _ _ _ _ _ _ _ (aB 1)) aF))⟩) (by intro _;rfl)) gW.nd (by rfl) (Or.inr (by rfl)) (by rfl) (by rfl) (by trivial))) cJ) (@aJ _ _ _ _ _ _ _ _ _ (@aX _ _ _ _ _ _ _ _ _ _ _ _ 4 (aP aH8 (hr.mono (by decide)) (by rfl) (aD (aB 2) (aD (aB 3) aF))) gW.nd (by rfl) (Or.inl (by rfl)) (by rfl) (by rfl) (by trivial)) (@aJ _ _ _ _ _ _ _ _ _ (@aX _ _ _ _ _ _ _ _ _ _ _ _ 5 (@GE.sc _ _ _ _ _ _ _ (aP aHf (hr.mono (by decide)) (by rfl) (aD (aB 3) aF))) gW.nd (by rfl) (Or.inr (by rfl)) (by rfl) (by rfl) (by trivial)) (@aJ _ _ _ _ _ _ _ _ _ (@dS _ _ _ _ _ _ _ _ _ 6 _ _ _ _ _ PassesOwn.never (by rfl) (eV (by rfl) (by rfl) aH1 (aD (eM (by rfl) (by rfl) aH2 (aD (aB 2) aF)) aF)) gW.nd (by rfl) (Or.inl (by rfl)) (@aK _ _ _ _ _ _ _ (@cI _ _ _ _ _ _ _ _ _ _ _ _ (@sM _ _ _ _ _ _ _ _ _ _ _ _ (aP aHo (hr.mono (by decide)) (by rfl) (aD (aB 4) (aD (aB 6) aF))) (@cL _ _ _ _ _ _ _ _ _ _ _ _ (aB 5) (@bK _ _ _ _ _ _ _ _ _ _ _ _ (aB 2) (aB 6) (by exact fun _ _=>rfl)))) (@aK _ _ _ _ _ _ _ (@aY _ _ _ _ _ _ _ _ (@bA _ _ _ _ _ _ _ _ _ jQ (by rfl)))) cJ)) (by rfl) (by intro _;rfl) (by trivial)) (@aJ _ _ _ _ _ _ _ _ _ (@cI _ _ _ _ _ _ _ _ _ _ _ _ (@BW _ _ _ _ _ _ _ _ _ _ _ _ hu (aP aHo (hr.mono (by decide)) (by rfl) (aD (aB 4) (aD (@eU _ _ _ _ _ _ _ _ _ _ _ _ (eM (by rfl) (by rfl) aH2 (aD (aB 2) aF)) ge_int) aF))) (@cL _ _ _ _ _ _ _ _ _ _ _ _ (aB 5) (@bK _ _ _ _ _ _ _ _ _ _ _ _ (aB 2) (@BD _ _ _ _ _ _ _ _ ge_int) (by exact fun _ _=>rfl)))) (@aK _ _ _ _ _ _ _ (@aY _ _ _ _ _ _ _ _ (@bA _ _ _ _ _ _ _ _ _ jQ (by rfl)))) cJ) (@aJ _ _ _ _ _ _ _ _ _ (@cI _ _ _ _ _ _ _ _ _ _ _ _ (@jW _ _ _ _ _ _ _ (BA (by rfl) (by rfl) (by rfl) aHr (aD (@hV _ _ _ _ _ _ _ _ _ _ _ _ _ _ _ _ _ _ _ _ (cG (by kernel_rfl) (N':=[ "number" ,"size" ]) (src:=[ none ,some 5 ])) (eK (by kernel_rfl) (fl':=[ 2 ,1 ])) (by decide) (by rfl) (fX (aB 4)) (by rfl) (by rfl) (fun cl C s H ex=>⟨cW,@jR _ _ _ _ _ _ _ _ _ _ _ _ hu (@cO _ _ _ _ _ _ _ _ _ _ _ _ (aB 0) (aB 1)) ge_int⟩) (by intro _;rfl)) aF)) (by intro _;rfl)) (@aJ _ _ _ _ _ _ _ _ _ (@IP _ _ _ _ _ _ _ _ _ _ _ _ _ _ _ _ _ _ _ _ _ _ _ _ _ 7 (cG (by kernel_rfl) (N':=[ "number" ,"size" ]) (src:=[ none ,some 5 ])) (eK (by kernel_rfl) (fl':=[ 2 ,1 ])) (by rfl) (fX (aB 4)) (by rfl) (by rfl) (fun cl C s H ex=>⟨cW,@fG _ _ _ _ _ _ _ _ _ _ _ _ (aB 0) (aB 1)⟩) gW.nd (by rfl) (Or.inl (by rfl)) (by rfl) (by rfl) (by intro _;rfl) (by trivial)) (@aJ _ _ _ _ _ _ _ _ _ (@cI _ _ _ _ _ _ _ _ _ _ _ _ (@GW.gt _ _ _ _ _ (@JE _ _ _ _ _ _ _ _ _ (@BU _ _ _ _ _ _ _ _ _ _ _ _ (aP aHg (hr.mono (by decide)) (by rfl) (aD (aB 2) (aD (aB 7) aF))) jQ) (@JF _ _ _ _ _ _ (@BU _ _ _ _ _ _ _ _ _ _ _ _ (aP aIa (hr.mono (by decide)) (by rfl) (aD (aB 2) (aD (aB 7) (aD (aB 3) aF)))) jQ)))) (@aK _ _ _ _ _ _ _ (@aY _ _ _ _ _ _ _ _ (@bA _ _ _ _ _ _ _ _ _ jQ (by rfl)))) cJ) (@aK _ _ _ _ _ _ _ (@cI _ _ _ _ _ _ _ _ _ _ _ _ (@BU _ _ _ _ _ _ _ _ _ _ _ _ (aP aIa (hr.mono (by decide)) (by rfl) (aD (aB 2) (aD (aB 7) (aD (HY aIh hP (hr.mono (by decide)) (by rfl) (aD (aB 2) (aD (aB 7) aF))) aF)))) jQ) (@aK _ _ _ _ _ _ _ (@aY _ _ _ _ _ _ _ _ (@bA _ _ _ _ _ _ _ _ _ jQ (by rfl)))) cJ)))) cJ) (@aJ _ _ _ _ _ _ _ _ _ (@IP _ _ _ _ _ _ _ _ _ _ _ _ _ _ _ _ _ _ _ _ _ _ _ _ _ 8 (cG (by kernel_rfl) (N':=[ "order" ]) (src:=[ none ])) (eK (by kernel_rfl) (fl':=[ 2 ])) (by rfl) (@jT _ _ _ _ _ _ _ _ (aP aHb (hr.mono (by decide)) (by rfl) (aD (aB 1) aF))) (by rfl) (by rfl) (fun cl C s H ex=>⟨cW,@hX _ _ _ _ _ _ _ _ (aD (aB 0) (aD ge_int aF))⟩) gW.nd (by rfl) (Or.inl (by rfl)) (by rfl) (by rfl) (by intro _;rfl) (by trivial)) (@aK _ _ _ _ _ _ _ (@aY _ _ _ _ _ _ _ _ (@bA _ _ _ _ _ _ _ _ _ (@jR _ _ _ _ _ _ _ _ _ _ _ _ hu (aP aH8 (hr.mono (by decide)) (by rfl) (aD (aB 2) (aD (aB 8) aF))) (aP aI9 (hr.mono (by decide)) (by rfl) (aD (aB 2) aF))) (by rfl)))))))))))))
theorem aBf {fd:FuncData}(aHx:Cal P w K mg base "_law_hands" 2 ["script"] kN false 3) (aHn:Cal P w K mg base "_law_falling" 3 ["script","hands"] kM true 3) (aH4:Cal P w K mg base "_law_cell" 1 ["script","k"] cQ false 3) (aHh:Cal P w K mg base "_law_drawn_mix" 2 ["cells","hands","most"] kL true 3) (aH8:Cal P w K mg base "mix_row" 3 ["table","mix"] cS true 3) (aHf:Cal P w K mg base "mix_size" 1 ["mix"] fU false 3) (aHo:Cal P w K mg base "_law_gives" 1 ["row","group"] jJ false 3) (aHg:Cal P w K mg base "is_base" 6 ["table","shares"] eZ false 3) (aIa:Cal P w K mg base "is_mix" 4 ["table","shares","mix"] gF false 3) (aIh:CalP P w K mg base Pt eQ "mixed" 7 ["table","shares"] jM false 3) (aHb:Cal P w K mg base "all_orders" 2 ["hands"] eY false 3) (aI9:Cal P w K mg base "mean_row" 4 ["table"] hE true 3) (aHs:mg "min" = none) (aH2:mg "len" = none) (aH1:mg "range" = none) (aHr:mg "all" = none) (Fu:Fun K "law" "law" gU f fd):
  FnOk P w K mg base CX0 8 f fd ["script"] (spP Pt eQ (spT K qH false 3)):=
 IJ Fu gW rfl (by decide) (fun ts t h=>bB h) (fun cdv A outer s H E hP hr=>UX aHx aHn aH4 aHh aH8 aHf aHo aHg aIa aIh aHb aI9 aHs aH2 aH1 aHr cdv A outer s H E hP hr) (fun ts t h=>bC h)
end My
namespace My
open PySem PySem.Spec PyProof.Rows L2 G
def sL (row:List Int) (g:Nat):Int:=(((List.range row.length).filter fun k=>g / 2^k%2 == 1).map fun k=>row.getD k 0).sum
def fE (ns:List Int) (k:Nat):Int:=ns.getD k 0
theorem ER (ns:List Int) (k:Nat):cQ [.lst (tI ns),.int (k:Int)]=some (.int (fE ns k)):=by
 rw[OR];unfold tY fE
 by_cases h:k<ns.length
 ·simp[h,eA h]
 ·simp[h,aJ0,List.getElem?_eq_none (Nat.le_of_not_lt h)]
theorem ES (ns:List Int):cQ [.lst (tI ns),.int 0]=some (.int (fE ns 0)):=ER ns 0
theorem BK (row:List Int) (g:Nat):sL row g=gv row g:=IR row g _
theorem cZ {n:Nat}(h:n<=6):2^n<=64:=aL9 (aLj (by decide) h) (by decide:2^6<=64)
theorem qJ {a b n:Nat}(h:a<2^n):a&&&b<2^n:=aLb Nat.and_le_left h
def Bd (b:Nat) (t:List Int):Prop:=∀ x∈t,x.natAbs<=b
theorem Bd.le {b c:Nat}{t:List Int}(h:Bd b t) (hc:b<=c):Bd c t:=fun x hx=>aL9 (h x hx) hc
theorem II {l:List Int}{i:Nat}(h:i<l.length):l.getD i 0∈l:=by
 rw[aJ0,aJ1 h];exact List.getElem_mem h
theorem Bd.get {b:Nat}{t:List Int}(h:Bd b t) (i:Nat):(t.getD i 0).natAbs<=b:=by
 by_cases hi:i<t.length
 ·exact h _ (II hi)
 ·rw[aJ0,List.getElem?_eq_none (Nat.le_of_not_lt hi)];exact aLq _
theorem Bd.of {b:Nat}{t:List Int}(h:∀ i,i<t.length->(t.getD i 0).natAbs<=b):Bd b t:=fun x hx=>by
 obtain⟨i,hi,rfl⟩:=aKv.mp hx;have:=h i hi
 rwa [aJ0,aJ1 hi] at this
theorem IK {row:List Int}{b:Nat}(hb:Bd b row) (h6:row.length<=6) (g:Nat):(sL row g).natAbs<=6*b:=by
 unfold sL;have key:∀ l:List Nat,((l.map fun k=>row.getD k 0).sum).natAbs<=l.length*b:=by
  intro l
  induction l with
  | nil=>simp
  | cons a r ih=>
   rw[aKo,aL5,aKe,Nat.add_mul,Nat.one_mul];have:=hb.get a;generalize (r.map fun k=>row.getD k 0).sum=s at ih;lia
 have h:=key ((List.range row.length).filter fun k=>g / 2^k%2 == 1);have hl:=aKf (fun k=>g / 2^k%2 == 1) (List.range row.length);rw[aKi] at hl;exact aL9 h (Nat.mul_le_mul_right _ (aL9 hl h6))
structure Fal (n b:Nat) (t:List Int):Prop where
 len:t.length=2^n
 zero:t.getD 0 0=0
 bd:Bd b t
 sub:Sub n t
theorem Fal.le {n b c:Nat}{t:List Int}(h:Fal n b t) (k:b<=c):Fal n c t:=⟨h.len,h.zero,h.bd.le k,h.sub⟩
theorem sS (t:List Int) (q:Int) (i:Nat):(t.map (· * q)).getD i 0=t.getD i 0*q:=by
 rw[aJ0,aJ0,aKa];cases t[i]?<;>simp
theorem aFe {n:Nat}{q:Int}(hq:0<=q) {t:List Int}(h:Sub n t):Sub n (t.map (· * q)):=fun a b ha hb=>by
 rw[sS,sS,sS,sS,<- Int.add_mul,<- Int.add_mul];exact aJr (h a b ha hb) hq
theorem qK (g:Nat):aM g<=6:=by unfold aM;lia
theorem ZU:(List.range 64).all (fun k=>zG (fR [.int (k:Int)]) (some (.int (aM k:Int))))=true:=by decide +kernel
theorem zR {g:Nat}(h:g<64):fR [.int (g:Int)]=some (.int (aM g:Int)):=DT (aJ5.mp ZU g (aJ6.mpr h))
theorem aF8 (k:Nat):sq k<=36:=by
 have:=qK k;unfold sq;exact Nat.mul_le_mul this this
theorem dI {t:List Int}{j:Nat}(hj:j<t.length) (v:Int) (i:Nat):(t.set j v).getD i 0=if i=j then v else t.getD i 0:=by
 by_cases h:i=j
 ·subst h
  rw[aJ0,aKc hj,if_pos rfl];rfl
 ·rw[aJ0,aJ9 (Ne.symm h),<- List.getD_eq_getElem?_getD,if_neg h]
theorem aFn (t:List Int) (x:Int):tI t++[T.int x]=tI (t++[x]):=by rw[NO];rfl
theorem aG4:(List.range 10).all (fun k=>match atI (tI [1,2,3,4,3,2,4,5,3,6]) (k:Int) with | some (.int i)=>decide (1<=i)&&decide (i<=6) | _=>false)=true:=by decide +kernel
theorem QI (ns:List Int):∃ n:Nat,1<=n/\n<=6/\kN [.lst (tI ns)]=some (.int (n:Int)):=by
 have c0:0<=fE ns 0%10:=aJm _ (by decide);have c1:fE ns 0%10<10:=aJl _ (by decide);have m:bE (.int (fE ns 0)) (.int 10)=some (.int ((fE ns 0%10).toNat:Int)):=by rw[cY (by decide),Int.toNat_of_nonneg c0]
 have hk:(fE ns 0%10).toNat<10:=by lia
 generalize (fE ns 0%10).toNat=k at m hk;have a:=aJ5.mp aG4 k (aJ6.mpr hk);cases h:atI (tI [1,2,3,4,3,2,4,5,3,6]) (k:Int) with
 | none=>rw[h] at a;cases a
 | some t=>
  rw[h] at a;cases t<;>first | (cases a;done) | skip
  rename_i i;simp only[aJc,decide_eq_true_eq] at a;refine⟨i.toNat,by lia,by lia,?_⟩;rw[OX];unfold uF;simp only[rRet_at,f1_at,f2_at,fC_at,fVar_at,fCall_at,aCons_at,aNil_at,zz0,jn,zz2,ES,m,oIx_lst,h,gScal_int,zz3,outT_rt]
  congr 2
  lia
theorem RM (ns:List Int) (hn:ns.length<=63) {n:Nat}(h1:1<=n) (h6:n<=6):∃ sl,kO [.lst (tI ns),.int (n:Int)]=some (.lst (tI sl))/\sl.length=2^n-1:=by
 have h64:=cZ h6;have hs2:2<=2^n:=aL9 (by decide:2<=2^1) (aLj (by decide) h1);have sh:=nB (b:=n) (by lia);have es:((2^n:Nat):Int)-1=((2^n-1:Nat):Int):=by lia
 have hr:=gP (2^n-1) (by lia);have r2:gQ [.int 1,.int (ns.length:Int)]=some (G.rangeT 1 (ns.length-1)):=by
  rw[CS (by decide) (by lia)]
  congr 2
  lia
 obtain⟨P0,hP0⟩:∃ P0:Int,P0=10^59:=⟨_,rfl⟩;have p59:dX (.int 10) (.int 59)=some (.int P0):=by rw[hP0];exact rA 10 59 (by decide +kernel)
 have mP:∀ i:Int,bE (.int i) (.int P0)=some (.int (i%P0)):=fun i=>cY (by rw[hP0];decide);have mS:∀ i:Int,bE (.int i) (.int ((2^n-1:Nat):Int))=some (.int (i%((2^n-1:Nat):Int))):=fun i=>cY (by lia);have m9:∀ i:Int,bE (.int i) (.int 1009)=some (.int (i%1009)):=fun i=>cY (by decide);have k3:∀ i:Int,bG (.int i) (.int 1000003)=some (.int (i*1000003)):=fun i=>sZ (by decide);have k4:∀ i:Int,bG (.int i) (.int 48271)=some (.int (i*48271)):=fun i=>sZ (by decide);have k7:∀ i:Int,bG (.int 7) (.int i)=some (.int (7*i)):=fun i=>xT (by decide);have e1:bL aR yN [none] (G.rangeT 0 (2^n-1))=some (tI ((List.range (2^n-1)).map fun (k:Nat)=>((k:Int)*(k:Int)*48271+7*(k:Int))%1009)):=GP _ fun k hk=>by
  have kk:bG (.int (k:Int)) (.int (k:Int))=some (.int ((k:Int)*(k:Int))):=xT (by lia);unfold yN;simp only[f2_at,fVar_at,fC_at,List.set,zz0,jn,zz2,kk,k4,k7,oAdd_int,m9]
 have hl0:((List.range (2^n-1)).map fun (k:Nat)=>((k:Int)*(k:Int)*48271+7*(k:Int))%1009).length=2^n-1:=by simp
 generalize ((List.range (2^n-1)).map fun (k:Nat)=>((k:Int)*(k:Int)*48271+7*(k:Int))%1009)=s0 at e1 hl0;obtain⟨ρ',hloop,sl,x4,x5,rfl,q⟩:=wW (j:=4) (body:=yM) (fun i ρ=>∃ sl x4 x5,ρ=[some (.lst (tI ns)),some (.int (n:Int)),some (.int ((2^n-1:Nat):Int)),some (.lst (tI sl)),x4,x5]/\sl.length=2^n-1) (G.rangeT 1 (ns.length-1)) (fun i hi ρ hρ=>by
   obtain⟨sl,x4,x5,rfl,q⟩:=hρ;have hi':i<ns.length-1:=by rw[nG] at hi;exact hi
   rw[DH];have a1:atI (tI ns) (1+(i:Int))=some (.int (ns.getD (1+(i:Int)).toNat 0)):=rZ (by lia) (by lia);generalize ns.getD (1+(i:Int)).toNat 0=c at a1;have p0:0<=(1+(i:Int)-1)%((2^n-1:Nat):Int):=aJm _ (by lia);have p1:(1+(i:Int)-1)%((2^n-1:Nat):Int)<((2^n-1:Nat):Int):=aJl _ (by lia);have mo:=mS (1+(i:Int)-1);generalize (1+(i:Int)-1)%((2^n-1:Nat):Int)=at' at p0 p1 mo;have a2:atI (tI sl) at'=some (.int (sl.getD at'.toNat 0)):=rZ (by lia) (by lia);have ix:ixN sl.length at'=some at'.toNat:=xH (by lia) (by lia);generalize sl.getD at'.toNat 0=g at a2;refine⟨[some (.lst (tI ns)),some (.int (n:Int)),some (.int ((2^n-1:Nat):Int)),some (.lst (tI (sl.set at'.toNat ((g*1000003+c)%P0)))),some (.int (1+(i:Int))),some (.int at')],.inl ?_,_,_,_,rfl,by simpa using q⟩;unfold yM;simp only[rSeq_at,rSet_at,rPut_at,f2_at,fVar_at,fC_at,List.set,zz0,zz1,jn,zz2,zz3,oSub_int,mo,oIx_lst,a2,k3,a1,oAdd_int,p59,mP,tI_length,ix,zN])
  [some (.lst (tI ns)),some (.int (n:Int)),some (.int ((2^n-1:Nat):Int)),some (.lst (tI s0)),none,none] ⟨_,_,_,rfl,hl0⟩
 refine⟨sl,?_,q⟩;have hc:s0.length<=cap:=by rw[hl0];unfold cap;lia
 rw[OZ];unfold uH;simp only[rSeq_at,rSet_at,rSetM_at,rFor_at,rRet_at,fMut_at,f2_at,fVar_at,fC_at,fCall_at,fComp_at,fRange_at,aCons_at,aNil_at,List.set,zz0,zz1,jn,zz2,zz3,sh,oSub_int,es,hr,bJ,aKq,aKo,aLs,e1,tI_length,hc,if_true,okM_lst,oLen_lst,r2,hloop,flat_tI',outT_rt]
theorem FD {n:Nat}(h1:1<=n) (h6:n<=6) {sl:List Int}(hsl:sl.length=2^n-1) {P:Int}(hP1:0<P) (hP2:P<=10^58):∃ t,jK [.lst (tI sl),.int (n:Int),.int P]=some (.lst (tI t))/\Fal n (10^62) t:=by
 have h64:=cZ h6;have hs2:2<=2^n:=aL9 (by decide:2<=2^1) (aLj (by decide) h1);have sh:=nB (b:=n) (by lia);have r2:gQ [.int 1,.int ((2^n:Nat):Int)]=some (G.rangeT 1 (2^n-1)):=by
  rw[CS (by decide) (by lia)]
  congr 2
  lia
 have d7:∀ i:Int,bV (.int i) (.int 7)=some (.int (i / 7)):=fun i=>gB (by decide) (by decide);have mP:∀ i:Int,bE (.int i) (.int P)=some (.int (i%P)):=fun i=>cY hP1;obtain⟨ρ',hloop,t,x4,x5,x6,rfl,w1,w2,w3⟩:=wW (j:=4) (body:=yL) (fun i ρ=>∃ t x4 x5 x6,ρ=[some (.lst (tI sl)),some (.int (n:Int)),some (.int P),some (.lst (tI t)),x4,x5,x6]/\t.length=1+i/\t.getD 0 0=0/\∀ k,k<1+i->∃ e:Int,0<=e/\e<P/\t.getD k 0=e-P*((sq k:Nat):Int)) (G.rangeT 1 (2^n-1)) (fun i hi ρ hρ=>by
   obtain⟨t,x4,x5,x6,rfl,w1,w2,w3⟩:=hρ;have hi':i<2^n-1:=by rw[nG] at hi;exact hi
   rw[DH];have a1:atI (tI sl) (1+(i:Int)-1)=some (.int (sl.getD (1+(i:Int)-1).toNat 0)):=rZ (by lia) (by lia);rw[show 1+(i:Int)=((1+i:Nat):Int) by lia] at a1 ⊢;rw[show 1+(i+1)=(1+i)+1 by lia];have hq:1+i<2^n:=by lia
   have hq0:1<=1+i:=by lia
   generalize 1+i=q at *;have fm:=zR (g:=q) (by lia);have hc6:=qK q;have k1:bG (.int P) (.int (aM q:Int))=some (.int (P*(aM q:Int))):=sZ (by lia);have k2:bG (.int (P*(aM q:Int))) (.int (aM q:Int))=some (.int (P*(aM q:Int)*(aM q:Int))):=sZ (by lia);have hzz:P*(aM q:Int)*(aM q:Int)=P*((sq q:Nat):Int):=by
    unfold sq;rw[Int.natCast_mul,Int.mul_assoc]
   generalize sl.getD ((q:Int)-1).toNat 0=g at a1;have c0:0<=g / 7%P:=aJm _ (by lia);have c1:g / 7%P<P:=aJl _ hP1;have mg:=mP (g / 7);generalize g / 7%P=e at c0 c1 mg;have hcap:t.length<cap:=by unfold cap;lia
   refine⟨[some (.lst (tI sl)),some (.int (n:Int)),some (.int P),some (.lst (tI (t++[e-P*(aM q:Int)*(aM q:Int)]))),some (.int (q:Int)),some (.int (aM q:Int)),some (.int e)],.inl ?_,_,_,_,_,rfl,by simp[w1],?_,fun k hk=>?_⟩
   ·unfold yL
    simp only[rSeq_at,rSet_at,rApp_at,f1_at,f2_at,fVar_at,fC_at,fCall_at,aCons_at,aNil_at,List.set,zz0,zz1,jn,zz2,zz3,fm,gScal_int,oSub_int,oIx_lst,a1,d7,mg,k1,k2,tI_length,hcap,if_true,aFn]
   ·rw[aJ0,List.getElem?_append_left (by lia),<- List.getD_eq_getElem?_getD];exact w2
   ·by_cases hkq:k=q
    ·subst hkq
     rw[aJ0,List.getElem?_append_right (by lia),w1];exact⟨e,c0,c1,by simp[hzz]⟩
    ·rw[aJ0,List.getElem?_append_left (by lia),<- List.getD_eq_getElem?_getD]
     exact w3 k (by lia))
  [some (.lst (tI sl)),some (.int (n:Int)),some (.int P),some (.lst (tI [0])),none,none,none] ⟨[0],_,_,_,rfl,rfl,rfl,fun k hk=>by
   have:k=0:=by lia
   subst this;exact⟨0,Int.le_refl _,hP1,by simp[sq,aM]⟩⟩
 rw[nG] at w1 w3;refine⟨t,?_,by lia,w2,Bd.of fun i hi=>?_,aA9 h6 hP1 fun k hk=>w3 k (by lia)⟩
 ·rw[OY]
  unfold uG;simp only[rSeq_at,rSetM_at,rFor_at,rRet_at,fMut_at,f2_at,fVar_at,fC_at,fRange_at,aCons_at,aNil_at,List.set,zz0,zz1,jn,zz2,zz3,okM_lst,if_true,sh,r2,hloop,flat_tI',outT_rt]
 ·obtain⟨e,z0,z1,z2⟩:=w3 i (by lia)
  rw[z2];have h36:=aF8 i;have hb:(P*((sq i:Nat):Int)).natAbs<=10^58*36:=by
   rw[Int.natAbs_mul];exact Nat.mul_le_mul (by lia) (by lia)
  generalize P*((sq i:Nat):Int)=z at hb;lia
theorem aG6 {n:Nat}(h6:n<=6) {tab:List Int}(hl:tab.length=2^n) (r0 r1 r2 r5 r8 r9 r10 r11:Option T) {part:Nat}{most weight:Int}(hm0:1<=most):
  ∃ tab' x8 x9,bO 8 uJ (G.rangeT 0 (2^n)) [r0,r1,r2,some (.lst (tI tab)),some (.int (part:Int)),r5,some (.int most),some (.int weight),r8,r9,r10,r11]=some (.nx [r0,r1,r2,some (.lst (tI tab')),some (.int (part:Int)),r5,some (.int most),some (.int weight),x8,x9,r10,r11])/\tab'.length=2^n/\∀ i,i<2^n->tab'.getD i 0=tab.getD i 0+weight*mn (aM (i&&&part)) most:=by
 have h64:=cZ h6;obtain⟨ρ',hloop,tab',x8,x9,rfl,q1,q2⟩:=mQ (j:=8) (n:=2^n) (body:=uJ) (fun j ρ=>∃ tab' x8 x9,ρ=[r0,r1,r2,some (.lst (tI tab')),some (.int (part:Int)),r5,some (.int most),some (.int weight),x8,x9,r10,r11]/\tab'.length=2^n/\∀ i:Nat,tab'.getD i 0=if i<j then tab.getD i 0+weight*mn (aM (i&&&part)) most else tab.getD i 0) (fun j hj ρ hρ=>by
   obtain⟨tab',x8,x9,rfl,q1,q2⟩:=hρ;have hand:j&&&part<64:=aJ7 (qJ hj) h64;have fh:=zR hand;have hc6:=qK (j&&&part);have ep:atI (tI tab') (j:Int)=some (.int (tab'.getD j 0)):=eA (by lia);have hx:=q2 j;rw[if_neg (aLa j)] at hx;rw[hx] at ep;have ix:ixN tab'.length (j:Int)=some j:=by rw[xH (by lia) (by lia)];simp
   have hmu:sY [.int most,.int (aM (j&&&part):Int)]=some (.int (mn (aM (j&&&part)) most)):=by
    show some (T.int (if ((aM (j&&&part):Nat):Int)<most then ((aM (j&&&part):Nat):Int) else most))=_;unfold mn
    congr 2
    split<;>split<;>lia
   have hb:0<=mn (aM (j&&&part)) most/\mn (aM (j&&&part)) most<=6:=by
    unfold mn
    split<;>lia
   have mu:bG (.int weight) (.int (mn (aM (j&&&part)) most))=some (.int (weight*mn (aM (j&&&part)) most)):=sZ (by lia);refine⟨[r0,r1,r2,some (.lst (tI (tab'.set j (tab.getD j 0+weight*mn (aM (j&&&part)) most)))),some (.int (part:Int)),r5,some (.int most),some (.int weight),some (.int (j:Int)),some (.int (mn (aM (j&&&part)) most)),r10,r11],?_,_,_,_,rfl,by simpa using q1,fun i=>?_⟩
   ·generalize mn (aM (j&&&part)) most=much at hmu mu
    generalize tab.getD j 0=g at ep;unfold uJ;simp only[rSeq_at,rSet_at,rPut_at,f2_at,fVar_at,fCall_at,aCons_at,aNil_at,List.set,zz0,zz1,jn,zz2,zz3,oAnd_int,sC,fh,tI_length,hmu,oIx_lst,ep,mu,oAdd_int,ix,zN]
   ·rw[dI (by lia),q2 i]
    by_cases hij:i=j
    ·subst hij
     rw[if_pos rfl,if_pos (aLd _)]
    ·rw[if_neg hij]
     by_cases h:i<j
     ·rw[if_pos h,if_pos (by lia)]
     ·rw[if_neg h,if_neg (by lia)])
  [r0,r1,r2,some (.lst (tI tab)),some (.int (part:Int)),r5,some (.int most),some (.int weight),r8,r9,r10,r11] ⟨tab,r8,r9,rfl,hl,fun i=>by rw[if_neg (Nat.not_lt_zero _)]⟩
 refine⟨tab',x8,x9,hloop,q1,fun i hi=>?_⟩;rw[q2 i,if_pos hi]
theorem aG5 {n:Nat}(h6:n<=6) {b:Nat}{tab tab':List Int}{part:Nat}{most weight:Int}(hm0:1<=most) (hw0:0<=weight) (hw:weight<10^50) (h:Fal n b tab) (hl':tab'.length=2^n)
  (he:∀ i,i<2^n->tab'.getD i 0=tab.getD i 0+weight*mn (aM (i&&&part)) most):Fal n (b+6*10^50) tab':=by
 have h64:=cZ h6;have hp:0<2^n:=aLl (by decide);refine⟨hl',?_,Bd.of fun i hi=>?_,fun x y hx hy=>?_⟩
 ·rw[he 0 hp,h.zero,Nat.zero_and]
  have:mn (aM 0) most=0:=by unfold mn;rw[if_neg (by simp[aM];lia)];rfl
  rw[this];simp
 ·rw[he i (by lia)]
  have h1:=h.bd.get i;have hc6:=qK (i&&&part);have hb:0<=mn (aM (i&&&part)) most/\mn (aM (i&&&part)) most<=6:=by
   unfold mn
   split<;>lia
  generalize mn (aM (i&&&part)) most=much at hb;have hwm:(weight*much).natAbs<=6*10^50:=by
   rw[Int.natAbs_mul,Nat.mul_comm];exact Nat.mul_le_mul (by lia) (by lia)
  generalize weight*much=z at hwm;lia
 ·rw[he _ (aLi hx hy),he _ (qJ hx),he _ hx,he _ hy]
  have s:=h.sub x y hx hy;have m:=aA0 (a:=x) (b:=y) (p:=part) (m:=most) (by lia) (by lia);have m':=aJq m hw0;rw[aJp,aJp] at m';lia
theorem SV:(List.range 64).all (fun g=>g == 0||decide (1<=aM g))=true:=by decide +kernel
theorem aG7 {n:Nat}(h6:n<=6) {sl row:List Int}(hsl:n<=sl.length) (hrow:row.length=n) {P:Int}(hP:P.natAbs<=10^50) (hr:∀ k,k<n->row.getD k 0=(sl.getD k 0 / 3%7-3)*P / 2) {tab:List Int}(hl:tab.length=2^n) (r4 r5 r6 r7 r8 r9 r10 r11:Option T):
  ∃ tab' x8 x10 x11,bO 8 uL (G.rangeT 0 (2^n)) [some (.lst (tI sl)),some (.int (n:Int)),some (.int P),some (.lst (tI tab)),r4,r5,r6,r7,r8,r9,r10,r11]=some (.nx [some (.lst (tI sl)),some (.int (n:Int)),some (.int P),some (.lst (tI tab')),r4,r5,r6,r7,x8,r9,x10,x11])/\tab'.length=2^n/\∀ i,i<2^n->tab'.getD i 0=tab.getD i 0+gv row i:=by
 have h64:=cZ h6;have hrn:=gP n (by lia);have d3:∀ i:Int,bV (.int i) (.int 3)=some (.int (i / 3)):=fun i=>gB (by decide) (by decide);have d2:∀ i:Int,bV (.int i) (.int 2)=some (.int (i / 2)):=fun i=>gB (by decide) (by decide);have m7:∀ i:Int,bE (.int i) (.int 7)=some (.int (i%7)):=fun i=>cY (by decide);obtain⟨ρ',hloop,tab',x8,x10,x11,rfl,q1,q2⟩:=mQ (j:=8) (n:=2^n) (body:=uL) (fun j ρ=>∃ tab' x8 x10 x11,ρ=[some (.lst (tI sl)),some (.int (n:Int)),some (.int P),some (.lst (tI tab')),r4,r5,r6,r7,x8,r9,x10,x11]/\tab'.length=2^n/\∀ i:Nat,tab'.getD i 0=if i<j then tab.getD i 0+gv row i else tab.getD i 0) (fun j hj ρ hρ=>by
   obtain⟨tab',x8,x10,x11,rfl,q1,q2⟩:=hρ;obtain⟨ρ2,hin,tab2,y10,y11,rfl,p1,p2⟩:=mQ (j:=10) (n:=n) (body:=uK) (fun k ρ=>∃ tab2 y10 y11,ρ=[some (.lst (tI sl)),some (.int (n:Int)),some (.int P),some (.lst (tI tab2)),r4,r5,r6,r7,some (.int (j:Int)),r9,y10,y11]/\tab2.length=2^n/\∀ i:Nat,tab2.getD i 0=if i=j then tab'.getD i 0+gvS row (List.range k) j else tab'.getD i 0) (fun k hk ρ hρ=>by
     obtain⟨tab2,y10,y11,rfl,p1,p2⟩:=hρ;rw[List.range_succ,BY];have hb:=FY j k;have a1:atI (tI sl) (k:Int)=some (.int (sl.getD k 0)):=eA (by lia);have ep:atI (tI tab2) (j:Int)=some (.int (tab2.getD j 0)):=eA (by lia);have ix:ixN tab2.length (j:Int)=some j:=by rw[xH (by lia) (by lia)];simp
     cases hc:j.testBit k with
     | true=>
      rw[hc] at hb;have hrk:=hr k hk;have z0:=aJm (sl.getD k 0 / 3) (show (7:Int)≠0 by decide);have z1:=aJl (sl.getD k 0 / 3) (show (0:Int)<7 by decide);have mo:=m7 (sl.getD k 0 / 3);generalize sl.getD k 0 / 3%7=w at z0 z1 hrk mo;have mu:bG (.int (w-3)) (.int P)=some (.int ((w-3)*P)):=xT (by lia);refine⟨[some (.lst (tI sl)),some (.int (n:Int)),some (.int P),some (.lst (tI (tab2.set j (tab2.getD j 0+(w-3)*P / 2)))),r4,r5,r6,r7,some (.int (j:Int)),r9,some (.int (k:Int)),some (.int (w-3))],?_,_,_,_,rfl,by simpa using p1,fun i=>?_⟩
      ·generalize tab2.getD j 0=g at ep
       unfold uK;simp only[rIf_at,rSeq_at,rSet_at,rPut_at,fB_at,f2_at,fVar_at,fC_at,List.set,zz0,zz1,jn,zz2,zz3,xV,oAnd_int,wN,oEq_int,hb,isB_bl,if_true,oIx_lst,a1,d3,mo,oSub_int,ep,mu,d2,oAdd_int,tI_length,ix,zN]
      ·rw[dI (by lia),p2 j,if_pos rfl,p2 i]
       by_cases hij:i=j
       ·subst hij;rw[if_pos rfl,if_pos rfl,if_pos rfl,hrk];lia
       ·rw[if_neg hij,if_neg hij,if_neg hij]
     | false=>
      rw[hc] at hb;refine⟨[some (.lst (tI sl)),some (.int (n:Int)),some (.int P),some (.lst (tI tab2)),r4,r5,r6,r7,some (.int (j:Int)),r9,some (.int (k:Int)),y11],?_,_,_,_,rfl,p1,fun i=>?_⟩
      ·unfold uK
       simp only[rIf_at,rNext_at,fB_at,f2_at,fVar_at,fC_at,List.set,zz0,zz1,jn,zz2,zz3,xV,oAnd_int,wN,oEq_int,hb,isB_bl,aJf,if_false]
      ·rw[p2 i];simp only[aJf,if_false,Int.add_zero])
    [some (.lst (tI sl)),some (.int (n:Int)),some (.int P),some (.lst (tI tab')),r4,r5,r6,r7,some (.int (j:Int)),r9,x10,x11] ⟨tab',x10,x11,rfl,q1,fun i=>by split<;>simp[gvS]⟩
   refine⟨_,?_,tab2,some (.int (j:Int)),y10,y11,rfl,p1,fun i=>?_⟩
   ·unfold uL
    simp only[rFor_at,fRange_at,fVar_at,aCons_at,aNil_at,List.set,zz0,zz1,jn,zz2,zz3,hrn,hin]
   ·rw[p2 i,q2 i,<- hrow]
    by_cases hij:i=j
    ·subst hij
     rw[if_pos rfl,if_neg (aLa _),if_pos (aLd _)];rfl
    ·rw[if_neg hij]
     by_cases h:i<j
     ·rw[if_pos h,if_pos (by lia)]
     ·rw[if_neg h,if_neg (by lia)])
  [some (.lst (tI sl)),some (.int (n:Int)),some (.int P),some (.lst (tI tab)),r4,r5,r6,r7,r8,r9,r10,r11] ⟨tab,r8,r10,r11,rfl,hl,fun i=>by rw[if_neg (Nat.not_lt_zero _)]⟩
 refine⟨tab',x8,x10,x11,hloop,q1,fun i hi=>?_⟩;rw[q2 i,if_pos hi]
theorem RN {n:Nat}(h1:1<=n) (h6:n<=6) {sl:List Int}(hsl:sl.length=2^n-1) {P:Int}(hP1:0<P) (hP2:P<=10^50):∃ t,kP [.lst (tI sl),.int (n:Int),.int P]=some (.lst (tI t))/\Fal n (10^62) t:=by
 have h64:=cZ h6;have hs2:2<=2^n:=aL9 (by decide:2<=2^1) (aLj (by decide) h1);have hns:n<=2^n-1:=by
  have:n<2^n:=Nat.lt_two_pow_self;lia
 have sh:=nB (b:=n) (by lia);have hr:=gP (2^n) (by lia);have r2:gQ [.int 1,.int ((2^n:Nat):Int)]=some (G.rangeT 1 (2^n-1)):=by
  rw[CS (by decide) (by lia)]
  congr 2
  lia
 have d5:∀ i:Int,bV (.int i) (.int 5)=some (.int (i / 5)):=fun i=>gB (by decide) (by decide);have d55:∀ i:Int,bV (.int i) (.int 55)=some (.int (i / 55)):=fun i=>gB (by decide) (by decide);have m11:∀ i:Int,bE (.int i) (.int 11)=some (.int (i%11)):=fun i=>cY (by decide);have m5:∀ i:Int,bE (.int i) (.int 5)=some (.int (i%5)):=fun i=>cY (by decide);have mP:∀ i:Int,bE (.int i) (.int P)=some (.int (i%P)):=fun i=>cY hP1;have e1:bL aR DN [none] (G.rangeT 0 (2^n))=some (tI ((List.range (2^n)).map fun _=>0)):=GP _ fun i _=>rfl;have hl0:((List.range (2^n)).map fun _=>(0:Int)).length=2^n:=by simp
 have hg0:∀ i,((List.range (2^n)).map fun _=>(0:Int)).getD i 0=0:=fun i=>by
  rw[aJ0,aKa];cases (List.range (2^n))[i]?<;>rfl
 have hf0:Fal n 0 ((List.range (2^n)).map fun _=>(0:Int)):=⟨hl0,hg0 0,fun x hx=>by obtain⟨_,_,rfl⟩:=aKw.mp hx;decide,fun a b _ _=>by rw[hg0,hg0,hg0,hg0];decide⟩;generalize ((List.range (2^n)).map fun _=>(0:Int))=t0 at e1 hl0 hf0;obtain⟨ρ',hloop,tab,x4,x5,x6,x7,x8,x9,rfl,qf⟩:=wW (j:=4) (body:=rF) (fun i ρ=>∃ tab x4 x5 x6 x7 x8 x9,ρ=[some (.lst (tI sl)),some (.int (n:Int)),some (.int P),some (.lst (tI tab)),x4,x5,x6,x7,x8,x9,none,none]/\Fal n (i*(6*10^50)) tab) (G.rangeT 1 (2^n-1)) (fun i hi ρ hρ=>by
   obtain⟨tab,x4,x5,x6,x7,x8,x9,rfl,qf⟩:=hρ;have hi':i<2^n-1:=by rw[nG] at hi;exact hi
   rw[DH];have a1:atI (tI sl) (1+(i:Int)-1)=some (.int (sl.getD (1+(i:Int)-1).toNat 0)):=rZ (by lia) (by lia);rw[show 1+(i:Int)=((1+i:Nat):Int) by lia] at a1 ⊢;have hq:1+i<2^n:=by lia
   have hq0:1<=1+i:=by lia
   generalize 1+i=q at a1 hq hq0;have fm:=zR (g:=q) (by lia);have hc6:=qK q;have hc1:1<=aM q:=by
    have:=aJ5.mp SV q (aJ6.mpr (by lia));simp at this;lia
   generalize sl.getD ((q:Int)-1).toNat 0=slot at a1;have mc:bE (.int (slot / 5%11)) (.int (aM q:Int))=some (.int (slot / 5%11%(aM q:Int))):=cY (by lia);have c0:0<=slot / 5%11%(aM q:Int):=aJm _ (by lia);have w0:0<=slot / 55%P:=aJm _ (by lia);have w1:slot / 55%P<P:=aJl _ hP1;have mw:=mP (slot / 55);generalize slot / 5%11%(aM q:Int)=cp at mc c0;generalize slot / 55%P=weight at mw w0 w1;have hle:i*(6*10^50)<=(i+1)*(6*10^50):=Nat.mul_le_mul_right _ (by lia)
   by_cases hw:weight > 0
   ·by_cases hs:slot%5<3
    ·obtain⟨tab',y8,y9,hin,p1,p2⟩:=aG6 h6 qf.len (some (.lst (tI sl))) (some (.int (n:Int))) (some (.int P)) (some (.int slot)) x8 x9 none none (part:=q) (most:=1+cp) (weight:=weight) (by lia)
     refine⟨_,.inl ?_,tab',some (.int (q:Int)),some (.int slot),some (.int (1+cp)),some (.int weight),y8,y9,rfl,by
      have:=aG5 h6 (most:=1+cp) (by lia) w0 (by lia) qf p1 p2;rw[Nat.add_mul,Nat.one_mul];exact this⟩
     unfold rF;simp only[rSeq_at,rSet_at,rIf_at,rFor_at,pAnd_at,fB_at,f1_at,f2_at,fVar_at,fC_at,fCall_at,fRange_at,aCons_at,aNil_at,List.set,zz0,zz1,jn,zz2,zz3,oSub_int,oIx_lst,a1,gScal_int,d5,m11,fm,mc,oAdd_int,d55,mw,oGt_int,hw,decide_true,isB_bl,if_true,m5,oLt_int,hs,sh,hr,hin]
    ·refine⟨_,.inl ?_,tab,some (.int (q:Int)),some (.int slot),some (.int (1+cp)),some (.int weight),x8,x9,rfl,qf.le hle⟩
     unfold rF;simp only[rSeq_at,rSet_at,rIf_at,rNext_at,pAnd_at,fB_at,f1_at,f2_at,fVar_at,fC_at,fCall_at,aCons_at,aNil_at,List.set,zz0,zz1,jn,zz2,zz3,oSub_int,oIx_lst,a1,gScal_int,d5,m11,fm,mc,oAdd_int,d55,mw,oGt_int,hw,decide_true,isB_bl,if_true,m5,oLt_int,hs,decide_false,aJf,if_false]
   ·refine⟨_,.inl ?_,tab,some (.int (q:Int)),some (.int slot),some (.int (1+cp)),some (.int weight),x8,x9,rfl,qf.le hle⟩
    unfold rF;simp only[rSeq_at,rSet_at,rIf_at,rNext_at,pAnd_at,fB_at,f1_at,f2_at,fVar_at,fC_at,fCall_at,aCons_at,aNil_at,List.set,zz0,zz1,jn,zz2,zz3,oSub_int,oIx_lst,a1,gScal_int,d5,m11,fm,mc,oAdd_int,d55,mw,oGt_int,hw,decide_false,isB_bl,aJf,if_false])
  [some (.lst (tI sl)),some (.int (n:Int)),some (.int P),some (.lst (tI t0)),none,none,none,none,none,none,none,none] ⟨t0,none,none,none,none,none,none,rfl,hf0.le (by lia)⟩
 rw[nG] at qf;have hrow:((List.range n).map fun k=>(sl.getD k 0 / 3%7-3)*P / 2).length=n:=by simp
 have hrg:∀ k,k<n->((List.range n).map fun k=>(sl.getD k 0 / 3%7-3)*P / 2).getD k 0=(sl.getD k 0 / 3%7-3)*P / 2:=fun k hk=>by
  rw[aJ0,aKa,List.getElem?_range hk];rfl
 have hrb:Bd (10^52) ((List.range n).map fun k=>(sl.getD k 0 / 3%7-3)*P / 2):=fun x hx=>by
  obtain⟨k,_,rfl⟩:=aKw.mp hx;have z0:=aJm (sl.getD k 0 / 3) (show (7:Int)≠0 by decide);have z1:=aJl (sl.getD k 0 / 3) (show (0:Int)<7 by decide);generalize sl.getD k 0 / 3%7=w at z0 z1;have hb:((w-3)*P).natAbs<=3*10^50:=by
   rw[Int.natAbs_mul];exact Nat.mul_le_mul (by lia) (by lia)
  generalize (w-3)*P=z at hb;lia
 generalize ((List.range n).map fun k=>(sl.getD k 0 / 3%7-3)*P / 2)=row at hrow hrg hrb;obtain⟨tab',y8,y10,y11,hloop2,p1,p2⟩:=aG7 h6 (sl:=sl) (row:=row) (by lia) hrow (P:=P) (by lia) hrg qf.len x4 x5 x6 x7 x8 x9 none none;have hc:t0.length<=cap:=by rw[hl0];unfold cap;lia
 refine⟨tab',?_,p1,?_,Bd.of fun i hi=>?_,fun a b ha hb=>?_⟩
 ·rw[PB]
  unfold uI;simp only[rSeq_at,rSetM_at,rFor_at,rRet_at,fMut_at,f2_at,fVar_at,fC_at,fComp_at,fRange_at,aCons_at,aNil_at,List.set,zz0,zz1,jn,zz2,zz3,sh,hr,bJ,aKq,aKo,aLs,e1,tI_length,hc,if_true,okM_lst,r2,hloop,hloop2,flat_tI',outT_rt]
 ·rw[p2 0 (by lia),qf.zero,mW];rfl
 ·rw[p2 i (by lia)]
  have q1:=qf.bd.get i;have q2:=IK hrb (by lia) i;rw[BK] at q2;have q4:∀ B:Nat,(2^n-1)*B<=64*B:=fun B=>Nat.mul_le_mul_right _ (by lia);have q3:=aL9 q1 (q4 _)
  clear q1 q4 qf
  lia
 ·rw[p2 _ (aLi ha hb),p2 _ (qJ ha),p2 _ ha,p2 _ hb]
  have s:=qf.sub a b ha hb;have m:=sN row a b;lia
theorem PY (ns:List Int) (hn:ns.length<=63) {n:Nat}(h1:1<=n) (h6:n<=6):∃ t,kM [.lst (tI ns),.int (n:Int)]=some (.lst (tI t))/\Fal n (10^200) t:=by
 have h64:=cZ h6;obtain⟨sl,esl,hsl⟩:=RM ns hn h1 h6;have fc:=ES ns;generalize fE ns 0=c at fc;have d10:∀ i:Int,bV (.int i) (.int 10)=some (.int (i / 10)):=fun i=>gB (by decide) (by decide);have d40:∀ i:Int,bV (.int i) (.int 40)=some (.int (i / 40)):=fun i=>gB (by decide) (by decide);have m4:∀ i:Int,bE (.int i) (.int 4)=some (.int (i%4)):=fun i=>cY (by decide);have m2:∀ i:Int,bE (.int i) (.int 2)=some (.int (i%2)):=fun i=>cY (by decide);have m8:∀ i:Int,bE (.int i) (.int 8)=some (.int (i%8)):=fun i=>cY (by decide);have cc2:(2:Nat)<=cap:=by decide
 obtain⟨A,hA⟩:∃ A:Int,A=10^50:=⟨_,rfl⟩;obtain⟨W,hW⟩:∃ W:Int,W=10^58:=⟨_,rfl⟩;have p50:dX (.int 10) (.int 50)=some (.int A):=by rw[hA];exact rA 10 50 (by decide +kernel)
 have p58:dX (.int 10) (.int 58)=some (.int W):=by rw[hW];exact rA 10 58 (by decide +kernel)
 obtain⟨P,eP,hP1,hP2⟩:∃ P:Int,atI [T.int 4,T.int A] (c / 10%4%2)=some (.int P)/\0<P/\P<=10^50:=by
  rcases (show c / 10%4%2=0\/c / 10%4%2=1 by lia) with h | h
  ·exact⟨4,by rw[h];rfl,by decide,by decide⟩
  ·exact⟨A,by rw[h];rfl,by rw[hA];decide,by rw[hA];exact Int.le_refl _⟩
 obtain⟨ta,ea,fa⟩:=RN h1 h6 hsl hP1 hP2;obtain⟨tb,eb,fb⟩:=FD h1 h6 hsl (P:=W) (by rw[hW];decide) (by rw[hW];exact Int.le_refl _);obtain⟨td,ed,fd⟩:=FD h1 h6 hsl (P:=3) (by decide) (by decide);have fin:∀ t1:List Int,Fal n (10^62) t1->∃ t,(aH (rIf (fB (f2 (f2 (f2 (aG (aC (aA 0) (aC (fC (.int 0)) aE)) cQ) (fC (.int 40)) bV) (fC (.int 8)) bE) (fC (.int 3)) oEq)) (dH 4 (cA (fFL (aA 4)) [none] aR uC)) bW) (aU (gL 4))) [some (.lst (tI ns)),some (.int (n:Int)),some (.lst (tI sl)),some (.int (c / 10%4)),some (.lst (tI t1))]=some (.rt (.lst (tI t)))/\Fal n (10^200) t:=by
  intro t1 hf1;have hl1:=hf1.len;have hb1:=hf1.bd;have hcap:t1.length<=cap:=by rw[hl1];unfold cap;lia
  by_cases hc:c / 40%8=3
  ·obtain⟨Q1,hQ1⟩:∃ Q:Int,Q=A^2:=⟨_,rfl⟩
   obtain⟨Q2,hQ2⟩:∃ Q:Int,Q=10^30:=⟨_,rfl⟩;have q2:dX (.int A) (.int 2)=some (.int Q1):=by rw[hQ1,hA];exact rA (10^50) 2 (by decide +kernel)
   have q3:dX (.int 10) (.int 30)=some (.int Q2):=by rw[hQ2];exact rA 10 30 (by decide +kernel)
   have q4:bG (.int Q1) (.int Q2)=some (.int (Q1*Q2)):=jE (kB 500 500 (by rw[hQ1,hA];decide +kernel) (by rw[hQ2];decide +kernel) (by decide) (by decide));have hq:(Q1*Q2).natAbs=10^130:=by rw[hQ1,hQ2,hA];decide +kernel
   have hq0:0<=Q1*Q2:=by rw[hQ1,hQ2,hA];decide +kernel
   generalize Q1*Q2=Q at q4 hq hq0;have e1:bL aR uC [none] (tI t1)=some (tI (t1.map (· * Q))):=by
    refine AG _ fun x hx=>?_;have q5:bG (.int Q) (.int x)=some (.int (x*Q)):=by
     rw[jE (kB 500 500 (by rw[hq];decide +kernel) (aLb (hb1 x hx) (by decide +kernel)) (by decide) (by decide)),Int.mul_comm]
    unfold uC;simp only[f2_at,fC_at,fVar_at,List.set,zz0,jn,zz2,p50,q2,q3,q4,q5]
   refine⟨t1.map (· * Q),?_,by simpa using hl1,?_,fun x hx=>?_,?_⟩
   ·simp only[rSeq_at,rSetM_at,rIf_at,rRet_at,fMut_at,fB_at,f2_at,fVar_at,fC_at,fCall_at,aCons_at,aNil_at,fComp_at,fFL_at,List.set,zz0,zz1,jn,zz2,zz3,fc,d40,m8,hc,oEq_int,beq_self_eq_true,isB_bl,if_true,dD,bJ,aKo,aKq,aLs,e1,tI_length,aKg,hcap,okM_lst,flat_tI']
   ·rw[sS,hf1.zero];simp
   ·obtain⟨y,hy,rfl⟩:=aKw.mp hx
    rw[Int.natAbs_mul,hq];exact aL9 (Nat.mul_le_mul_right _ (hb1 y hy)) (by decide)
   ·exact aFe hq0 hf1.sub
  ·have hc':(c / 40%8 == 3)=false:=by simpa using hc
   refine⟨t1,?_,hf1.le (by decide)⟩;simp only[rSeq_at,rIf_at,rNext_at,rRet_at,fMut_at,fB_at,f2_at,fVar_at,fC_at,fCall_at,aCons_at,aNil_at,zz0,zz1,jn,zz2,zz3,fc,d40,m8,hc',oEq_int,isB_bl,aJf,if_false,flat_tI',if_true]
 rw[OV];unfold uB;rw[rSeq_at,rSet_at];simp only[fCall_at,aCons_at,aNil_at,fVar_at,zz0,zz1,jn,zz2,zz3,esl,List.set];rw[rSeq_at,rSet_at];simp only[f2_at,fC_at,fCall_at,aCons_at,aNil_at,fVar_at,zz0,zz1,jn,zz2,zz3,fc,d10,m4,List.set];rw[rSeq_at,rSetM_at];simp only[f2_at,fC_at,fCall_at,fLst_at,aCons_at,aNil_at,fVar_at,zz0,zz1,jn,zz2,zz3,p50,aKe,aKh,aLp,Nat.reduceAdd,cc2,if_true,m2,oIx_lst,eP,ea,okM_lst,List.set]
 by_cases w0:c / 10%4=0
 ·obtain⟨t,e,f⟩:=fin tb fb
  rw[w0] at e ⊢;refine⟨t,?_,f⟩;rw[rSeq_at,rIf_at];simp only[rSetM_at,fB_at,f2_at,fC_at,fCall_at,aCons_at,aNil_at,fVar_at,zz0,zz1,jn,zz2,zz3,oEq_int,beq_self_eq_true,isB_bl,if_true,p58,eb,okM_lst,List.set];rw[rSeq_at,rIf_at];simp only[rNext_at,fB_at,f2_at,fC_at,fVar_at,zz0,zz1,jn,zz2,zz3,oEq_int,show ((0:Int) == 1)=false from rfl,isB_bl,aJf,if_false];rw[e];rfl
 ·have z0:(c / 10%4 == 0)=false:=by simpa using w0
  rw[rSeq_at,rIf_at];simp only[rNext_at,fB_at,f2_at,fC_at,fVar_at,zz0,zz1,jn,zz2,zz3,oEq_int,z0,isB_bl,aJf,if_false]
  by_cases w1:c / 10%4=1
  ·have z1:(c / 10%4 == 1)=true:=by simpa using w1
   obtain⟨t,e,f⟩:=fin td fd;refine⟨t,?_,f⟩;rw[rSeq_at,rIf_at];simp only[rSetM_at,fB_at,f2_at,fC_at,fCall_at,aCons_at,aNil_at,fVar_at,zz0,zz1,jn,zz2,zz3,oEq_int,z1,isB_bl,if_true,ed,okM_lst,List.set];rw[e];rfl
  ·have z1:(c / 10%4 == 1)=false:=by simpa using w1
   obtain⟨t,e,f⟩:=fin ta fa;refine⟨t,?_,f⟩;rw[rSeq_at,rIf_at];simp only[rNext_at,fB_at,f2_at,fC_at,fVar_at,zz0,zz1,jn,zz2,zz3,oEq_int,z1,isB_bl,aJf,if_false];rw[e];rfl
theorem EU {row:List Int}(h6:row.length<=6) (g:Nat):jJ [.lst (tI row),.int (g:Int)]=some (.int (gv row g)):=by
 have hr:=gP row.length (by lia);obtain⟨ρ',hloop,x3,rfl⟩:=mQ (j:=3) (n:=row.length) (body:=uE) (fun i ρ=>∃ x3,ρ=[some (.lst (tI row)),some (.int (g:Int)),some (.int (gvS row (List.range i) g)),x3]) (fun i hi ρ hρ=>by
  obtain⟨x3,rfl⟩:=hρ;have a1:atI (tI row) (i:Int)=some (.int (row.getD i 0)):=eA hi;rw[List.range_succ,BY];have hb:=FY g i;cases hc:g.testBit i with
  | true=>
   rw[hc] at hb;refine⟨_,?_,some (.int (i:Int)),rfl⟩;unfold uE;simp only[rIf_at,rSet_at,fB_at,f2_at,fVar_at,fC_at,List.set,zz0,zz1,jn,zz2,zz3,xV,oAnd_int,wN,oEq_int,hb,isB_bl,if_true,oIx_lst,a1,oAdd_int]
  | false=>
   rw[hc] at hb;refine⟨_,?_,some (.int (i:Int)),rfl⟩;unfold uE;simp only[rIf_at,rNext_at,fB_at,f2_at,fVar_at,fC_at,List.set,zz0,zz1,jn,zz2,zz3,xV,oAnd_int,wN,oEq_int,hb,isB_bl,aJf,if_false,Int.add_zero]) [some (.lst (tI row)),some (.int (g:Int)),some (.int 0),none] ⟨none,rfl⟩
 rw[OW];unfold uD;simp only[rSeq_at,rSet_at,rFor_at,rRet_at,f1_at,fVar_at,fC_at,fCall_at,aCons_at,aNil_at,fRange_at,List.set,zz0,zz1,jn,zz2,zz3,oLen_lst,tI_length,hr,hloop,gScal_int,outT_rt]
 rfl
def qQ (g:Nat):List Int:=((List.range 6).filter fun h=>g / 2^h%2 == 1).map fun (h:Nat)=>(h:Int)
theorem XY:(List.range 64).all (fun k=>zG (eS [.int (k:Int)]) (some (.lst (tI (qQ k)))))=true:=by decide +kernel
theorem EW {g:Nat}(h:g<64):eS [.int (g:Int)]=some (.lst (tI (qQ g))):=DT (aJ5.mp XY g (aJ6.mpr h))
theorem YA:(List.range 7).all (fun n=>(List.range (2^n)).all fun g=>decide (qQ g=((List.range n).filter fun k=>g / 2^k%2 == 1).map fun (k:Nat)=>(k:Int)))=true:=by decide +kernel
theorem XZ {n g:Nat}(hn:n<=6) (hg:g<2^n):qQ g=((List.range n).filter fun k=>g / 2^k%2 == 1).map fun (k:Nat)=>(k:Int):=
 of_decide_eq_true (aJ5.mp (aJ5.mp YA n (aJ6.mpr (by lia))) g (aJ6.mpr hg))
theorem aDa {n:Nat}(h:n<=6):2^n<=64:=aL9 (aLj (by decide) h) (by decide:2^6<=64)
theorem RI {row:List Int}(h6:row.length<=6) {g:Nat}(hg:g<2^row.length):fV [.lst (tI row),.int (g:Int)]=some (.int (sL row g)):=by
 have h64:=aDa h6;have e:bL aR zE [none,some (.lst (tI row))] (tI (qQ g))=some (tI (((List.range row.length).filter fun k=>g / 2^k%2 == 1).map fun k=>row.getD k 0)):=by
  rw[XZ h6 hg];have:(((List.range row.length).filter fun k=>g / 2^k%2 == 1).map fun k=>row.getD k 0)=(((List.range row.length).filter fun k=>g / 2^k%2 == 1).map fun (k:Nat)=>(k:Int)).map fun i=>row.getD i.toNat 0:=by
   simp
  rw[this];refine AG _ fun i hi=>?_;obtain⟨k,hk,rfl⟩:=aKw.mp hi;have hk':=aJ6.mp (aKu.mp hk).1;unfold zE;simp only[f1_at,f2_at,fVar_at,List.set,zz0,zz1,jn,zz2,oIx_lst,eA hk',gScal_int,aJv]
 have hc:(((List.range row.length).filter fun k=>g / 2^k%2 == 1).map fun k=>row.getD k 0).length<=cap:=by
  rw[aKg];have:=aKf (fun k=>g / 2^k%2 == 1) (List.range row.length);rw[aKi] at this;unfold cap;lia
 rw[RH];unfold vR sL;simp only[rRet_at,fCall_at,aCons_at,aNil_at,fComp_at,fFL_at,fVar_at,zz0,zz1,jn,zz2,zz3,EW (show g<64 by lia),dD,bJ,List.map,aLs,e,tI_length,hc,if_true,LC,outT_rt]
theorem SL:(List.range 7).all (fun n=>Builtin.Int.intBits ((2^n:Nat):Int) == n+1)=true:=by decide +kernel
theorem qG {t:List Int}{n:Nat}(h6:n<=6) (hl:t.length=2^n):cR [.lst (tI t)]=some (.int (n:Int)):=by
 have b:=eq_of_beq (aJ5.mp SL n (aJ6.mpr (by lia)));rw[QH];unfold uY;simp only[rRet_at,fCall_at,aCons_at,aNil_at,f1_at,f2_at,fC_at,fVar_at,zz0,zz1,jn,zz2,zz3,oLen_lst,tI_length,hl,oBits_int,b,oSub_int,outT_rt]
 congr 2
 lia
theorem EV {row:List Int}(h6:row.length<=6) {g:Nat}(hg:g<2^row.length):fV [.lst (tI row),.int (g:Int)]=some (.int (gv row g)):=by rw[RI h6 hg,BK]
def bQ (t row:List Int):List Int:=(List.range t.length).map fun g=>t.getD g 0-gv row g
theorem sR (t row:List Int):(bQ t row).length=t.length:=by simp[bQ]
theorem CK {t row:List Int}{g:Nat}(h:g<t.length):(bQ t row).getD g 0=t.getD g 0-gv row g:=sT h
theorem KG {n:Nat}{t row:List Int}(hl:t.length=2^n):bQ t row≠[]:=fun z=>by
 have:=sR t row;rw[z,hl] at this;have hp:0<2^n:=aLl (by decide);simp at this;lia
theorem wJ {n:Nat}(h6:n<=6) {t row:List Int}(hl:t.length=2^n) (hr:row.length=n):eJ [.lst (tI t),.lst (tI row)]=some (.lst (tI (bQ t row))):=by
 have h64:=cZ h6;have e:bR [0,1] aR zB [none,none,some (.lst (tI row))] (cU 0 (tI t))=some (tI (bQ t row)):=by
  refine TF _ fun g hg=>?_;unfold zB;simp only[f2_at,fVar_at,fCall_at,aCons_at,aNil_at,List.set,zz0,zz1,jn,zz2,EV (row:=row) (by lia) (show g<2^row.length by rw[hr,<- hl];exact hg),oSub_int]
 have hc:(bQ t row).length<=cap:=by rw[sR];unfold cap;lia
 rw[QS];unfold vF;simp only[rSeq_at,rIf_at,rNext_at,rRet_at,fB_at,f2_at,fVar_at,fCall_at,aCons_at,aNil_at,fCompT_at,fEnum_at,fFL_at,zz0,zz1,jn,zz2,zz3,oLen_lst,tI_length,qG h6 hl,hr,oNe_int,beq_self_eq_true,Bool.not_true,isB_bl,aJf,if_false,dD,bJ,aKo,aKq,aLs,e,hc,if_true,outT_rt]
theorem RG {n:Nat}(h6:n<=6) {t row:List Int}(hl:t.length=2^n) (hr:row.length=n):mH [.lst (tI t),.lst (tI row)]=some (.tup [.int ((bQ t row).idxOf (dF (bQ t row)):Nat),.int (-dF (bQ t row))]):=by
 have hne:=KG (row:=row) hl;have c2:(2:Nat)<=cap:=by decide
 have ng:∀ i:Int,qZ (.int i)=some (.int (-i)):=fun i=>rfl;rw[RF];unfold vQ;simp only[rSeq_at,rSet_at,rRet_at,f1_at,f2_at,fVar_at,fCall_at,aCons_at,aNil_at,fTup_at,List.set,zz0,zz1,jn,zz2,zz3,wJ h6 hl hr,aAe hne,aAb (KP hne),ng,aKe,aKh,aLp,Nat.reduceAdd,c2,if_true,outT_rt]
theorem RQ {n:Nat}(h6:n<=6) {t row:List Int}(hl:t.length=2^n) (hr:row.length=n):mD [.lst (tI t),.lst (tI row)]=some (.bl (-dF (bQ t row) == 0)):=by
 have i1:∀ x y:T,oIx (.tup [x,y]) (.int 1)=some y:=fun x y=>rfl;rw[QN];unfold vD;simp only[rRet_at,f2_at,fVar_at,fC_at,fCall_at,aCons_at,aNil_at,zz0,zz1,jn,zz2,zz3,RG h6 hl hr,i1,oEq_int,outT_rt]
theorem PV (t:List Int):fS [.lst (tI t)]=some (.int ((t.length:Int)-1)):=by
 rw[ET];simp[rJ]
theorem PD {n:Nat}(h6:n<=6) {t row:List Int}(hl:t.length=2^n) (hr:row.length=n):eZ [.lst (tI t),.lst (tI row)]=some (.bl ((-dF (bQ t row) == 0)&&(gv row (2^n-1) == t.getD (2^n-1) 0))):=by
 have hp:0<2^n:=aLl (by decide);have ew:(t.length:Int)-1=((2^n-1:Nat):Int):=by lia
 have a1:atI (tI t) ((2^n-1:Nat):Int)=some (.int (t.getD (2^n-1) 0)):=eA (by lia);have fg:=EV (row:=row) (by lia) (g:=2^n-1) (by rw[hr];lia);rw[QJ];unfold uZ;simp only[rSeq_at,rSet_at,rRet_at,vAnd_at,f1_at,f2_at,fVar_at,fCall_at,aCons_at,aNil_at,List.set,zz0,zz1,jn,zz2,zz3,PV,ew,gScal_int,RQ h6 hl hr,isB_bl,fg,oIx_lst,a1,oEq_int];cases (-dF (bQ t row) == 0)<;>rfl
def tN' (ns:List Nat):List Int:=ns.map fun (n:Nat)=>(n:Int)
theorem wD (ns:List Nat):(tN' ns).length=ns.length:=by simp[tN']
theorem OE {n j:Nat}{body:Rho->Option Out}{t:List Int}(h6:n<=6) (hl:t.length=2^n) (mk:List Int->Nat->Option T->Option T->Rho) (hset:∀ s a x y (h:Nat),(mk s a x y).set j (some (.int (h:Int)))=mk s a (some (.int (h:Int))) y)
  (hb:∀ (s:List Int) (a h:Nat) (y:Option T),s.length=n->a|||2^h<2^n->a.testBit h=false->h<n->∃ y',body (mk s a (some (.int (h:Int))) y)=some (.nx (mk (s.set h (t.getD (a|||2^h) 0-t.getD a 0)) (a|||2^h) (some (.int (h:Int))) y'))):
  ∀ (o:List Nat) (a:Nat) (s:List Int) (x y:Option T),s.length=n->a<2^n->o.Nodup->(∀ h∈o,h<n/\a.testBit h=false)->∃ a' x' y',bO j body (tI (tN' o)) (mk s a x y)=some (.nx (mk (dQ t o a s) a' x' y'))
 | [],a,s,x,y,_,_,_,_=>⟨a,x,y,rfl⟩
 | h::r,a,s,x,y,hs,ha,hn,hh=>by
  obtain⟨h1,h2⟩:=hh h aJ3;obtain⟨hr,hn'⟩:=aL1.mp hn;have hlt:a|||2^h<2^n:=aLi ha (Nat.pow_lt_pow_right (by decide) h1);obtain⟨y',e⟩:=hb s a h y hs hlt h2 h1;obtain⟨a',x'',y'',e2⟩:=OE h6 hl mk hset hb r (a|||2^h) (s.set h (t.getD (a|||2^h) 0-t.getD a 0)) (some (.int (h:Int))) y' (by rw[aKk,hs]) hlt hn' (fun k hk=>⟨(hh k (aJ2 _ hk)).1,by
   rw[aLn,aLo,(hh k (aJ2 _ hk)).2];simp;intro e;subst e;exact hr hk⟩)
  refine⟨a',x'',y'',?_⟩;show bO j body (.int (h:Int)::tI (tN' r)) (mk s a x y)=_;rw[sH,hset,e];exact e2
def aS (n:Nat) (t:List Int) (o:List Nat):List Int:=dQ t o 0 (List.replicate n 0)
theorem wE (n:Nat) (t:List Int) (o:List Nat):(aS n t o).length=n:=by unfold aS;rw[EG,List.length_replicate]
theorem LD {n:Nat}{o:List Nat}(hp:o.Perm (List.range n)):o.Nodup:=hp.nodup_iff.mpr aL2
theorem tJ {n:Nat}{o:List Nat}(hp:o.Perm (List.range n)) {h:Nat}(hh:h∈o):h<n:=aJ6.mp (hp.mem_iff.mp hh)
theorem RP {t:List Int}{n a b:Nat}(hl:t.length=2^n) (ha:a<2^n) (hb:b<2^n):mJ [.lst (tI t),.int (a:Int),.int (b:Int)]=some (.bl (decide (t.getD a 0+t.getD b 0<t.getD (a|||b) 0+t.getD (a&&&b) 0))):=by
 have e1:atI (tI t) (a:Int)=some (.int (t.getD a 0)):=eA (by lia);have e2:atI (tI t) (b:Int)=some (.int (t.getD b 0)):=eA (by lia);have e3:atI (tI t) ((a|||b:Nat):Int)=some (.int (t.getD (a|||b) 0)):=eA (by rw[hl];exact aLi ha hb);have e4:atI (tI t) ((a&&&b:Nat):Int)=some (.int (t.getD (a&&&b) 0)):=eA (by rw[hl];exact qJ ha);rw[RO];unfold vV;simp only[rRet_at,f2_at,fVar_at,zz0,zz1,jn,zz2,zz3,oIx_lst,e1,e2,oAdd_int,oOr_int,AC,e3,oAnd_int,sC,e4,oLt_int,outT_rt]
abbrev Tri:=Nat × Nat × Nat
def trT (x:Tri):T:=.tup [.int (x.1:Int),.int (x.2.1:Int),.int (x.2.2:Int)]
def bH (n S:Nat):List Nat:=(List.range 6).filter fun h=>(2^n-1-S) / 2^h%2 == 1
theorem YB (n S:Nat):qQ (2^n-1-S)=(bH n S).map fun (h:Nat)=>(h:Int):=rfl
def brk (t:List Int) (x:Tri):Bool:=decide (t.getD (x.1|||2^x.2.1) 0+t.getD (x.1|||2^x.2.2) 0<t.getD ((x.1|||2^x.2.1)|||(x.1|||2^x.2.2)) 0+t.getD ((x.1|||2^x.2.1)&&&(x.1|||2^x.2.2)) 0)
def sA (n S:Nat):List Tri:=(List.range (bH n S).length).flatMap fun p=>((bH n S).drop (p+1)).map fun j=>(S,(bH n S).getD p 0,j)
def kI (n:Nat):List Tri:=(List.range (2^n)).flatMap (sA n)
theorem OC:(List.range 7).all (fun n=>(List.range (2^n)).all fun S=>(bH n S).all (fun i=>decide (S|||2^i<2^n)&&decide (i<6))&&(sA n S).all (fun x=>decide (x.1|||2^x.2.1<2^n)&&decide (x.1|||2^x.2.2<2^n)&&(((x.1|||2^x.2.1)&&&(x.1|||2^x.2.2)) == x.1)&&(((x.1|||2^x.2.1)|||(x.1|||2^x.2.2)) == x.1|||(2^x.2.1|||2^x.2.2))))=true:=by decide +kernel
theorem LM {n S i:Nat}(hn:n<=6) (hS:S<2^n) (hi:i∈bH n S):S|||2^i<2^n/\i<6:=by
 have a:=aJ5.mp (aJ5.mp OC n (aJ6.mpr (by lia))) S (aJ6.mpr hS);rw[aJc] at a;have b:=aJ5.mp a.1 i hi
 simpa using b
theorem PX (t:List Int):fS [.lst (tI t)]=some (.int ((t.length:Int)-1)):=by
 rw[ET];simp[rJ]
theorem aGr:(List.range 7).all (fun n=>(List.range (2^n)).all fun g=>Builtin.bitXor ((2^n:Nat)-1:Int) (g:Int) == ((2^n-1-g:Nat):Int))=true:=by decide +kernel
theorem aGs {n g:Nat}(hn:n<=6) (hg:g<2^n):Builtin.bitXor (((2^n:Nat):Int)-1) (g:Int)=((2^n-1-g:Nat):Int):=
 eq_of_beq (aJ5.mp (aJ5.mp aGr n (aJ6.mpr (by lia))) g (aJ6.mpr hg))
def mN (t:List Int) (n S:Nat):Option T:=((sA n S).find? (brk t)).map trT
theorem PF {n S:Nat}(hn:n<=6) (hS:S<2^n) {t:List Int}(hl:t.length=2^n):kQ [.lst (tI t),.int (S:Int)]=some ((mN t n S).getD .non):=by
 have h64:=cZ hn;have fh:=EW (g:=2^n-1-S) (by lia);rw[YB] at fh;have hol:(bH n S).length<=6:=by
  unfold bH;refine aL9 (aKf _ _) ?_;rw[aKi];exact aL8 _
 have hlen:((bH n S).map fun (h:Nat)=>(h:Int)).length=(bH n S).length:=by simp
 have hget:∀ p,((bH n S).map fun (h:Nat)=>(h:Int)).getD p 0=(((bH n S).getD p 0:Nat):Int):=fun p=>by
  simp only[aJ0,aKa];cases (bH n S)[p]?<;>rfl
 have main:=HQ (js:=[3,4]) (body:=uP) (fun ρ=>∃ x3 x4 x5,ρ=[some (.lst (tI t)),some (.int (S:Int)),some (.lst (tI ((bH n S).map fun (h:Nat)=>(h:Int)))),x3,x4,x5])
  (fun u=>match u with | .tup [.int p,_]=>((bH n S).drop (p.toNat+1)).findSome? (fun j=>if brk t (S,(bH n S).getD p.toNat 0,j) then some (trT (S,(bH n S).getD p.toNat 0,j)) else none) | _=>none)
  (cU 0 (tI ((bH n S).map fun (h:Nat)=>(h:Int)))) (fun u hu ρ hρ=>by
   obtain⟨x3,x4,x5,rfl⟩:=hρ;rw[AN] at hu;obtain⟨p,hp,rfl⟩:=aKw.mp hu;have hp':p<(bH n S).length:=by rw[hlen] at hp;exact aJ6.mp hp
   rw[hget];refine⟨_,[some (.lst (tI t)),some (.int (S:Int)),some (.lst (tI ((bH n S).map fun (h:Nat)=>(h:Int)))),some (.int (p:Int)),some (.int (((bH n S).getD p 0:Nat):Int)),x5],rfl,rfl,?_⟩;have hi:(bH n S).getD p 0∈bH n S:=by
    rw[aJ0,aJ1 hp'];exact List.getElem_mem hp'
   obtain⟨oi,oi6⟩:=LM hn hS hi;simp only[aJv];generalize (bH n S).getD p 0=i at hi oi oi6;have hsl:cC (tI ((bH n S).map fun (h:Nat)=>(h:Int))) (some ((p:Int)+1)) none none=tI (((bH n S).drop (p+1)).map fun (h:Nat)=>(h:Int)):=by
    rw[ND,aF7 _ (by lia),<- List.map_drop];rw[show ((p:Int)+1).toNat=p+1 by lia]
   have inner:=AY (j:=5) (body:=rH) (fun ρ=>∃ x5,ρ=[some (.lst (tI t)),some (.int (S:Int)),some (.lst (tI ((bH n S).map fun (h:Nat)=>(h:Int)))),some (.int (p:Int)),some (.int (i:Int)),x5])
    (fun u=>match u with | .int j=>if brk t (S,i,j.toNat) then some (trT (S,i,j.toNat)) else none | _=>none)
    (tI (((bH n S).drop (p+1)).map fun (h:Nat)=>(h:Int))) (fun u hu ρ hρ=>by
     obtain⟨x5,rfl⟩:=hρ;unfold tI at hu;rw[aKp] at hu;obtain⟨j,hj,rfl⟩:=aKw.mp hu;obtain⟨oj,oj6⟩:=LM hn hS (List.mem_of_mem_drop hj);have s1:=nB (b:=i) (by lia);have s2:=nB (b:=j) (by lia);have tb:=RP hl oi oj;have c3:3<=cap:=by decide
     have run:rH [some (.lst (tI t)),some (.int (S:Int)),some (.lst (tI ((bH n S).map fun (h:Nat)=>(h:Int)))),some (.int (p:Int)),some (.int (i:Int)),some (.int (j:Int))]=if brk t (S,i,j) then some (.rt (trT (S,i,j))) else some (.nx [some (.lst (tI t)),some (.int (S:Int)),some (.lst (tI ((bH n S).map fun (h:Nat)=>(h:Int)))),some (.int (p:Int)),some (.int (i:Int)),some (.int (j:Int))]):=by
      unfold rH brk trT;simp only[rIf_at,rNext_at,rRet_at,fT_at,fTup_at,f1_at,f2_at,fVar_at,fC_at,fCall_at,aCons_at,aNil_at,zz0,zz1,jn,zz2,zz3,s1,s2,oOr_int,AC,tb,truT_bl,gScal_int,aKe,aKh,aLp,Nat.reduceAdd,c3,if_true]
     show _\/_;simp only[Function.comp,aJv,List.set];rw[run];cases hb:brk t (S,i,j) with
     | true=>exact .inr ⟨_,rfl,rfl⟩
     | false=>exact .inl ⟨rfl,_,rfl,_,rfl⟩) [some (.lst (tI t)),some (.int (S:Int)),some (.lst (tI ((bH n S).map fun (h:Nat)=>(h:Int)))),some (.int (p:Int)),some (.int (i:Int)),x5] ⟨_,rfl⟩
   have efs:(tI (((bH n S).drop (p+1)).map fun (h:Nat)=>(h:Int))).findSome? (fun u=>match u with | .int j=>if brk t (S,i,j.toNat) then some (trT (S,i,j.toNat)) else none | _=>none)=((bH n S).drop (p+1)).findSome? (fun j=>if brk t (S,i,j) then some (trT (S,i,j)) else none):=by
    unfold tI;rw[aKp,List.findSome?_map];refine wT fun j _=>?_;simp only[Function.comp,aJv]
   rw[efs] at inner;have e2:∀ r,bO 5 rH (tI (((bH n S).drop (p+1)).map fun (h:Nat)=>(h:Int))) [some (.lst (tI t)),some (.int (S:Int)),some (.lst (tI ((bH n S).map fun (h:Nat)=>(h:Int)))),some (.int (p:Int)),some (.int (i:Int)),x5]=r->uP [some (.lst (tI t)),some (.int (S:Int)),some (.lst (tI ((bH n S).map fun (h:Nat)=>(h:Int)))),some (.int (p:Int)),some (.int (i:Int)),x5]=r:=fun r hr=>by
    unfold uP;simp only[rFor_at,fFL_at,fSlice_at,oSome_at,oNone_at,f2_at,fVar_at,fC_at,zz0,zz1,jn,zz2,zz3,oAdd_int,isI_int,reduceCtorEq,if_false,hsl,dD,hr]
   rcases inner with ⟨h1,ρ',h2,x5',rfl⟩ | ⟨r,h1,h2⟩
   ·exact .inl ⟨h1,_,e2 _ h2,_,_,_,rfl⟩
   ·exact .inr ⟨r,h1,e2 _ h2⟩) [some (.lst (tI t)),some (.int (S:Int)),some (.lst (tI ((bH n S).map fun (h:Nat)=>(h:Int)))),none,none,none] ⟨_,_,_,rfl⟩
 have efs:(cU 0 (tI ((bH n S).map fun (h:Nat)=>(h:Int)))).findSome? (fun u=>match u with | .tup [.int p,_]=>((bH n S).drop (p.toNat+1)).findSome? (fun j=>if brk t (S,(bH n S).getD p.toNat 0,j) then some (trT (S,(bH n S).getD p.toNat 0,j)) else none) | _=>none)=mN t n S:=by
  rw[AN,List.findSome?_map,hlen];unfold mN sA;rw[List.find?_flatMap,List.map_findSome?];refine wT fun p _=>?_;simp only[Function.comp,aJv];rw[HK,List.find?_map,Option.map_map]
  rfl
 rw[efs] at main;have x1:Builtin.bitXor ((t.length:Int)-1) (S:Int)=((2^n-1-S:Nat):Int):=by rw[hl];exact aGs hn hS
 rw[PH];unfold uO;simp only[rSeq_at,rSet_at,rForT_at,rRet_at,fEnum_at,fFL_at,f2_at,fVar_at,fC_at,fCall_at,aCons_at,aNil_at,List.set,zz0,zz1,jn,zz2,zz3,PX,oXor_int,x1,fh,dD];rcases main with ⟨h1,ρ',h2,_⟩ | ⟨r,h1,h2⟩
 ·rw[h1,h2];rfl
 ·rw[h1,h2];rfl
def sD (t:List Int) (n:Nat):Option T:=((kI n).find? (brk t)).map trT
theorem PK {n:Nat}(hn:n<=6) {t:List Int}(hl:t.length=2^n):kR [.lst (tI t)]=some ((sD t n).getD .non):=by
 have h64:=cZ hn;have hr:=gP t.length (by lia);have main:=AY (j:=1) (body:=yO) (fun ρ=>∃ x1 x2,ρ=[some (.lst (tI t)),x1,x2]) (fun u=>match u with | .int S=>mN t n S.toNat | _=>none) (G.rangeT 0 t.length) (fun u hu ρ hρ=>by
  obtain⟨x1,x2,rfl⟩:=hρ;obtain⟨S,hS,rfl⟩:=KO hu;rw[Int.zero_add];simp only[aJv,List.set];have fb:=PF hn (S:=S) (by lia) hl;unfold yO;cases hb:mN t n S with
  | none=>
   rw[hb] at fb;refine .inl ⟨rfl,[some (.lst (tI t)),some (.int (S:Int)),some .non],?_,_,_,rfl⟩;simp only[rSeq_at,rSet_at,rIf_at,rNext_at,fB_at,f1_at,f2_at,fVar_at,fC_at,fCall_at,aCons_at,aNil_at,List.set,zz0,zz1,jn,zz2,zz3,fb,Option.getD_none]
   rfl
  | some r=>
   rw[hb] at fb;have hr3:∃ x:Tri,r=trT x:=by
    unfold mN at hb;cases hf:(sA n S).find? (brk t) with
    | none=>rw[hf] at hb;cases hb
    | some x=>rw[hf] at hb;exact⟨x,(aIz hb).symm⟩
   obtain⟨x,rfl⟩:=hr3;refine .inr ⟨_,rfl,?_⟩;simp only[rSeq_at,rSet_at,rIf_at,rRet_at,fB_at,f1_at,f2_at,fVar_at,fC_at,fCall_at,aCons_at,aNil_at,List.set,zz0,zz1,jn,zz2,zz3,fb,Option.getD_some]
   rfl) [some (.lst (tI t)),none,none] ⟨_,_,rfl⟩
 have efs:(G.rangeT 0 t.length).findSome? (fun u=>match u with | .int S=>mN t n S.toNat | _=>none)=sD t n:=by
  rw[DI,List.findSome?_map,hl];unfold sD kI;rw[List.find?_flatMap,List.map_findSome?];exact wT fun S _=>by simp only[Function.comp,aJv];rfl
 rw[efs] at main;rw[PJ];unfold uQ;simp only[rSeq_at,rFor_at,rRet_at,fRange_at,fC_at,fVar_at,fCall_at,aCons_at,aNil_at,zz0,jn,zz2,zz3,oLen_lst,tI_length,hr];rcases main with ⟨h1,ρ',h2,_⟩ | ⟨r,h1,h2⟩
 ·rw[h1,h2];rfl
 ·rw[h1,h2];rfl
theorem YU (t:List Int) (n:Nat):oIs ((sD t n).getD .non) .non=some (.bl ((kI n).find? (brk t)).isNone):=by
 unfold sD;cases (kI n).find? (brk t)<;>rfl
theorem PZ {n:Nat}(hn:n<=6) {t:List Int}(hl:t.length=2^n):jL [.lst (tI t)]=some (.bl ((kI n).find? (brk t)).isNone):=by
 rw[QA];unfold uU;simp only[rRet_at,f2_at,fVar_at,fC_at,fCall_at,aCons_at,aNil_at,zz0,jn,zz2,zz3,PK hn hl,YU,outT_rt]
theorem aG9 {n:Nat}(hn:n<=6) {x:Tri}(hx:x∈kI n):x.1|||2^x.2.1<2^n/\x.1|||2^x.2.2<2^n/\(x.1|||2^x.2.1)&&&(x.1|||2^x.2.2)=x.1/\(x.1|||2^x.2.1)|||(x.1|||2^x.2.2)=x.1|||(2^x.2.1|||2^x.2.2):=by
 unfold kI at hx;obtain⟨S,hS,hb⟩:=List.mem_flatMap.mp hx;have a:=aJ5.mp (aJ5.mp OC n (aJ6.mpr (by lia))) S hS;rw[aJc] at a;have b:=aJ5.mp a.2 x hb;rw[aJc,aJc,aJc] at b;obtain⟨⟨⟨b1,b2⟩,b3⟩,b4⟩:=b;exact⟨of_decide_eq_true b1,of_decide_eq_true b2,eq_of_beq b3,eq_of_beq b4⟩
theorem WF {n:Nat}(h6:n<=6) {t:List Int}(hs:Sub n t):(kI n).find? (brk t)=none:=by
 rw[List.find?_eq_none];intro x hx;obtain⟨h1,h2,h3,h4⟩:=aG9 h6 hx;have s:=hs _ _ h1 h2;unfold brk;simp only[decide_eq_true_eq];lia
theorem RE {n:Nat}(h6:n<=6) {t:List Int}(hl:t.length=2^n) (hs:Sub n t):mG [.lst (tI t)]=some .non:=by
 have f:=PZ h6 hl;rw[WF h6 hs] at f;have f:jL [.lst (tI t)]=some (.bl true):=f;rw[RD];unfold vP;simp only[rIf_at,rNext_at,pNot_at,fT_at,fVar_at,fCall_at,aCons_at,aNil_at,zz0,jn,zz2,zz3,f,truT_bl,Bool.not_true,aJf,if_false,outT_nx]
theorem CT {n:Nat}(h6:n<=6):tF (.lst (tI [0])) (.int (n:Int))=some (.lst (tI (List.replicate n 0))):=by
 rcases (show n=0\/n=1\/n=2\/n=3\/n=4\/n=5\/n=6 by lia) with rfl | rfl | rfl | rfl | rfl | rfl | rfl<;>rfl
theorem zQ {n:Nat}(h6:n<=6) {t:List Int}(hl:t.length=2^n) {o:List Nat}(hp:o.Perm (List.range n)):gE [.lst (tI t),.lst (tI (tN' o))]=some (.lst (tI (aS n t o))):=by
 have h64:=cZ h6;have hp0:0<2^n:=aLl (by decide);obtain⟨a',x',y',hloop⟩:=OE (j:=4) (body:=yP) h6 hl (fun s a x y=>[some (.lst (tI t)),some (.lst (tI (tN' o))),some (.lst (tI s)),some (.int (a:Int)),x,y]) (fun s a x y h=>rfl) (fun s a h y hs hlt hb hh=>by
  have sh:=nB (b:=h) (by lia);have hle:a<=a|||2^h:=Nat.left_le_or;have a1:atI (tI t) ((a|||2^h:Nat):Int)=some (.int (t.getD (a|||2^h) 0)):=eA (by lia);have a2:atI (tI t) (a:Int)=some (.int (t.getD a 0)):=eA (by lia);have ix:ixN s.length (h:Int)=some h:=by rw[xH (by lia) (by lia)];simp
  refine⟨some (.int ((a|||2^h:Nat):Int)),?_⟩;unfold yP;simp only[rSeq_at,rSet_at,rPut_at,f1_at,f2_at,fVar_at,fC_at,List.set,zz0,zz1,jn,zz2,zz3,sh,oOr_int,AC,oIx_lst,a1,a2,oSub_int,tI_length,ix,zN,gScal_int]) o 0 (List.replicate n 0) none none (by simp) hp0 (LD hp) (fun h hh=>⟨tJ hp hh,aLr h⟩)
 rw[PL];unfold uR aS;simp only[rSeq_at,rSet_at,rSetM_at,rFor_at,rRet_at,fMut_at,f2_at,fVar_at,fC_at,fCall_at,aCons_at,aNil_at,fFL_at,List.set,zz0,zz1,jn,zz2,zz3,qG h6 hl,CT h6,okM_lst,if_true,dD];rw[show (T.int 0)=T.int ((0:Nat):Int) from rfl,hloop];simp only[zz2,zz0,zz1,jn,flat_tI',if_true,zz3,outT_rt]
theorem LB (i:Int):qZ (.int i)=some (.int (-i)):=rfl
theorem AZ (y z:Int):aZ (.tup [.int y,.int z])=some (.tup [.int y,.int z]):=rfl
theorem EQ (t b:Int) (hb:b.natAbs<2^9000):kT [.int t,.int b]=some (.int (Int.gcd t b:Int)):=by
 obtain⟨x',h⟩:=WR (p:=yR) (r:=yQ) (st:=fun a b' x=>[some (.int t),some (.int b),some (.int (a:Int)),some (.int (b':Int)),x])
  (fun a b' x=>by
   have e:oNe (.int (b':Int)) (.int 0)=some (.bl (decide (b'≠0))):=by
    rw[oNe_int];congr 2;rcases Nat.eq_zero_or_pos b' with e | e
    ·subst e;rfl
    ·rw[decide_eq_true (show b'≠0 by lia)]
     simp;lia
   unfold yR;simp only[fB_at,f2_at,fVar_at,fC_at,zz0,zz1,jn,zz2,e,isB_bl])
  (fun a b' x hb'=>by
   have e:bE (.int (a:Int)) (.int (b':Int))=some (.int ((a%b':Nat):Int)):=by rw[cY (by lia),Int.natCast_emod]
   refine⟨some (.int ((a%b':Nat):Int)),?_⟩;unfold yQ;simp only[rSeq_at,rSet_at,f1_at,f2_at,fVar_at,List.set,zz0,zz1,jn,zz2,zz3,e,gScal_int]) t.natAbs b.natAbs none hb
 rw[PM];unfold uS;simp only[rSeq_at,rSet_at,rRet_at,f1_at,fVar_at,fCall_at,aCons_at,aNil_at,List.set,zz0,zz1,jn,zz2,zz3,aAa,h,gScal_int,outT_rt]
 rfl
theorem QD {t b:Int}(h0:b≠0) (hb:b.natAbs<2^9000):kW [.int t,.int b]=some (.tup [.int (frI t b).1,.int (frI t b).2]):=by
 have hf:=HR (t:=t) h0;have hc:(2:Nat)<=cap:=by decide
 have d1:nA (.int t) (.int (frD t b))=some (.int (frI t b).1):=KZ hf.1 (aLb hf.2.1 hb);have d2:nA (.int b) (.int (frD t b))=some (.int (frI t b).2):=KZ hf.1 (aLb hf.2.1 hb);rw[QC];unfold uV
 by_cases h:b<0
 ·have ed : -(Int.gcd t b:Int)=frD t b:=by unfold frD;rw[if_pos h]
  simp only[rSeq_at,rSet_at,rIf_at,rRet_at,fB_at,f1_at,f2_at,fVar_at,fC_at,fCall_at,fTup_at,aCons_at,aNil_at,List.set,zz0,zz1,jn,zz2,zz3,EQ t b hb,gScal_int,oLt_int,h,decide_true,isB_bl,if_true,LB,ed,d1,d2,aKe,aKh,aLp,Nat.reduceAdd,hc,outT_rt]
 ·have ed:(Int.gcd t b:Int)=frD t b:=by unfold frD;rw[if_neg h]
  simp only[rSeq_at,rSet_at,rIf_at,rNext_at,rRet_at,fB_at,f1_at,f2_at,fVar_at,fC_at,fCall_at,fTup_at,aCons_at,aNil_at,List.set,zz0,zz1,jn,zz2,zz3,EQ t b hb,gScal_int,oLt_int,h,decide_false,isB_bl,aJf,if_false,ed,d1,d2,aKe,aKh,aLp,Nat.reduceAdd,hc,if_true,outT_rt]
theorem zS {g k:Nat}:mK [.int ((2^k:Nat):Int),.int (g:Int)]=some (.bl (g.testBit k)):=by
 rw[RS];unfold vW;simp only[rRet_at,f2_at,fVar_at,zz0,zz1,jn,zz2,zz3,oAnd_int,sC,oEq_int,outT_rt];rw[<- aGq]
 congr 2
 generalize 2^k&&&g=z;generalize 2^k=y;rw[aJe];simp;lia
def dR (t s:List Int):List Nat:=(List.range t.length).filter fun g=>(bQ t s).getD g 0 == 0
theorem HS {t s:List Int}{g:Nat}(hg:g<t.length):((bQ t s).getD g 0 == 0)=(gv s g == t.getD g 0):=by
 rw[CK hg,aJe];simp;lia
theorem QF {n:Nat}(h6:n<=6) {t s:List Int}(hl:t.length=2^n) (hs:s.length=n):kY [.lst (tI t),.lst (tI s)]=some (.lst (tI ((dR t s).map fun (g:Nat)=>(g:Int)))):=by
 have h64:=cZ h6;have e:bR [0,1] yU yT [none,none] (cU 0 (tI (bQ t s)))=some (tI ((dR t s).map fun (g:Nat)=>(g:Int))):=by
  rw[VR];rw[AH (fun p:Nat=>[T.int (p:Int),T.int ((bQ t s).getD p 0)]) (fun g=>(bQ t s).getD g 0 == 0) (fun g=>T.int (g:Int)) (List.range (bQ t s).length) (fun g hg=>by
   refine⟨_,rfl,?_,fun _=>?_⟩
   ·unfold yU
    simp only[fB_at,f2_at,fVar_at,fC_at,List.set,zz0,zz1,jn,zz2,oEq_int,isB_bl]
   ·unfold yT
    simp only[f1_at,fVar_at,List.set,zz0,zz1,jn,zz2,gScal_int])]
  unfold dR tI;rw[aKp,sR];rfl
 have hc:((dR t s).map fun (g:Nat)=>(g:Int)).length<=cap:=by
  rw[aKg];unfold dR;refine aL9 (aKf _ _) ?_;rw[aKi];unfold cap;lia
 rw[QG];unfold uX;simp only[rRet_at,fVar_at,fCall_at,aCons_at,aNil_at,fCompT_at,fEnum_at,fFL_at,zz0,zz1,jn,zz2,zz3,wJ h6 hl hs,dD,bJ,aKo,aKq,aLs,e,tI_length,hc,if_true,outT_rt]
def gD (acc:Option Nat) (g:Nat):Option Nat:=some (match acc with | none=>g | some a=>a&&&g)
def cT:Option Nat->T
 | none=>.non
 | some c=>.int (c:Int)
theorem RK (gs:List Nat) {h:Nat}(hh:h<6):mI [.lst (tI (gs.map fun (g:Nat)=>(g:Int))),.int (h:Int)]=some (cT ((gs.filter fun g=>g.testBit h).foldl gD none)):=by
 have sh:=nB (b:=h) (by lia);have key:∀ (xs:List Nat) (acc:Option Nat) (r0 x3:Option T),∃ y3,bO 3 vU (tI (xs.map fun (g:Nat)=>(g:Int))) [r0,some (.int (h:Int)),some (cT acc),x3]=some (.nx [r0,some (.int (h:Int)),some (cT ((xs.filter fun g=>g.testBit h).foldl gD acc)),y3]):=by
  intro xs
  induction xs with
  | nil=>intro acc r0 x3;exact⟨x3,rfl⟩
  | cons g xs ih=>
   intro acc r0 x3;rw[aKo,tI_cons,sH];have turn:vU ([r0,some (.int (h:Int)),some (cT acc),x3].set 3 (some (.int (g:Int))))=some (.nx [r0,some (.int (h:Int)),some (cT (if g.testBit h then gD acc g else acc)),some (.int (g:Int))]):=by
    unfold vU;cases hb:g.testBit h with
    | true=>
     cases acc with
     | none=>
      have on:oIs .non .non=some (.bl true):=rfl;simp only[rIf_at,rSet_at,fT_at,fIf_at,fB_at,f1_at,f2_at,fVar_at,fC_at,fCall_at,aCons_at,aNil_at,List.set,zz0,zz1,jn,zz2,zz3,sh,zS,hb,truT_bl,if_true,cT,on,isB_bl,gScal_int,gD]
     | some a=>
      have on:oIs (.int (a:Int)) .non=some (.bl false):=rfl;simp only[rIf_at,rSet_at,fT_at,fIf_at,fB_at,f1_at,f2_at,fVar_at,fC_at,fCall_at,aCons_at,aNil_at,List.set,zz0,zz1,jn,zz2,zz3,sh,zS,hb,truT_bl,if_true,cT,on,isB_bl,aJf,if_false,oAnd_int,sC,gD]
    | false=>
     simp only[rIf_at,rNext_at,fT_at,f2_at,fVar_at,fC_at,fCall_at,aCons_at,aNil_at,List.set,zz0,zz1,jn,zz2,zz3,sh,zS,hb,truT_bl,aJf,if_false]
   rw[turn];obtain⟨y3,e⟩:=ih (if g.testBit h then gD acc g else acc) r0 (some (.int (g:Int)));refine⟨y3,?_⟩;rw[aK1];cases hb:g.testBit h with
   | true=>rw[hb] at e;exact e
   | false=>rw[hb] at e;exact e
 obtain⟨y3,e⟩:=key gs none (some (.lst (tI (gs.map fun (g:Nat)=>(g:Int))))) none;have gc:∀ c,aZ (cT c)=some (cT c):=fun c=>by cases c<;>rfl
 rw[RL];unfold vT;simp only[rSeq_at,rSet_at,rFor_at,rRet_at,fFL_at,f1_at,fVar_at,fC_at,List.set,zz0,zz1,jn,zz2,zz3,dD];rw[show (T.non)=cT none from rfl,e];simp only[zz2,zz0,zz1,jn,gc,zz3,outT_rt]
theorem YG {α β:Type}(f:α->β) (xs:List α) (i:Int) (y:α):dC (xs.map f) i (f y)=(dC xs i y).map f:=by
 unfold dC;simp[List.map_take,List.map_drop]
theorem YH {α:Type}(xs:List α) (i:Int) (y:α):(dC xs i y).Perm (y::xs):=by
 unfold dC;have:=List.perm_middle (a:=y) (l₁:=xs.take (min i.toNat xs.length)) (l₂:=xs.drop (min i.toNat xs.length))
 rwa [List.take_append_drop] at this
theorem PR (c:Int) {n:Nat}(h6:n<=6):∃ o:List Nat,kK [.int c,.int (n:Int)]=some (.lst (tI (tN' o)))/\o.Perm (List.range n):=by
 obtain⟨ρ',hloop,o,x0,x3,rfl,hp⟩:=mQ (j:=3) (n:=n) (body:=yK) (fun i ρ=>∃ (o:List Nat) (x0:Int) (x3:Option T),ρ=[some (.int x0),some (.int (n:Int)),some (.lst (tI (tN' o))),x3]/\o.Perm (List.range i)) (fun i hi ρ hρ=>by
   obtain⟨o,c,x3,rfl,hp⟩:=hρ;have hol:o.length=i:=by rw[hp.length_eq,aKi]
   have p0:0<=c%((i:Int)+1):=aJm _ (by lia);have p1:c%((i:Int)+1)<(i:Int)+1:=aJl _ (by lia);have mi:bE (.int c) (.int ((i:Int)+1))=some (.int (c%((i:Int)+1))):=cY (by lia);have di:bV (.int c) (.int ((i:Int)+1))=some (.int (c / ((i:Int)+1))):=gB (by lia) (by lia);generalize c%((i:Int)+1)=q at p0 p1 mi;have hcap:(tI (tN' o)).length<cap/\0<=q/\q<2^63:=⟨by rw[tI_length,wD,hol];unfold cap;lia,p0,by lia⟩;have hins:dC (tI (tN' o)) q (.int (i:Int))=tI (tN' (dC o q i)):=by
    unfold tI tN';rw[aKp,aKp];exact YG (fun (n:Nat)=>T.int (n:Int)) o q i
   refine⟨[some (.int (c / ((i:Int)+1))),some (.int (n:Int)),some (.lst (tI (tN' (dC o q i)))),some (.int (i:Int))],?_,_,_,_,rfl,?_⟩
   ·unfold yK
    simp only[rSeq_at,rSet_at,rIns_at,f1_at,f2_at,fVar_at,fC_at,List.set,zz0,zz1,jn,zz2,oAdd_int,mi,gScal_int,hins];rw[if_pos hcap];simp only[zz2,zz3,zz0,zz1,jn,oAdd_int,di,List.set]
   ·refine (YH o q i).trans ?_
    rw[List.range_succ];exact (List.Perm.cons i hp).trans (List.perm_append_singleton i (List.range i)).symm) [some (.int c),some (.int (n:Int)),some (.lst (tI (tN' []))),none] ⟨[],c,none,rfl,.refl _⟩
 have hr:=gP n (by lia);have hn:tI (tN' [])=[]:=rfl;rw[hn] at hloop;have z0:(0:Nat)<=cap:=aLq _;refine⟨o,?_,hp⟩;rw[OS];unfold tZ;simp only[rSeq_at,rSetM_at,rFor_at,rRet_at,fMut_at,fLst_at,fVar_at,aCons_at,aNil_at,fRange_at,List.set,zz0,zz1,jn,zz2,zz3,aKh,z0,if_true,okM_lst,hr,hloop,flat_tI',outT_rt]
abbrev Mx:=List Nat × Int
def tpM (x:Mx):List T:=[.lst (tI (tN' x.1)),.int x.2]
def OkM (n:Nat) (m:List Mx):Prop:=∀ x∈m,x.1.Perm (List.range n)/\x.2.natAbs<2^100000
def OkD (most:Int) (n:Nat) (m:List Mx):Prop:=∀ x∈m,x.1.Perm (List.range n)/\1<=x.2/\x.2<=most
theorem PQ {n:Nat}(h6:n<=6) {most:Int}(hm0:0<most) (hm:most<=10^40):∀ (cs:List Int),cs.length<=1000->∃ m:List Mx,kL [.lst (tI cs),.int (n:Int),.int most]=some (.lst (tP tpM m))/\OkD most n m/\m.length=cs.length:=fun cs hcs=>by
 have d7:∀ i:Int,bV (.int i) (.int 7)=some (.int (i / 7)):=fun i=>gB (by decide) (by decide);have mm:∀ i:Int,bE (.int i) (.int most)=some (.int (i%most)):=fun i=>cY hm0;have c2:(2:Nat)<=cap:=by decide
 have key:∀ (cs':List Int) (m:List Mx) (x4:Option T),OkD most n m->m.length+cs'.length<=1000->∃ m' y4,bO 4 nH (tI cs') [some (.lst (tI cs)),some (.int (n:Int)),some (.int most),some (.lst (tP tpM m)),x4]=some (.nx [some (.lst (tI cs)),some (.int (n:Int)),some (.int most),some (.lst (tP tpM m')),y4])/\OkD most n m'/\m'.length=m.length+cs'.length:=by
  intro cs'
  induction cs' with
  | nil=>exact fun m x4 hm hl=>⟨m,x4,rfl,hm,by simp⟩
  | cons c cs' ih=>
   intro m x4 hm' hlen;rw[aKe] at hlen;obtain⟨o,eo,hp⟩:=PR (c / 7) h6;have w0:=aJm c (show most≠0 by lia);have w1:=aJl c hm0;have mc:=mm c;generalize c%most=w at *;have hb:1<=1+w/\1+w<=most:=⟨by lia,by lia⟩;obtain⟨m',y4,e,q⟩:=ih (m++[(o,1+w)]) (some (.int c)) (fun x hx=>by
    rcases aKr.mp hx with hx | hx
    ·exact hm' x hx
    ·rw[aKz] at hx
     subst hx;exact⟨hp,hb⟩) (by rw[aKd];show m.length+1+_<=_;lia)
   refine⟨m',y4,?_,q.1,by have:=q.2;rw[aKd] at this;rw[aKe];have e1:[(o,1+w)].length=1:=rfl;lia⟩;have hcap:(tP tpM m).length<cap:=by unfold tP;rw[aKg];unfold cap;lia
   have ta:tP tpM m++[T.tup [.lst (tI (tN' o)),.int (1+w)]]=tP tpM (m++[(o,1+w)]):=by unfold tP;rw[List.map_append];rfl
   have turn:nH ([some (.lst (tI cs)),some (.int (n:Int)),some (.int most),some (.lst (tP tpM m)),x4].set 4 (some (.int c)))=some (.nx [some (.lst (tI cs)),some (.int (n:Int)),some (.int most),some (.lst (tP tpM (m++[(o,1+w)]))),some (.int c)]):=by
    unfold nH;simp only[rApp_at,fTup_at,f1_at,f2_at,fVar_at,fC_at,fCall_at,aCons_at,aNil_at,List.set,zz0,zz1,jn,zz2,zz3,d7,eo,mc,oAdd_int,aKe,aKh,aLp,Nat.reduceAdd,c2,if_true,hcap,ta]
   show bO 4 nH (T.int c::tI cs') _=_;rw[sH,turn];exact e
 obtain⟨m,y4,e,q⟩:=key cs [] none (fun x hx=>by cases hx) (by simpa using hcs);have e:bO 4 nH (tI cs) [some (.lst (tI cs)),some (.int (n:Int)),some (.int most),some (.lst []),none]=_:=e;have z0:(0:Nat)<=cap:=aLq _;refine⟨m,?_,q.1,by have:=q.2;simpa using this⟩;rw[OU];unfold uA;simp only[rSeq_at,rSetM_at,rFor_at,rRet_at,fMutD_at,fLst_at,fFL_at,fVar_at,aCons_at,aNil_at,List.set,zz0,zz1,jn,zz2,zz3,aKh,z0,if_true,okM_lst,dD,e,outT_rt]
theorem NU {b : Nat} {t : List Int} (hb : ∀ x y, (t.getD x 0 - t.getD y 0).natAbs <= b) : ∀ (o : List Nat) (a : Nat) (s : List Int), Bd b s -> Bd b (dQ t o a s)
 | [], _, s, h => h
 | h :: r, a, s, hs => NU hb r (a ||| 2 ^ h) (s.set h (t.getD (a ||| 2 ^ h) 0 - t.getD a 0)) (Bd.of fun i hi => by
   rw [aKk] at hi
   by_cases z : i = h
   ·rw [z] at hi ⊢
    rw [dI hi, if_pos rfl]; exact hb _ _
   ·by_cases zz : h < s.length
    ·rw [dI zz, if_neg z]; exact hs.get i
    ·rw [List.set_eq_of_length_le (by lia)]; exact hs.get i)
theorem NR {n:Nat}{t:List Int}(hb:Bd (10^200) t) (o:List Nat):Bd (10^201) (aS n t o):=by
 unfold aS;refine NU (fun x y=>?_) o 0 _ (fun x hx=>?_)
 ·have h1:=hb.get x
  have h2:=hb.get y;have e:10^200+10^200<=10^201:=by decide
  lia
 ·rw[List.eq_of_mem_replicate hx];exact aLq _
def stM (n:Nat) (t r:List Int) (x:Mx):List Int:=(List.range n).map fun h=>r.getD h 0+x.2*(aS n t x.1).getD h 0
theorem kH (n:Nat) (t r:List Int) (x:Mx):(stM n t r x).length=n:=by simp[stM]
theorem sG (n:Nat) (t:List Int):∀ (m:List Mx) (r:List Int),r.length=n->(m.foldl (stM n t) r).length=n
 | [],_,h=>h
 | x::m,r,_=>sG n t m _ (kH n t r x)
theorem AJ {f:Rho->Option T}{ρ:Rho}(h:Int->Int->Int):∀ (ns ms:List Int),(∀ y∈ms,∀ x:Int,f ((ρ.set 0 (some (.int x))).set 1 (some (.int y)))=some (.int (h x y)))->bR [0,1] aR f ρ (eI (tI ns) (tI ms))=some (tI (List.zipWith h ns ms))
 | [],_,_=>rfl
 | _::_,[],_=>rfl
 | n::ns,m::ms,h2=>by
  have ih:=AJ h ns ms fun y hy=>h2 y (aJ2 _ hy);show (setL ρ [0,1] [.int n,.int m]).bind _=_;simp only[setL_cons,setL_nil,zz2,aR,if_true];rw[h2 m aJ3 n];show ((bR [0,1] aR f ρ (eI (tI ns) (tI ms))).map (T.int (h n m) :: ·))=_;rw[ih]
  rfl
theorem OP {n:Nat}{t r:List Int}(hr:r.length=n) (x:Mx):List.zipWith (fun g s=>g+x.2*s) r (aS n t x.1)=stM n t r x:=by
 refine List.ext_getElem (by rw[List.length_zipWith,wE,kH,hr,Nat.min_self]) fun i i1 i2=>?_;rw[kH] at i2;simp only[List.getElem_zipWith,stM,List.getElem_map,List.getElem_range];rw[aJ0,aJ1 (by lia),aJ0,aJ1 (by rw[wE];exact i2)]
 rfl
theorem FB {n:Nat}(h6:n<=6) {t:List Int}(hl:t.length=2^n) (hb:Bd (10^200) t) {m:List Mx}(hm:OkM n m):cS [.lst (tI t),.lst (tP tpM m)]=some (.lst (tI (m.foldl (stM n t) (List.replicate n 0)))):=by
 obtain⟨ρ',hlp,x3,x4,rfl⟩:=wV (js:=[3,4]) (body:=rL) tpM (fun ys ρ=>∃ x3 x4,ρ=[some (.lst (tI t)),some (.lst (tP tpM m)),some (.lst (tI (ys.foldl (stM n t) (List.replicate n 0)))),x3,x4]) m [] (fun x hx ys ρ hρ=>by
  obtain⟨x3,x4,rfl⟩:=hρ;obtain⟨hp,hx2⟩:=hm x hx;have fb:=zQ h6 hl hp;have hrl:=sG n t ys (List.replicate n 0) (by simp);have e1:bR [0,1] aR rM [none,none,some (.int x.2)] (eI (tI (ys.foldl (stM n t) (List.replicate n 0))) (tI (aS n t x.1)))=some (tI (stM n t (ys.foldl (stM n t) (List.replicate n 0)) x)):=by
   rw[<- OP hrl x];refine AJ _ _ _ fun y hy g=>?_;have mu:bG (.int x.2) (.int y)=some (.int (x.2*y)):=jE (kB 100000 700 hx2 (aLb (NR hb x.1 y hy) (by decide +kernel)) (by decide) (by decide));unfold rM;simp only[f2_at,fVar_at,List.set,zz0,zz1,jn,zz2,mu,oAdd_int]
  have hc1:(stM n t (ys.foldl (stM n t) (List.replicate n 0)) x).length<=cap:=by rw[kH];unfold cap;lia
  refine⟨[some (.lst (tI t)),some (.lst (tP tpM m)),some (.lst (tI (ys.foldl (stM n t) (List.replicate n 0)))),some (.lst (tI (tN' x.1))),some (.int x.2)],[some (.lst (tI t)),some (.lst (tP tpM m)),some (.lst (tI ((ys++[x]).foldl (stM n t) (List.replicate n 0)))),some (.lst (tI (tN' x.1))),some (.int x.2)],rfl,?_,_,_,rfl⟩;rw[List.foldl_append,aK5,List.foldl_nil];generalize stM n t (ys.foldl (stM n t) (List.replicate n 0)) x=r' at *;generalize ys.foldl (stM n t) (List.replicate n 0)=r at *;unfold rL;simp only[rSetM_at,fVar_at,fCompT_at,fZip_at,fFL_at,fCall_at,aCons_at,aNil_at,List.set,zz0,zz1,jn,zz2,zz3,fb,dD,bJ,aKo,aKq,aLs,e1,tI_length,hc1,if_true,okM_lst]) [some (.lst (tI t)),some (.lst (tP tpM m)),some (.lst (tI (List.replicate n 0))),none,none] ⟨none,none,rfl⟩
 rw[List.nil_append] at hlp;have iL:∀ l:List T,isL (.lst l)=some l:=fun _=>rfl;have fh:=qG h6 hl;have ro:=CT h6;rw[EY];unfold rK;simp only[rSeq_at,rSetM_at,rForT_at,rRet_at,fMut_at,f2_at,fVar_at,fC_at,fL_at,fCall_at,aCons_at,aNil_at,List.set,zz0,zz1,jn,zz2,zz3,fh,ro,if_true,okM_lst,iL,hlp,flat_tI',outT_rt]
def mZ (a:Nat) (o:List Nat):Nat:=o.foldl (fun a h=>a|||2^h) a
theorem CM:∀ (o:List Nat) (a k:Nat),(mZ a o).testBit k=(a.testBit k||o.contains k)
 | [],a,k=>by simp[mZ]
 | h::o,a,k=>by
  show (mZ (a|||2^h) o).testBit k=_;rw[CM o,aLn,aLo,List.contains_cons,Bool.or_assoc]
  congr 2
  rw[aJe];simp;exact⟨fun e=>e.symm,fun e=>e.symm⟩
theorem NT (t:List Int):∀ (o p:List Nat) (a:Nat) (s:List Int),dQ t (o++p) a s=dQ t p (mZ a o) (dQ t o a s)
 | [],p,a,s=>rfl
 | h::o,p,a,s=>by
  show dQ t (o++p) (a|||2^h) _=_;rw[NT t o p];rfl
theorem NW {n:Nat}{t:List Int}:∀ (o:List Nat) (a:Nat) (s:List Int),Tk n t a s->o.Nodup->(∀ h∈o,h<n/\a.testBit h=false)->Tk n t (mZ a o) (dQ t o a s)
 | [],a,s,T,_,_=>T
 | h::r,a,s,T,hn,hb=>by
  obtain⟨h1,h2⟩:=hb h aJ3;obtain⟨hr,hn'⟩:=aL1.mp hn;exact NW r (a|||2^h) _ (T.step h1 h2) hn' (fun k hk=>⟨(hb k (aJ2 _ hk)).1,SK (hb k (aJ2 _ hk)).2 (fun e=>by subst e;exact hr hk)⟩)
structure Bas (n:Nat) (t s:List Int):Prop where
 len:s.length=n
 und:∀ g,g<2^n->gv s g<=t.getD g 0
 all:gv s (2^n-1)=t.getD (2^n-1) 0
theorem ZV:(List.range 64).all (fun k=>zG (gZ [.int (k:Int)]) (some (.int (aM k:Int))))=true:=by decide +kernel
theorem QV {g:Nat}(h:g<64):gZ [.int (g:Int)]=some (.int (aM g:Int)):=DT (aJ5.mp ZV g (aJ6.mpr h))
theorem FE {m:Int}{t:List Int}(hm:∀ x∈t,fN m x=true) (hc:t.length<=1000000):gG [.int m,.lst (tI t)]=some (.lst (tI (t.map (m * ·)))):=by
 have e:bL aR zF [none,some (.int m)] (tI t)=some (tI (t.map (m * ·))):=by
  refine AG _ fun x hx=>?_;unfold zF;simp only[f2_at,fVar_at,List.set,zz0,zz1,jn,zz2,jE (hm x hx)]
 have hc':t.length<=cap:=hc;rw[RJ];unfold vS;simp[dD,bJ,e,hc']
theorem FT {n:Nat}(h6:n<=6) {t s:List Int}(hl:t.length=2^n) (hz:t.getD 0 0=0) (B:Bas n t s):eZ [.lst (tI t),.lst (tI s)]=some (.bl true):=by
 have hp0:0<2^n:=aLl (by decide);rw[PD h6 hl B.len];have hm:dF (bQ t s)=0:=by
  have h1:=KP (KG (row:=s) hl);obtain⟨g,hg,e⟩:=aKv.mp h1;have hg':g<t.length:=by rw[sR] at hg;exact hg
  have e':(bQ t s).getD g 0=dF (bQ t s):=by rw[aJ0,aJ1 hg];exact e
  rw[CK hg'] at e';have h2:=B.und g (by lia);have h3:dF (bQ t s)<=(bQ t s).getD 0 0:=ZX (II (by rw[sR];lia));rw[CK (by lia),mW,hz] at h3;lia
 rw[hm,B.all];simp
theorem aGl (n:Nat):(upT n).Pairwise (·<=·):=by
 unfold upT;refine List.pairwise_map.mpr ((List.pairwise_lt_range (n:=n)).imp fun h=>by lia)
theorem aFc {o:List Nat}{n:Nat}(h:o.Perm (List.range n)):jI (tN' o)=upT n:=
 FQ ((ED _).trans (h.map _)) (NG _) (aGl n)
theorem wQ {f:Rho->Option T}{ρ:Rho}(h:Mx->T) (m:List Mx) (hf:∀ x∈m,f ((ρ.set 0 (some (.lst (tI (tN' x.1))))).set 1 (some (.int x.2)))=some (h x)):bR [0,1] aR f ρ (tP tpM m)=some (m.map h):=by
 have:=AH (js:=[0,1]) (p:=aR) (f:=f) (ρ:=ρ) tpM (fun _=>true) h m (fun x hx=>⟨(ρ.set 0 (some (.lst (tI (tN' x.1))))).set 1 (some (.int x.2)),rfl,rfl,fun _=>hf x hx⟩);rw[this,List.filter_eq_self.mpr (fun _ _=>rfl)]
theorem aGb (l:List Int) (i:Int) (ρ:Rho) {f g:Rho->Option T}(h1:f ρ=some (.lst (tI l))) (h2:g ρ=some (.int i)):dM (aC f (aC g aE)) ρ=some (.tup [.lst (tI l),.int i]):=by
 have c2:(2:Nat)<=cap:=by decide
 simp only[fTup_at,aCons_at,aNil_at,h1,h2,zz2,aKe,aKh,aLp,Nat.reduceAdd,c2,if_true]
theorem CJ (m:List Mx):(tP tpM m).length=m.length:=by unfold tP;rw[aKg]
theorem xG (l:List T):isL (.lst l)=some l:=rfl
theorem QP (l:List Int) (hl:l.length<=1000):mC [.int (l.length:Int),.lst (tI l)]=some (.bl true):=by
 have il:qX "list" (.lst (tI l))=some (.bl true):=rfl;have e:bL aR DQ [none] (tI l)=some (G.tB (l.map fun _=>true)):=by
  rw[qL (fun _=>.bl true) (tI l) fun t ht=>?_]
  ·unfold tI G.tB
   rw[aKp,aKp]
   rfl
  ·obtain⟨i,_,rfl⟩:=aKw.mp ht
   rfl
 have oa:=CO (l.map fun _=>true);have ha:(l.map fun _=>true).all id=true:=by simp
 rw[ha] at oa;have hc:(G.tB (l.map fun _=>true)).length<=cap:=by unfold G.tB;rw[aKg,aKg];unfold cap;lia
 have eq:oEq (.int (l.length:Int)) (.int (l.length:Int))=some (.bl true):=by rw[oEq_int,beq_self_eq_true]
 rw[QM];unfold vC;simp only[rRet_at,f1_at,f2_at,vAnd_at,fVar_at,fComp_at,fFL_at,fCall_at,aCons_at,aNil_at,zz0,zz1,jn,zz2,zz3,il,isB_bl,if_true,oLen_lst,tI_length,eq,dD,bJ,aKo,aKq,aLs,e,hc,oa,gScal_bl,outT_rt]
theorem QO {n:Nat}(h6:n<=6) {o:List Nat}(hp:o.Perm (List.range n)):kZ [.int (n:Int),.lst (tI (tN' o))]=some (.bl true):=by
 have hol:o.length=n:=by rw[hp.length_eq,aKi]
 have fr:=QP (tN' o) (by rw[wD];lia);rw[wD,hol] at fr;have sr:=aAk (ns:=tN' o) (by rw[wD];lia);rw[aFc hp] at sr;have lr:=aAd (n:=n) (by lia);have eq:=CQ (upT n) (upT n);rw[decide_eq_true rfl] at eq;rw[QL];unfold vB;simp only[rRet_at,f1_at,f2_at,vAnd_at,fVar_at,fCall_at,aCons_at,aNil_at,zz0,zz1,jn,zz2,zz3,fr,isB_bl,if_true,sr,lr,eq,gScal_bl,outT_rt]
theorem YN {f:Rho->Option T}(hf:∀ x:Mx,f [some (.lst (tI (tN' x.1))),some (.int x.2)]=some (.int x.2)) (m:List Mx):bR [0,1] aR f [none,none] (tP tpM m)=some (tI (m.map fun x=>x.2)):=by
 rw[wQ (fun x=>T.int x.2) m fun x _=>hf x];unfold tI;rw[aKp];rfl
theorem FF {m:List Mx}(hm:m.length<=1001):fU [.lst (tP tpM m)]=some (.int (m.map fun x=>x.2).sum):=by
 have e3:=YN (f:=DS) (fun x=>rfl) m;have hcs:(tI (m.map fun x=>x.2)).length<=cap:=by rw[tI_length,aKg];unfold cap;lia
 have os:=LC (m.map fun x=>x.2);rw[QY];unfold vL;simp only[rRet_at,fVar_at,fCompT_at,fL_at,fCall_at,aCons_at,aNil_at,zz0,jn,zz2,zz3,xG,bJ,aKo,aKq,aLs,e3,hcs,if_true,os,outT_rt]
def xM (n:Nat) (t s:List Int) (m:List Mx):Bool:=!m.isEmpty&&(m.all (fun x=>decide (1<=x.2))&&decide (m.foldl (stM n t) (List.replicate n 0)=s.map fun x=>(m.map fun x=>x.2).sum*x))
theorem EX {n:Nat}(h6:n<=6) {t s:List Int}(hl:t.length=2^n) (hb:Bd (10^200) t) (hs:s.length<=1000) (hsb:∀ x∈s,x.natAbs<2^1000) {m:List Mx}(hm:OkM n m) (hsm:(m.map fun x:Mx=>x.2).sum.natAbs<2^100000) (hml:m.length<=1001):gF [.lst (tI t),.lst (tI s),.lst (tP tpM m)]=some (.bl (xM n t s m)):=by
 have fh:=qG h6 hl;have hcm:(tP tpM m).length<=cap:=by rw[CJ];unfold cap;lia
 have e1:bR [0,1] aR yV [none,none,some (.int (n:Int))] (tP tpM m)=some (G.tB (m.map fun x=>decide (1<=x.2))):=by
  rw[wQ (fun x=>T.bl (decide (1<=x.2))) m fun x hx=>?_]
  ·unfold G.tB
   rw[aKp];rfl
  ·have fo:=QO h6 (hm x hx).1
   unfold yV;simp only[f1_at,f2_at,vAnd_at,fVar_at,fC_at,fCall_at,aCons_at,aNil_at,List.set,zz0,zz1,jn,zz2,oGe_int,isB_bl,fo];cases decide (1<=x.2)<;>rfl
 have oa:=CO (m.map fun x=>decide (1<=x.2));have oa2:(m.map fun x=>decide (1<=x.2)).all id=m.all fun x=>decide (1<=x.2):=by rw[List.all_map];rfl
 rw[oa2] at oa;have hcb:(G.tB (m.map fun x=>decide (1<=x.2))).length<=cap:=by unfold G.tB;rw[aKg,aKg];unfold cap;lia
 have fs:=FF hml;have e2:bL aR yW [none,some (.lst (tP tpM m))] (tI s)=some (tI (s.map fun x=>(m.map fun x=>x.2).sum*x)):=by
  rw[qL (fun u=>match u with | .int x=>.int ((m.map fun x=>x.2).sum*x) | u=>u) (tI s) fun u hu=>?_]
  ·unfold tI
   rw[aKp,aKp];rfl
  ·obtain⟨x,hx,rfl⟩:=aKw.mp hu
   have mu:bG (.int x) (.int (m.map fun x=>x.2).sum)=some (.int (x*(m.map fun x=>x.2).sum)):=jE (kB 1000 100000 (hsb x hx) hsm (by decide) (by decide));unfold yW;simp only[f2_at,fVar_at,fCall_at,aCons_at,aNil_at,List.set,zz0,zz1,jn,zz2,fs,mu];rw[Int.mul_comm]
 have hce:(s.map fun x=>(m.map fun x=>x.2).sum*x).length<=cap:=by rw[aKg];unfold cap;lia
 have fr:=FB h6 hl hb hm;have eq:=CQ (m.foldl (stM n t) (List.replicate n 0)) (s.map fun x=>(m.map fun x=>x.2).sum*x);rw[QK];unfold vA xM;generalize m.foldl (stM n t) (List.replicate n 0)=row at *;generalize s.map (fun x=>(m.map fun x=>x.2).sum*x)=due at *;have ez:oEq (.int ((tP tpM m).length:Int)) (.int 0)=some (.bl m.isEmpty):=by
  rw[oEq_int,CJ];cases m with
  | nil=>rfl
  | cons x m=>simp;lia
 rw[rSeq_at];simp only[rSet_at,f1_at,fVar_at,fCall_at,aCons_at,aNil_at,List.set,zz0,jn,zz2,zz3,fh,gScal_int];rw[rSeq_at];simp only[rIf_at,rNext_at,rRet_at,pOr_at,pNot_at,fB_at,fT_at,f2_at,fC_at,fVar_at,fL_at,fCompT_at,fCall_at,aCons_at,aNil_at,zz0,zz1,jn,zz2,zz3,oLen_lst,ez,isB_bl,xG,bJ,aKo,aKq,aLs,e1,hcb,if_true,oa,truT_bl];cases he:m.isEmpty with
 | true=>rfl
 | false=>
  cases ha:m.all (fun x=>decide (1<=x.2)) with
  | false=>rfl
  | true=>
   simp only[aJf,if_false,zz2,Bool.not_true,rRet_at,f2_at,fVar_at,fComp_at,fFL_at,fCall_at,aCons_at,aNil_at,zz0,zz1,jn,zz3,fr,dD,bJ,aKo,aKq,aLs,e2,tI_length,hce,if_true,eq,outT_rt]
   rfl
theorem wR {α:Type}{p:Rho->Option Bool}{f:Rho->Option T}{ρ:Rho}(tp:α->T) (c:α->Bool) (h:α->T):∀ xs:List α,(∀ x∈xs,p (ρ.set 0 (some (tp x)))=some (c x)/\(c x=true->f (ρ.set 0 (some (tp x)))=some (h x)))->bL p f ρ (xs.map tp)=some ((xs.filter c).map h)
 | [],_=>rfl
 | x::xs,h1=>by
  have ih:=wR tp c h xs fun y hy=>h1 y (aJ2 _ hy);obtain⟨e1,e2⟩:=h1 x aJ3;rw[aKo];unfold bL;rw[e1];cases hc:c x with
  | true=>simp[e2 hc,ih,hc]
  | false=>simp[ih,hc]
def lO (n:Nat) (b:List Nat):List (List Nat):=((List.range n).filter fun h=>!b.contains h).map fun h=>b++[h]
def lvl (n:Nat):Nat->List (List Nat)
 | 0=>[[]]
 | k+1=>(lvl n k).flatMap (lO n)
def tO (o:List Nat):T:=.lst (tI (tN' o))
theorem TN (b:List Nat) (h:Nat):(tN' b).contains (h:Int)=b.contains h:=by
 rw[aJe,aJx,aJx];unfold tN';rw[aKw]
 constructor
 ·rintro ⟨k,hk,e⟩
  have:k=h:=by lia
  rw[<- this];exact hk
 ·intro hh;exact⟨h,hh,rfl⟩
theorem QT {n:Nat}(h6:n<=6) {b:List Nat}(hb:b.length<=100):mE [tO b,.int (n:Int)]=some (.lst ((lO n b).map tO)):=by
 have rn:=gP n (by lia);have c1:(1:Nat)<=cap:=by decide
 have e:bL vI vH [none,some (tO b)] (G.rangeT 0 n)=some ((lO n b).map tO):=by
  rw[DI];have:=wR (p:=vI) (f:=vH) (ρ:=[none,some (tO b)]) (fun (h:Nat)=>T.int (h:Int)) (fun h=>!b.contains h) (fun h=>tO (b++[h])) (List.range n) (fun h _=>by
   have ni:=aAf (h:Int) (tN' b);rw[TN] at ni;have oc:jD (.lst (tI (tN' b))) (.lst [.int (h:Int)])=some (.lst (tI (tN' (b++[h])))):=by
    rw[CP (by rw[tI_length,wD];show b.length+1<=cap;unfold cap;lia)];unfold tN' tI;rw[List.map_append,List.map_append];rfl
   refine⟨?_,fun _=>?_⟩
   ·unfold vI tO
    simp only[fB_at,f2_at,fVar_at,List.set,zz0,zz1,jn,zz2,ni,isB_bl]
   ·unfold vH tO
    simp only[f1_at,f2_at,fVar_at,fLst_at,aCons_at,aNil_at,List.set,zz0,zz1,jn,zz2,zz3,gScal_int,aKe,aKh,aLp,c1,if_true,oc,WN])
  rw[this];unfold lO;rw[aKp];rfl
 have hc:((lO n b).map tO).length<=cap:=by
  unfold lO;rw[aKg,aKg];have:=aKf (fun h=>!b.contains h) (List.range n);rw[aKi] at this;unfold cap;lia
 rw[QU];unfold vG;simp only[rRet_at,fVar_at,fComp_at,fRange_at,aCons_at,aNil_at,zz0,zz1,jn,zz2,zz3,rn,bJ,aKo,aKq,aLs,e,hc,if_true,outT_rt]
theorem KB {n:Nat}(h6:n<=6) (b:List Nat):(lO n b).length<=6:=by
 unfold lO;rw[aKg];have:=aKf (fun h=>!b.contains h) (List.range n);rw[aKi] at this;lia
theorem HM {n:Nat}(h6:n<=6):∀ bs:List (List Nat),(bs.flatMap (lO n)).length<=6*bs.length
 | []=>by simp
 | b::bs=>by
  have:=HM h6 bs;have:=KB h6 b;rw[List.flatMap_cons,aKd,aKe];lia
theorem KJ {n:Nat}(h6:n<=6):∀ k,(lvl n k).length<=6^k
 | 0=>by simp[lvl]
 | k+1=>by
  have:=KJ h6 k;have:=HM h6 (lvl n k);rw[lvl,Nat.pow_succ];lia
theorem KI {n:Nat}:∀ k,∀ o∈lvl n k,o.length=k
 | 0,o,h=>by
  have:o=[]:=by simpa [lvl] using h
  rw[this];rfl
 | k+1,o,h=>by
  rw[lvl,List.mem_flatMap] at h;obtain⟨b,hb,ho⟩:=h;unfold lO at ho;obtain⟨h',_,rfl⟩:=aKw.mp ho;rw[aKd,KI k b hb];rfl
theorem EO {n:Nat}(h6:n<=6):eY [.int (n:Int)]=some (.lst ((lvl n n).map tO)):=by
 have rn:=gP n (by lia);have c0:(0:Nat)<=cap:=aLq _;have c1:(1:Nat)<=cap:=by decide
 have iL:∀ l:List T,isL (.lst l)=some l:=fun _=>rfl;have inner:∀ (bs:List (List Nat)) (acc:List (List Nat)) (r1 x2 x4:Option T),(∀ b∈bs,b.length<=100)->acc.length+6*bs.length<=400000->∃ y4,bO 4 rG (bs.map tO) [some (.int (n:Int)),r1,x2,some (.lst (acc.map tO)),x4]=some (.nx [some (.int (n:Int)),r1,x2,some (.lst ((acc++bs.flatMap (lO n)).map tO)),y4]):=by
  intro bs
  induction bs with
  | nil=>intro acc r1 x2 x4 _ _;exact⟨x4,by simp[bO]⟩
  | cons b bs ih=>
   intro acc r1 x2 x4 hb hl;rw[aKe] at hl;have fl:=QT h6 (hb b aJ3);have ll:=KB h6 b;obtain⟨y4,e⟩:=ih (acc++lO n b) r1 x2 (some (tO b)) (fun c hc=>hb c (aJ2 _ hc)) (by rw[aKd];lia);refine⟨y4,?_⟩;have hc:(acc.map tO).length+((lO n b).map tO).length<=cap:=by rw[aKg,aKg];unfold cap;lia
   have turn:rG ([some (.int (n:Int)),r1,x2,some (.lst (acc.map tO)),x4].set 4 (some (tO b)))=some (.nx [some (.int (n:Int)),r1,x2,some (.lst ((acc++lO n b).map tO)),some (tO b)]):=by
    unfold rG;simp only[rExt_at,fVar_at,fCall_at,aCons_at,aNil_at,List.set,zz0,zz1,jn,zz2,zz3,fl,hc,if_true];rw[List.map_append]
   rw[aKo,sH,turn];rw[List.flatMap_cons,<- List.append_assoc];exact e
 obtain⟨ρ',hlp,x2,x3,x4,rfl⟩:=mQ (j:=2) (n:=n) (body:=uN) (fun k ρ=>∃ x2 x3 x4,ρ=[some (.int (n:Int)),some (.lst ((lvl n k).map tO)),x2,x3,x4]) (fun k hk ρ hρ=>by
  obtain⟨x2,x3,x4,rfl⟩:=hρ;have ll:=KJ h6 k;have p6:6^k<=6^5:=aLj (by decide) (by lia);obtain⟨y4,e⟩:=inner (lvl n k) [] (some (.lst ((lvl n k).map tO))) (some (.int (k:Int))) x4 (fun b hb=>by rw[KI k b hb];lia) (by
   have:(6:Nat)^5=7776:=by decide
   show 0+_<=_;lia)
  refine⟨[some (.int (n:Int)),some (.lst ((lvl n (k+1)).map tO)),some (.int (k:Int)),none,y4],?_,_,_,_,rfl⟩;have e:bO 4 rG ((lvl n k).map tO) [some (.int (n:Int)),some (.lst ((lvl n k).map tO)),some (.int (k:Int)),some (.lst []),x4]=some (.nx [some (.int (n:Int)),some (.lst ((lvl n k).map tO)),some (.int (k:Int)),some (.lst ((lvl n (k+1)).map tO)),y4]):=e;generalize (lvl n (k+1)).map tO=l2 at *;generalize (lvl n k).map tO=l1 at *;unfold uN;simp only[rSeq_at,rSetM_at,rFor_at,rMove_at,fLst_at,fL_at,fVar_at,aCons_at,aNil_at,List.set,zz0,zz1,jn,zz2,zz3,aKh,c0,if_true,okM_lst,iL,e]) [some (.int (n:Int)),some (.lst ((lvl n 0).map tO)),none,none,none] ⟨none,none,none,rfl⟩
 have hlp:bO 2 uN (G.rangeT 0 n) [some (.int (n:Int)),some (.lst [.lst []]),none,none,none]=_:=hlp;rw[PC];unfold uM;simp only[rSeq_at,rSet_at,rFor_at,rRet_at,fLst_at,fRange_at,fVar_at,aCons_at,aNil_at,List.set,zz0,zz1,jn,zz2,zz3,aKe,aKh,aLp,c0,c1,if_true,rn,hlp,outT_rt]
theorem aCx:(List.range 7).all (fun n=>(lvl n n).all fun o=>decide (o.Perm (List.range n)))=true:=by decide +kernel
theorem KM {n:Nat}(h6:n<=6) {o:List Nat}(ho:o∈lvl n n):o.Perm (List.range n):=of_decide_eq_true (aJ5.mp (aJ5.mp aCx n (aJ6.mpr (by lia))) o ho)
theorem ZT:(List.range 7).all (fun n=>decide ((lvl n n).length<=720))=true:=by decide +kernel
theorem KK {n:Nat}(h6:n<=6):(lvl n n).length<=720:=of_decide_eq_true (aJ5.mp ZT n (aJ6.mpr (by lia)))
def qU (n:Nat) (t:List Int):List Int:=((lvl n n).map fun o=>(o,(1:Int))).foldl (stM n t) (List.replicate n 0)
theorem EZ {n:Nat}(h6:n<=6) {t:List Int}(hl:t.length=2^n) {m:List Mx}(hm:∀ x∈m,x.1.Perm (List.range n)/\x.2=1):cS [.lst (tI t),.lst (tP tpM m)]=some (.lst (tI (m.foldl (stM n t) (List.replicate n 0)))):=by
 obtain⟨ρ',hlp,x3,x4,rfl⟩:=wV (js:=[3,4]) (body:=rL) tpM (fun ys ρ=>∃ x3 x4,ρ=[some (.lst (tI t)),some (.lst (tP tpM m)),some (.lst (tI (ys.foldl (stM n t) (List.replicate n 0)))),x3,x4]) m [] (fun x hx ys ρ hρ=>by
  obtain⟨x3,x4,rfl⟩:=hρ;obtain⟨hp,hx2⟩:=hm x hx;have fb:=zQ h6 hl hp;have hrl:=sG n t ys (List.replicate n 0) (by simp);have e1:bR [0,1] aR rM [none,none,some (.int x.2)] (eI (tI (ys.foldl (stM n t) (List.replicate n 0))) (tI (aS n t x.1)))=some (tI (stM n t (ys.foldl (stM n t) (List.replicate n 0)) x)):=by
   rw[<- OP hrl x];refine AJ _ _ _ fun y hy g=>?_;have mu:bG (.int x.2) (.int y)=some (.int (x.2*y)):=xT (by rw[hx2];decide);unfold rM;simp only[f2_at,fVar_at,List.set,zz0,zz1,jn,zz2,mu,oAdd_int]
  have hc1:(stM n t (ys.foldl (stM n t) (List.replicate n 0)) x).length<=cap:=by rw[kH];unfold cap;lia
  refine⟨[some (.lst (tI t)),some (.lst (tP tpM m)),some (.lst (tI (ys.foldl (stM n t) (List.replicate n 0)))),some (.lst (tI (tN' x.1))),some (.int x.2)],[some (.lst (tI t)),some (.lst (tP tpM m)),some (.lst (tI ((ys++[x]).foldl (stM n t) (List.replicate n 0)))),some (.lst (tI (tN' x.1))),some (.int x.2)],rfl,?_,_,_,rfl⟩;rw[List.foldl_append,aK5,List.foldl_nil];generalize stM n t (ys.foldl (stM n t) (List.replicate n 0)) x=r' at *;generalize ys.foldl (stM n t) (List.replicate n 0)=r at *;unfold rL;simp only[rSetM_at,fVar_at,fCompT_at,fZip_at,fFL_at,fCall_at,aCons_at,aNil_at,List.set,zz0,zz1,jn,zz2,zz3,fb,dD,bJ,aKo,aKq,aLs,e1,tI_length,hc1,if_true,okM_lst]) [some (.lst (tI t)),some (.lst (tP tpM m)),some (.lst (tI (List.replicate n 0))),none,none] ⟨none,none,rfl⟩
 rw[List.nil_append] at hlp;have iL:∀ l:List T,isL (.lst l)=some l:=fun _=>rfl;have fh:=qG h6 hl;have ro:=CT h6;rw[EY];unfold rK;simp only[rSeq_at,rSetM_at,rForT_at,rRet_at,fMut_at,f2_at,fVar_at,fC_at,fL_at,fCall_at,aCons_at,aNil_at,List.set,zz0,zz1,jn,zz2,zz3,fh,ro,if_true,okM_lst,iL,hlp,flat_tI',outT_rt]
theorem QW {n:Nat}(h6:n<=6) {t:List Int}(hl:t.length=2^n):hE [.lst (tI t)]=some (.lst (tI (qU n t))):=by
 have iL:∀ l:List T,isL (.lst l)=some l:=fun _=>rfl;have c2:(2:Nat)<=cap:=by decide
 have fh:=qG h6 hl;have fa:=EO h6;have l720:=KK h6;have e:bL aR vK [none] ((lvl n n).map tO)=some (tP tpM ((lvl n n).map fun o=>(o,(1:Int)))):=by
  have:=wR (p:=aR) (f:=vK) (ρ:=[none]) tO (fun _=>true) (fun o=>T.tup (tpM (o,1))) (lvl n n) (fun o _=>⟨rfl,fun _=>by
   unfold vK;simp only[fTup_at,fVar_at,fC_at,aCons_at,aNil_at,List.set,zz0,jn,zz2,aKe,aKh,aLp,Nat.reduceAdd,c2,if_true]
   rfl⟩)
  rw[this,List.filter_eq_self.mpr (fun _ _=>rfl)];unfold tP;rw[aKp];rfl
 have hc:(tP tpM ((lvl n n).map fun o=>(o,(1:Int)))).length<=cap:=by unfold tP;rw[aKg,aKg];unfold cap;lia
 have fm:=EZ h6 hl (m:=(lvl n n).map fun o=>(o,(1:Int))) (fun x hx=>by
  obtain⟨o,ho,rfl⟩:=aKw.mp hx;exact⟨KM h6 ho,rfl⟩)
 unfold qU;generalize ((lvl n n).map fun o=>(o,(1:Int))).foldl (stM n t) (List.replicate n 0)=mr at *;generalize tP tpM ((lvl n n).map fun o=>(o,(1:Int)))=mm at *;generalize (lvl n n).map tO=ll at *;rw[QX];unfold vJ;simp only[rRet_at,fVar_at,fComp_at,fL_at,fCall_at,aCons_at,aNil_at,zz0,jn,zz2,zz3,fh,fa,iL,bJ,aKo,aKq,aLs,e,hc,if_true,fm,outT_rt]
structure BsM (n:Nat) (t:List Int) (m:Int) (r:List Int):Prop where
 len:r.length=n
 und:∀ g,g<2^n->gv r g<=m*t.getD g 0
 all:gv r (2^n-1)=m*t.getD (2^n-1) 0
def cE (t:List Int) (m:Int) (r:List Int) (g:Nat):Prop:=gv r g=m*t.getD g 0
theorem wX {n:Nat}{t r:List Int}{m:Int}(hs:Sub n t) (hm:0<=m) (B:BsM n t m r) {a b:Nat}(ha:a<2^n) (hb:b<2^n) (fa:cE t m r a) (fb:cE t m r b):cE t m r (a|||b)/\cE t m r (a&&&b):=by
 have h1:=sN r a b;have h2:=aJq (hs a b ha hb) hm;rw[aJp,aJp] at h2;have h3:=B.und (a|||b) (aLi ha hb);have h4:=B.und (a&&&b) (qJ ha);unfold cE at *;lia
def mkM (n:Nat) (p:Nat->Bool):Nat:=mZ 0 ((List.range n).filter p)
theorem sV (n:Nat) (p:Nat->Bool) (k:Nat):(mkM n p).testBit k=(decide (k<n)&&p k):=by
 unfold mkM;rw[CM,aLr,Bool.false_or,aJe,aJx,aKu,aJ6];simp
theorem ZZ (n:Nat) (p:Nat->Bool):mkM n p<2^n:=Nat.lt_pow_two_of_testBit _ fun k hk=>by
 rw[sV,decide_eq_false (by lia)];rfl
structure CoreM (n:Nat) (t:List Int) (m:Int) (r:List Int) (c:Nat->Nat):Prop where
 lt:∀ h,h<n->c h<2^n
 ful:∀ h,h<n->cE t m r (c h)
 has:∀ h,h<n->(c h).testBit h=true
 sub:∀ h,h<n->∀ g,g<2^n->cE t m r g->g.testBit h=true->c h&&&g=c h
def DkM (c:Nat->Nat) (h:Nat):Nat:=aM (c h)*64+c h
theorem SJ {a b k:Nat}(h:a&&&b=a) (hk:a.testBit k=true):b.testBit k=true:=by
 have:=congrArg (fun z=>z.testBit k) h;simp only[aLm,hk,Bool.true_and] at this;exact this
theorem xJ {n g k:Nat}(hg:g<2^n) (hk:g.testBit k=true):k<n:=by
 rcases Nat.lt_or_ge k n with h | h
 ·exact h
 ·rw[CL hg h] at hk;cases hk
theorem VO {n:Nat}(h6:n<=6) {t r:List Int}{m:Int}{c:Nat->Nat}(C:CoreM n t m r c) {j k:Nat}(hk:k<n) (h:(c k).testBit j=true):DkM c j<=DkM c k:=by
 have h64:=cZ h6;have hj:j<n:=xJ (C.lt k hk) h;have e:=C.sub j hj (c k) (C.lt k hk) (C.ful k hk) h;have hc:=(GD (a:=c j) (b:=c k) (aJ7 (C.lt j hj) h64) (aJ7 (C.lt k hk) h64)).2.2;rw[e] at hc;have hl:c j<=c k:=by rw[<- e];exact Nat.and_le_right
 unfold DkM;lia
theorem HU {n:Nat}{t r:List Int}{m:Int}(hs:Sub n t) (hm:0<=m) (B:BsM n t m r) {c:Nat->Nat}(C:CoreM n t m r c):∀ (ks:List Nat) (a:Nat),a<2^n->cE t m r a->(∀ k∈ks,k<n) ->
  cE t m r (ks.foldl (fun a k=>a|||c k) a)/\∀ j,(ks.foldl (fun a k=>a|||c k) a).testBit j=(a.testBit j||ks.any fun k=>(c k).testBit j)
 | [],a,_,fa,_=>⟨fa,fun j=>by simp⟩
 | k::ks,a,ha,fa,hk=>by
  have h1:=hk k (by simp);obtain⟨f,b⟩:=HU hs hm B C ks (a|||c k) (aLi ha (C.lt k h1)) (wX hs hm B ha (C.lt k h1) fa (C.ful k h1)).1 fun j hj=>hk j (aJ2 _ hj);refine⟨f,fun j=>?_⟩;rw[aK5,b j,aLn,aJw,Bool.or_assoc]
def PdM (n:Nat) (c:Nat->Nat) (d:Nat):Nat:=mkM n fun k=>decide (DkM c k<=d)
theorem WJ {n:Nat}(h6:n<=6) {t r:List Int}{m:Int}(hs:Sub n t) (h0:t.getD 0 0=0) (hm:0<=m) (B:BsM n t m r) {c:Nat->Nat}(C:CoreM n t m r c) (d:Nat):cE t m r (PdM n c d):=by
 have f0:cE t m r 0:=by unfold cE;rw[mW,h0,Int.mul_zero]
 obtain⟨f,b⟩:=HU hs hm B C ((List.range n).filter fun k=>decide (DkM c k<=d)) 0 (aLl (by decide)) f0 fun k hk=>aJ6.mp (aKu.mp hk).1;have e:PdM n c d=((List.range n).filter fun k=>decide (DkM c k<=d)).foldl (fun a k=>a|||c k) 0:=by
  refine cN fun j=>?_;unfold PdM;rw[b j,sV,aLr,Bool.false_or,aJe,List.any_eq_true];simp only[aJc,decide_eq_true_eq,aKu,aJ6]
  constructor
  ·rintro ⟨h1,h2⟩
   exact⟨j,⟨h1,h2⟩,C.has j h1⟩
  ·rintro ⟨k,⟨h1,h2⟩,h3⟩
   exact⟨xJ (C.lt k h1) h3,aL9 (VO h6 C h1 h3) h2⟩
 rw[e];exact f
theorem GZ {ask:Nat->Nat->Bool}{p:Nat->Bool}:∀ (l:List Nat),l.Pairwise (fun a b=>ask a b=true)->(∀ a∈l,∀ b∈l,ask a b=true->p b=true->p a=true)->l=l.filter p++l.filter fun k=>!p k
 | [],_,_=>rfl
 | h::l,hp,hd=>by
  obtain⟨h1,h2⟩:=aL3.mp hp;have ih:=GZ l h2 fun a ha b hb=>hd a (aJ2 _ ha) b (aJ2 _ hb);cases hh:p h with
  | true=>
   rw[List.filter_cons_of_pos hh,List.filter_cons_of_neg (by simp[hh]),List.cons_append,<- ih]
  | false=>
   have no:l.filter p=[]:=by
    rw[List.filter_eq_nil_iff];intro k hk hpk;rw[hd h (by simp) k (aJ2 _ hk) (h1 k hk) hpk] at hh;cases hh
   rw[no,List.nil_append] at ih;rw[List.filter_cons_of_neg (by simp[hh]),List.filter_cons_of_pos (by simp[hh]),no,List.nil_append,<- ih]
theorem WG {n:Nat}{t:List Int}(h0:t.getD 0 0=0) {o:List Nat}(hp:o.Perm (List.range n)) {ask:Nat->Nat->Bool}(ha:o.Pairwise fun a b=>ask a b=true) {p:Nat->Bool}(hd:∀ a b,a<n->b<n->ask a b=true->p b=true->p a=true):
  gv (aS n t o) (mkM n p)=t.getD (mkM n p) 0:=by
 have e:=GZ (p:=p) o ha fun a h1 b h2=>hd a b (tJ hp h1) (tJ hp h2);have em:mZ 0 (o.filter p)=mkM n p:=cN fun k=>by
  rw[CM,sV,aLr,Bool.false_or,aJe,aJx,aKu,hp.mem_iff,aJ6];simp
 have hnd:=LD hp;have T:=NW (o.filter p) 0 _ (Tk.start (n:=n) h0) (hnd.filter _) fun h hh=>⟨tJ hp (aKu.mp hh).1,aLr h⟩;unfold aS;rw[e,NT,em,NV (n:=n)]
 ·rw[<- em];exact T.full
 ·rw[EG,List.length_replicate]
 ·intro h hh
  obtain⟨h1,h2⟩:=aKu.mp hh;refine⟨tJ hp h1,?_⟩;rw[sV];simp at h2;rw[h2];simp
theorem WK {n:Nat}(h6:n<=6) {t r:List Int}{m:Int}(hs:Sub n t) (h0:t.getD 0 0=0) (hm:0<m) (B:BsM n t m r) {c:Nat->Nat}(C:CoreM n t m r c) {o:List Nat}(hp:o.Perm (List.range n)) {ask:Nat->Nat->Bool}(ha:o.Pairwise fun a b=>ask a b=true)
  (hask:∀ a b,a<n->b<n->ask a b=true->DkM c a<=DkM c b) {g:Nat} (hg:g<2^n) (fg:cE t m r g):gv (aS n t o) g=t.getD g 0:=by
 have h64:=cZ h6;have tP:∀ d,gv (aS n t o) (PdM n c d)=t.getD (PdM n c d) 0:=fun d=>WG h0 hp ha fun a b h1 h2 h3 h4=>decide_eq_true (aL9 (hask a b h1 h2 h3) (of_decide_eq_true h4));have fP:=fun d=>WJ h6 hs h0 (aJn hm) B C d;have bP:∀ d k,(PdM n c d).testBit k=(decide (k<n)&&decide (DkM c k<=d)):=fun d k=>sV n _ k;have lP:∀ d,PdM n c d<2^n:=fun d=>ZZ n _;have key:∀ d,gv (aS n t o) (g&&&PdM n c d)=t.getD (g&&&PdM n c d) 0:=by
  intro d
  induction d with
  | zero=>
   have e:g&&&PdM n c 0=0:=cN fun k=>by
    rw[aLm,bP,aLr]
    by_cases hk:k<n
    ·have:¬ DkM c k<=0:=fun z=>by
      have h1:c k=0:=by unfold DkM at z;lia
      have h2:=C.has k hk;rw[h1,aLr] at h2;cases h2
     simp[this]
    ·simp[hk]
   rw[e,mW,h0]
  | succ d ih=>
   by_cases hx:∃ k,g.testBit k=true/\DkM c k=d+1
   ·obtain⟨k,hk1,hk2⟩:=hx
    have hkn:k<n:=xJ hg hk1;have hsub:=C.sub k hkn g hg fg hk1;have inB:∀ j,j<n->DkM c j=d+1->g.testBit j=true:=fun j hj hd=>by
     have ec:c j=c k:=by
      have l1:=aJ7 (C.lt j hj) h64;have l2:=aJ7 (C.lt k hkn) h64;unfold DkM at hd hk2;lia
     exact SJ hsub (by rw[<- ec];exact C.has j hj)
    have e1:(g&&&PdM n c (d+1))|||PdM n c d=PdM n c (d+1):=cN fun j=>by
     rw[aLn,aLm,bP,bP]
     by_cases hj:j<n
     ·by_cases h1:DkM c j<=d
      ·have h2:DkM c j<=d+1:=by lia
       simp[h1,h2,hj]
      ·by_cases h2:DkM c j<=d+1
       ·rw[inB j hj (by lia)];simp[h2,hj]
       ·simp[h1,h2]
     ·simp[hj]
    have e2:(g&&&PdM n c (d+1))&&&PdM n c d=g&&&PdM n c d:=cN fun j=>by
     rw[aLm,aLm,aLm,bP,bP]
     by_cases h1:DkM c j<=d
     ·have h2:DkM c j<=d+1:=by lia
      simp[h1,h2]
     ·simp[h1]
    have mr:=sN r (g&&&PdM n c (d+1)) (PdM n c d);have mx:=sN (aS n t o) (g&&&PdM n c (d+1)) (PdM n c d);rw[e1,e2] at mr mx;have f1:=(wX hs (aJn hm) B hg (lP (d+1)) fg (fP (d+1))).2;have f2:=(wX hs (aJn hm) B hg (lP d) fg (fP d)).2;have f3:=fP (d+1);have f4:=fP d;unfold cE at f1 f2 f3 f4;rw[f1,f2,f3,f4,<- Int.mul_add,<- Int.mul_add] at mr;have mt:=Int.eq_of_mul_eq_mul_left (Int.ne_of_gt hm) mr;have t1:=tP (d+1);have t2:=tP d;lia
   ·have e:g&&&PdM n c (d+1)=g&&&PdM n c d:=cN fun j=>by
     rw[aLm,aLm,bP,bP];cases hj:g.testBit j with
     | false=>rfl
     | true=>
      have h1:¬ DkM c j=d+1:=fun z=>hx ⟨j,hj,z⟩;have h2:(DkM c j<=d+1) ↔ (DkM c j<=d):=by lia
      simp[h2]
    rw[e];exact ih
 have:=key 10000;have e:g&&&PdM n c 10000=g:=cN fun j=>by
  rw[aLm,bP];cases hj:g.testBit j with
  | false=>rfl
  | true=>
   have hjn:=xJ hg hj;have h1:DkM c j<=10000:=by
    have:=qK (c j);have:=aJ7 (C.lt j hjn) h64;unfold DkM;lia
   simp[hjn,h1]
 rw[e] at this;exact this
theorem wM {kf:Nat->Int × Int × Int}{i j:Nat}:bY kf i j=true ↔ (kf i).1<(kf j).1\/((kf i).1=(kf j).1/\((kf i).2.1<(kf j).2.1\/((kf i).2.1=(kf j).2.1/\(kf i).2.2<(kf j).2.2))):=by
 unfold bY
 by_cases h1:(kf i).1=(kf j).1
 ·rw[if_pos (by rw[h1];simp)]
  by_cases h2:(kf i).2.1=(kf j).2.1
  ·rw[if_pos (by rw[h2];simp)]
   by_cases h3:(kf i).2.2=(kf j).2.2
   ·rw[if_pos (by rw[h3];simp)]
    simp only[aJf,false_iff];lia
   ·rw[if_neg (by simp only[beq_iff_eq];lia)]
    simp only[decide_eq_true_eq];lia
  ·rw[if_neg (by simp only[beq_iff_eq];lia)]
   simp only[decide_eq_true_eq];lia
 ·rw[if_neg (by simp only[beq_iff_eq];lia)]
  simp only[decide_eq_true_eq];lia
theorem aCg {n:Nat}(hn:n<=6) (kf:Nat->Int × Int × Int) (hk:∀ j,(kf j).2.2=(j:Int)):∃ l:List Nat,l.Perm (List.range n)/\l.Pairwise (fun a b=>bY kf a b=true)/\eW n (bY kf)=true/\eD n (bY kf)=l.map fun (i:Nat)=>(i:Int):=by
 have tr:∀ i j k,bY kf i j=true->bY kf j k=true->bY kf i k=true:=fun i j k h1 h2=>by
  rw[wM] at h1 h2 ⊢;lia
 obtain⟨l,h1,h2,h3⟩:=ZC hn (ask:=bY kf) (fun i j h=>by
  cases h2:bY kf j i with
  | false=>rfl
  | true=>
   rw[wM] at h h2;lia) (fun i j hne h=>by
  have h':¬ bY kf i j=true:=by rw[h];decide
  have hi:=hk i;have hj:=hk j;rw[wM] at h' ⊢;lia) tr
 exact⟨l,h1.perm,MP tr l h2,(ZB hn _).1,h3⟩
theorem NL:∀ (L:List Nat) (a:Nat),∃ c,L.foldl gD (some a)=some c/\(∀ k,c.testBit k=(a.testBit k&&L.all fun g=>g.testBit k))/\∀ P:Nat->Prop,P a->(∀ x∈L,P x)->(∀ x y,P x->P y->P (x&&&y))->P c
 | [],a=>⟨a,rfl,fun k=>by simp,fun P h _ _=>h⟩
 | g::L,a=>by
  obtain⟨c,h1,h2,h3⟩:=NL L (a&&&g);refine⟨c,h1,fun k=>?_,fun P pa pl pc=>h3 P (pc _ _ pa (pl g (by simp))) (fun x hx=>pl x (aJ2 _ hx)) pc⟩;rw[h2 k,aLm,List.all_cons,Bool.and_assoc]
def sE (t r:List Int) (h:Nat):Nat:=(((dR t r).filter fun g=>g.testBit h).foldl gD none).getD 0
theorem xK (t:List Int) (m:Int) (i:Nat):(t.map (m * ·)).getD i 0=m*t.getD i 0:=by
 rw[aJ0,aJ0,aKa];cases t[i]?<;>simp
theorem KN {n:Nat}{t r:List Int}{m:Int}(hl:t.length=2^n) {g:Nat}:g∈dR (t.map (m * ·)) r ↔ g<2^n/\cE t m r g:=by
 unfold dR cE;rw[aKu,aJ6,aKg,hl]
 constructor
 ·rintro ⟨h1,h2⟩
  rw[HS (by rw[aKg,hl];exact h1),xK] at h2;exact⟨h1,by simpa using h2⟩
 ·rintro ⟨h1,h2⟩
  refine⟨h1,?_⟩;rw[HS (by rw[aKg,hl];exact h1),xK]
  simpa using h2
theorem TQ {n:Nat}{t r:List Int}{m:Int}(hl:t.length=2^n) (hs:Sub n t) (hm:0<=m) (B:BsM n t m r):
  CoreM n t m r (sE (t.map (m * ·)) r)/\∀ h,h<n->((dR (t.map (m * ·)) r).filter fun g=>g.testBit h).foldl gD none=some (sE (t.map (m * ·)) r h):=by
 have key:∀ h,h<n->∃ c,((dR (t.map (m * ·)) r).filter fun g=>g.testBit h).foldl gD none=some c/\c<2^n/\cE t m r c/\c.testBit h=true/\∀ g,g<2^n->cE t m r g->g.testBit h=true->c&&&g=c:=by
  intro h hh;have pos:0<2^n:=aLl (by decide);have hN:2^n-1∈(dR (t.map (m * ·)) r).filter fun g=>g.testBit h:=by
   rw[aKu,KN hl];exact⟨⟨by lia,B.all⟩,by rw[wY];exact decide_eq_true hh⟩
  have mem:∀ g,g∈(dR (t.map (m * ·)) r).filter (fun g=>g.testBit h) ↔ (g<2^n/\cE t m r g)/\g.testBit h=true:=fun g=>by rw[aKu,KN hl]
  generalize ((dR (t.map (m * ·)) r).filter fun g=>g.testBit h)=L at hN mem;cases L with
  | nil=>cases hN
  | cons a L=>
   obtain⟨c,h1,h2,h3⟩:=NL L a;have pc:=h3 (fun x=>x<2^n/\cE t m r x) ((mem a).mp (by simp)).1 (fun x hx=>((mem x).mp (aJ2 _ hx)).1) fun x y px py=>⟨qJ px.1,(wX hs hm B px.1 py.1 px.2 py.2).2⟩;refine⟨c,h1,pc.1,pc.2,?_,fun g hg fg gb=>cN fun k=>?_⟩
   ·rw[h2 h,((mem a).mp (by simp)).2,Bool.true_and,aJ5]
    exact fun x hx=>((mem x).mp (aJ2 _ hx)).2
   ·rw[aLm]
    cases hc:c.testBit k with
    | false=>rfl
    | true=>
     rw[h2 k,aJc,aJ5] at hc;rcases aJb.mp ((mem g).mpr ⟨⟨hg,fg⟩,gb⟩) with e | e
     ·rw[e,hc.1];rfl
     ·rw[hc.2 g e];rfl
 have eq:∀ h,h<n->((dR (t.map (m * ·)) r).filter fun g=>g.testBit h).foldl gD none=some (sE (t.map (m * ·)) r h):=fun h hh=>by
  obtain⟨c,h1,_⟩:=key h hh;unfold sE;rw[h1];rfl
 refine⟨⟨fun h hh=>?_,fun h hh=>?_,fun h hh=>?_,fun h hh=>?_⟩,eq⟩
 all_goals
  obtain⟨c,h1,h2,h3,h4,h5⟩:=key h hh;rw[eq h hh] at h1;cases h1
  assumption
theorem PN {n:Nat}(h6:n<=6) {t r:List Int}{m:Int}(hl:t.length=2^n) (hs:Sub n t) (h0:t.getD 0 0=0) (hm:0<m) (B:BsM n t m r):
  ∃ o:List Nat,o.Perm (List.range n)/\kU [.lst (tI (t.map (m * ·))),.lst (tI r)]=some (.lst (tI (tN' o)))/\∀ g,g<2^n->cE t m r g->gv (aS n t o) g=t.getD g 0:=by
 have h64:=cZ h6;obtain⟨C,ec⟩:=TQ hl hs (aJn hm) B;have hl':(t.map (m * ·)).length=2^n:=by rw[aKg,hl]
 generalize hc:sE (t.map (m * ·)) r=c at C ec;have ff:=QF h6 hl' B.len;generalize hns:(List.range n).map (fun h=>((c h:Nat):Int))=ns;have nsl:ns.length=n:=by rw[<- hns];simp
 have nsg:∀ j,j<n->ns.getD j 0=((c j:Nat):Int):=fun j hj=>by rw[<- hns];exact sT hj
 have cn:gK gZ ns=some (ns.map fun a=>((aM a.toNat:Nat):Int)):=GM fun a ha=>by
  rw[<- hns] at ha;obtain⟨h,hh,rfl⟩:=aKw.mp ha;have:=QV (g:=c h) (aJ7 (C.lt h (aJ6.mp hh)) h64);rw[this];simp
 generalize hcs:(ns.map fun a=>((aM a.toNat:Nat):Int))=cs at cn;have csg:∀ j,j<n->cs.getD j 0=((aM (c j):Nat):Int):=fun j hj=>by
  rw[<- hcs,<- hns,aKp];rw[sT hj];simp
 obtain⟨o,o1,o2,o3,o4⟩:=aCg h6 (kf3 cs ns) fun j=>rfl;refine⟨o,o1,?_,fun g hg fg=>WK h6 hs h0 hm B C o1 o2 (fun a b ha hb h=>?_) hg fg⟩
 ·have sk:=aAg (F:=gZ) (n:=(n:Int)) (ns:=ns) (cs:=cs) (by rw[nsl]) (by lia) cn (by rw[nsl];exact o3)
  rw[nsl,o4] at sk;have hr:=gP n (by lia);have cm:bL aR yS [none,some (.lst (tI ((dR (t.map (m * ·)) r).map fun (g:Nat)=>(g:Int))))] (G.rangeT 0 n)=some (tI ns):=by
   rw[qL (fun u=>match u with | .int x=>.int ((c x.toNat:Nat):Int) | u=>u) _ fun u hu=>?_]
   ·rw[DI,<- hns]
    unfold tI;rw[aKp,aKp]
    rfl
   ·obtain⟨i,hi,rfl⟩:=KO hu
    rw[Int.zero_add];have fs:=RK (dR (t.map (m * ·)) r) (h:=i) (by lia);rw[ec i hi] at fs;unfold yS;simp only[f1_at,fVar_at,fCall_at,aCons_at,aNil_at,List.set,zz0,zz1,jn,zz2,fs,cT,gScal_int];simp
  have cap1:ns.length<=cap:=by rw[nsl];unfold cap;lia
  rw[PP];unfold uT;simp only[rSeq_at,rSet_at,rRet_at,fVar_at,fCall_at,aCons_at,aNil_at,fComp_at,fRange_at,List.set,zz0,zz1,jn,zz2,zz3,ff,oLen_lst,tI_length,B.len,hr,bJ,aKo,aKq,aLs,cm,cap1,if_true,fSKM_at,sk,outT_rt]
  rfl
 ·rw[wM] at h
  have h1:(kf3 cs ns a).1=((aM (c a):Nat):Int):=csg a ha;have h2:(kf3 cs ns b).1=((aM (c b):Nat):Int):=csg b hb;have h3:(kf3 cs ns a).2.1=((c a:Nat):Int):=nsg a ha;have h4:(kf3 cs ns b).2.1=((c b:Nat):Int):=nsg b hb;rw[h1,h2,h3,h4] at h;have l1:=aJ7 (C.lt a ha) h64;unfold DkM;lia
def bM:Nat:=2^90000
theorem qV {i j:Int}(hi:i.natAbs<bM) (hj:j.natAbs<bM):bG (.int i) (.int j)=some (.int (i*j)):=jE (kB 90000 90000 hi hj (by decide) (by decide))
theorem ix0 (a b:Int):oIx (.tup [.int a,.int b]) (.int 0)=some (.int a):=rfl
theorem ix1 (a b:Int):oIx (.tup [.int a,.int b]) (.int 1)=some (.int b):=rfl
theorem QB {a b c d:Int}(ha:a.natAbs<bM) (hb:b.natAbs<bM) (hc:c.natAbs<bM) (hd:d.natAbs<bM):kX [.tup [.int a,.int b],.tup [.int c,.int d]]=some (.bl (decide (a*d<c*b))):=by
 rw[QE];unfold uW;simp only[rRet_at,f2_at,fVar_at,fC_at,zz0,zz1,jn,zz2,ix0,ix1,qV ha hd,qV hc hb,oLt_int,zz3,outT_rt]
theorem WI {s g:Int}(hs:0<s) (hg:0<g):(frI s g).1*g=s*(frI s g).2/\0<(frI s g).1/\0<(frI s g).2/\(frI s g).2<=g:=by
 obtain⟨_,_,e1,e2,p2,_⟩:=HR (t:=s) (b:=g) (by lia);generalize frD s g=D at e1 e2;generalize (frI s g).1=a at *;generalize (frI s g).2=b at *;have hD:0<D:=by
  rcases aJo 0 D with h | h
  ·exact h
  ·have:=Int.mul_nonpos_of_nonpos_of_nonneg h (aJn p2)
   lia
 refine⟨?_,?_,p2,?_⟩
 ·rw[e1,e2];grind
 ·rcases aJo 0 a with h | h
  ·exact h
  ·have:=Int.mul_nonpos_of_nonneg_of_nonpos (aJn hD) h
   lia
 ·have:=aJr (show 1<=D by lia) (aJn p2)
  lia
def tp2 (x:Int × Int):List T:=[.int x.1,.int x.2]
theorem OQ (a b:Nat->Int):∀ l:List Nat,eI (tI (l.map a)) (tI (l.map b))=tP tp2 (l.map fun g=>(a g,b g))
 | []=>rfl
 | g::l=>by
  have:=OQ a b l;unfold eI tP at *;simp only[aKo,tI_cons,List.zipWith_cons_cons,this]
  rfl
structure MoI (m G:Int) (ys:List (Int × Int)) (q:Int × Int):Prop where
 p1:0<q.1
 q1:0<q.2
 le:∀ x∈ys,0<x.2->q.1*x.2<=x.1*q.2
 sz:q.1<=m*q.2
 gt:q.2<=G
 or:q=(m,1)\/(q.1<m*q.2/\∃ x∈ys,0<x.2/\q.1*x.2=x.1*q.2)
theorem MoI.skip {m G:Int}{ys:List (Int × Int)}{q x:Int × Int}(I:MoI m G ys q) (h:0<x.2->¬ x.1*q.2<q.1*x.2):MoI m G (ys++[x]) q:=by
 refine⟨I.p1,I.q1,fun y hy h0=>?_,I.sz,I.gt,?_⟩
 ·rcases aKr.mp hy with hy | hy
  ·exact I.le y hy h0
  ·have e:y=x:=by simpa using hy
   subst e;exact Int.not_lt.mp (h h0)
 ·rcases I.or with h | ⟨h,y,hy,h2⟩
  ·exact .inl h
  ·exact .inr ⟨h,y,List.mem_append_left _ hy,h2⟩
theorem MoI.next {m G:Int}{ys:List (Int × Int)}{q x:Int × Int}(I:MoI m G ys q) (h0:0<x.2) (h1:0<x.1) (hG:x.2<=G) (h:x.1*q.2<q.1*x.2):MoI m G (ys++[x]) (frI x.1 x.2):=by
 obtain⟨e,p,b,l⟩:=WI h1 h0;have hq:=I.q1;have lt:(frI x.1 x.2).1*q.2<q.1*(frI x.1 x.2).2:=by
  have h2:(frI x.1 x.2).1*q.2*x.2<q.1*(frI x.1 x.2).2*x.2:=by
   have h3:=Int.mul_lt_mul_of_pos_right h b;have e1:(frI x.1 x.2).1*q.2*x.2=x.1*q.2*(frI x.1 x.2).2:=by
    rw[aJs,e,aJs]
   rw[e1,aJs q.1];exact h3
  exact Int.lt_of_mul_lt_mul_right h2 (aJn h0)
 refine⟨p,b,fun y hy hy0=>?_,?_,Int.le_trans l hG,.inr ⟨?_,x,by simp,h0,e⟩⟩
 ·rcases aKr.mp hy with hy | hy
  ·have h2:=I.le y hy hy0
   have h3:(frI x.1 x.2).1*y.2*q.2<=y.1*(frI x.1 x.2).2*q.2:=by
    have a1:=aJr (aJn lt) (aJn hy0);have a2:=aJr h2 (aJn b);have e1:(frI x.1 x.2).1*y.2*q.2=(frI x.1 x.2).1*q.2*y.2:=aJs ..;have e2:q.1*(frI x.1 x.2).2*y.2=q.1*y.2*(frI x.1 x.2).2:=aJs ..;have e3:y.1*(frI x.1 x.2).2*q.2=y.1*q.2*(frI x.1 x.2).2:=aJs ..;lia
   exact Int.le_of_mul_le_mul_right h3 hq
  ·have e:y=x:=by simpa using hy
   subst e;lia
 ·have h3:(frI x.1 x.2).1*q.2<m*(frI x.1 x.2).2*q.2:=by
   have a1:=aJr I.sz (aJn b);have e3:m*(frI x.1 x.2).2*q.2=m*q.2*(frI x.1 x.2).2:=aJs ..;lia
  exact aJn (Int.lt_of_mul_lt_mul_right h3 (aJn hq))
 ·have h3:(frI x.1 x.2).1*q.2<m*(frI x.1 x.2).2*q.2:=by
   have a1:=aJr I.sz (aJn b);have e3:m*(frI x.1 x.2).2*q.2=m*q.2*(frI x.1 x.2).2:=aJs ..;lia
  exact Int.lt_of_mul_lt_mul_right h3 (aJn hq)
def nE (n:Nat) (t r x:List Int) (m:Int):List (Int × Int):=(List.range (2^n)).map fun g=>(m*t.getD g 0-gv r g,t.getD g 0-gv x g)
theorem RB {n:Nat}(h6:n<=6) {t r x:List Int}{m:Int}(hl:t.length=2^n) (hr:r.length=n) (hx:x.length=n) (hm:0<m) (hmb:m.natAbs*10^203<bM) (htb:∀ y∈t,y.natAbs<bM)
  (h1:∀ y∈nE n t r x m,y.1.natAbs<bM/\y.2.natAbs<bM/\y.2<=10^202/\(0<y.2->0<y.1)):
  ∃ q,mF [.lst (tI t),.int m,.lst (tI r),.lst (tI x)]=some (.tup [.int q.1,.int q.2])/\MoI m (10^202) (nE n t r x m) q:=by
 have h64:=cZ h6;have mb:m.natAbs<bM:=by
  have:m.natAbs*1<=m.natAbs*10^203:=Nat.mul_le_mul_left _ (by decide +kernel);lia
 have fs:=FE (m:=m) (t:=t) (fun y hy=>kB 90000 90000 mb (htb y hy) (by decide) (by decide)) (by lia);have hl':(t.map (m * ·)).length=2^n:=by rw[aKg,hl]
 have f1:=wJ h6 hl' hr;have f2:=wJ h6 hl hx;have ez:eI (tI (bQ (t.map (m * ·)) r)) (tI (bQ t x))=tP tp2 (nE n t r x m):=by
  unfold bQ nE;rw[hl',hl,OQ]
  congr 1
  refine List.map_congr_left fun g _=>?_;rw[xK]
 have one:(1:Int).natAbs<bM:=by unfold bM;decide +kernel
 have ten:10^202<bM:=by unfold bM;decide +kernel
 have f9:10^202<2^9000:=by decide +kernel
 obtain⟨ρ',hlp,q,x6,x7,rfl,Q⟩:=wV (js:=[6,7]) (body:=vO) tp2 (fun ys ρ=>∃ q x6 x7,ρ=[some (.lst (tI t)),some (.int m),some (.lst (tI r)),some (.lst (tI x)),some (.tup [.int q.1,.int q.2]),some (.lst (tI (bQ (t.map (m * ·)) r))),x6,x7]/\MoI m (10^202) ys q) (nE n t r x m) [] (fun y hy ys ρ hρ=>by
  obtain⟨q,x6,x7,rfl,I⟩:=hρ;obtain⟨b1,b2,b3,b4⟩:=h1 y hy;have qb2:q.2.natAbs<bM:=by
   have:=I.gt;have:=I.q1;lia
  have qb1:q.1.natAbs<bM:=by
   have a1:=I.sz;have a2:=I.p1;have a3:=aJq I.gt (aJn hm);have a4:m*10^202<=m*10^203:=aJq (by decide +kernel) (aJn hm);have a5:(m.natAbs*10^203:Nat)=(m*10^203).natAbs:=by rw[Int.natAbs_mul];rfl
   lia
  have fl:=QB b1 b2 qb1 qb2;refine⟨[some (.lst (tI t)),some (.int m),some (.lst (tI r)),some (.lst (tI x)),some (.tup [.int q.1,.int q.2]),some (.lst (tI (bQ (t.map (m * ·)) r))),some (.int y.1),some (.int y.2)],?_⟩
  by_cases hc:0<y.2/\y.1*q.2<q.1*y.2
  ·refine⟨_,rfl,?_,frI y.1 y.2,some (.int y.1),some (.int y.2),rfl,I.next hc.1 (b4 hc.1) b3 hc.2⟩
   have ff:=QD (t:=y.1) (b:=y.2) (by lia) (by lia);have d1:decide (0<y.2)=true:=decide_eq_true hc.1;have d2:decide (y.1*q.2<q.1*y.2)=true:=decide_eq_true hc.2;have c2:2<=cap:=by decide
   unfold vO;simp only[rIf_at,rSet_at,pAnd_at,fB_at,fT_at,f1_at,f2_at,fVar_at,fC_at,fTup_at,fCall_at,aCons_at,aNil_at,List.set,zz0,zz1,jn,zz2,zz3,oGt_int,d1,isB_bl,if_true,gScal_int,aKe,aKh,aLp,Nat.reduceAdd,c2,fl,d2,truT_bl,ff,AZ]
  ·refine⟨_,rfl,?_,q,some (.int y.1),some (.int y.2),rfl,I.skip fun z w=>hc ⟨z,w⟩⟩
   have c2:2<=cap:=by decide
   unfold vO
   by_cases h0:0<y.2
   ·have d1:decide (0<y.2)=true:=decide_eq_true h0
    have d2:decide (y.1*q.2<q.1*y.2)=false:=decide_eq_false fun z=>hc ⟨h0,z⟩;simp only[rIf_at,rNext_at,pAnd_at,fB_at,fT_at,f1_at,f2_at,fVar_at,fC_at,fTup_at,fCall_at,aCons_at,aNil_at,List.set,zz0,zz1,jn,zz2,zz3,oGt_int,d1,isB_bl,if_true,gScal_int,aKe,aKh,aLp,Nat.reduceAdd,c2,fl,d2,truT_bl,aJf,if_false]
   ·have d1:decide (0<y.2)=false:=decide_eq_false h0
    simp only[rIf_at,rNext_at,pAnd_at,fB_at,f2_at,fVar_at,fC_at,List.set,zz0,zz1,jn,zz2,zz3,oGt_int,d1,isB_bl,aJf,if_false])
  [some (.lst (tI t)),some (.int m),some (.lst (tI r)),some (.lst (tI x)),some (.tup [.int m,.int 1]),some (.lst (tI (bQ (t.map (m * ·)) r))),none,none] ⟨(m,1),none,none,rfl,⟨hm,(by show (0:Int)<1;decide),(fun y hy=>by cases hy),(by show m<=m*1;lia),(by show (1:Int)<=10^202;decide +kernel),.inl rfl⟩⟩
 rw[List.nil_append] at Q;refine⟨q,?_,Q⟩;have c2:2<=cap:=by decide
 rw[RC];unfold vN;simp only[rSeq_at,rSet_at,rRet_at,rForT_at,fZip_at,fFL_at,f1_at,fVar_at,fC_at,fTup_at,fCall_at,aCons_at,aNil_at,List.set,zz0,zz1,jn,zz2,zz3,gScal_int,aKe,aKh,aLp,Nat.reduceAdd,c2,if_true,fs,f1,f2,dD,ez,hlp,AZ,outT_rt]
theorem IT {u a b:List Int}{q p:Int}(g:Nat):∀ ks:List Nat,(∀ k∈ks,u.getD k 0=q*a.getD k 0-p*b.getD k 0)->gvS u ks g=q*gvS a ks g-p*gvS b ks g
 | [],_=>by simp[gvS]
 | k::ks,h=>by
  have ih:=IT g ks fun j hj=>h j (aJ2 _ hj);have hk:=h k (by simp);simp only[gvS,ih];cases g.testBit k with
  | true=>
   simp only[if_true];rw[hk];grind
  | false=>
   simp only[aJf,if_false]
   grind
theorem xC {u a b:List Int}{q p:Int}{n:Nat}(hu:u.length=n) (ha:a.length=n) (hb:b.length=n) (h:∀ k,k<n->u.getD k 0=q*a.getD k 0-p*b.getD k 0) (g:Nat):gv u g=q*gv a g-p*gv b g:=by
 unfold gv;rw[hu,ha,hb];exact IT g _ fun k hk=>h k (aJ6.mp hk)
def dY (q:Int × Int) (r x:List Int):List Int:=List.zipWith (fun left share=>q.2*left-q.1*share) r x
theorem OO {f:Int->Int->Int}:∀ (r x:List Int) (h:Nat),h<r.length->h<x.length->(List.zipWith f r x).getD h 0=f (r.getD h 0) (x.getD h 0)
 | [],_,h,h1,_=>by simp at h1
 | _::_,[],h,_,h2=>by simp at h2
 | a::r,b::x,0,_,_=>rfl
 | a::r,b::x,h+1,h1,h2=>OO r x h (by simpa using h1) (by simpa using h2)
def smM (M:List Mx):Int:=(M.map fun x:Mx=>x.2).sum
def rwM (n:Nat) (t:List Int) (M:List Mx):List Int:=M.foldl (stM n t) (List.replicate n 0)
def mxM (q:Int × Int) (M:List Mx) (o:List Nat):List Mx:=(M.map fun x:Mx=>(x.1,q.2*x.2))++[(o,q.1)]
theorem EC (q:Int × Int) (o:List Nat):∀ M:List Mx,smM (mxM q M o)=q.2*smM M+q.1
 | []=>by simp[smM,mxM]
 | x::M=>by
  have ih:=EC q o M;unfold smM mxM at *;simp only[aKo,List.cons_append,aL5];rw[ih];grind
theorem HN {n:Nat}(t:List Int) {h:Nat}(hh:h<n):∀ (M:List Mx) (r:List Int),r.length=n->(M.foldl (stM n t) r).getD h 0=r.getD h 0+(M.map fun x:Mx=>x.2*(aS n t x.1).getD h 0).sum
 | [],r,_=>by simp
 | x::M,r,hr=>by
  rw[aK5,HN t hh M _ (kH n t r x),aKo,aL5];have:(stM n t r x).getD h 0=r.getD h 0+x.2*(aS n t x.1).getD h 0:=sT hh;rw[this];lia
theorem DJ (n h:Nat):(List.replicate n (0:Int)).getD h 0=0:=by
 rw[aJ0,List.getElem?_replicate]
 split<;>rfl
theorem MV {n:Nat}(t:List Int) {h:Nat}(hh:h<n) (M:List Mx):(rwM n t M).getD h 0=(M.map fun x:Mx=>x.2*(aS n t x.1).getD h 0).sum:=by
 unfold rwM;rw[HN t hh M _ (List.length_replicate ..),DJ];lia
theorem aEi {n:Nat}(t:List Int) {h:Nat}(hh:h<n) (q:Int × Int) (o:List Nat) (M:List Mx):(rwM n t (mxM q M o)).getD h 0=q.2*(rwM n t M).getD h 0+q.1*(aS n t o).getD h 0:=by
 rw[MV t hh,MV t hh]
 induction M with
 | nil=>simp[mxM]
 | cons x M ih=>
  unfold mxM at *;simp only[aKo,List.cons_append,aL5];rw[ih];grind
def fcM (n:Nat) (t:List Int) (m:Int) (r:List Int):Nat:=((List.range (2^n)).filter fun g=>decide (gv r g=m*t.getD g 0)).length
theorem WE (n:Nat) (t:List Int) (m:Int) (r:List Int):fcM n t m r<=2^n:=by
 have:=aKf (fun g=>decide (gv r g=m*t.getD g 0)) (List.range (2^n));rw[aKi] at this;exact this
theorem HH {p p':Nat->Bool}:∀ l:List Nat,(∀ x∈l,p x=true->p' x=true)->(l.filter p).length<=(l.filter p').length
 | [],_=>by simp
 | a::l,h=>by
  have ih:=HH l fun x hx=>h x (aJ2 _ hx);have ha:=h a (by simp);rw[aK1,aK1];cases h1:p a with
  | true=>rw[ha h1];simpa using ih
  | false=>cases p' a<;>simp<;>lia
theorem HI {p p':Nat->Bool}:∀ l:List Nat,(∀ x∈l,p x=true->p' x=true)->(∃ x∈l,p x=false/\p' x=true)->(l.filter p).length<(l.filter p').length
 | [],_,h=>by obtain⟨x,hx,_⟩:=h;cases hx
 | a::l,h,⟨x,hx,hp,hp'⟩=>by
  rw[aK1,aK1];rcases aJb.mp hx with e | hx
  ·subst e
   have ih:=HH l fun x hx=>h x (aJ2 _ hx);rw[hp,hp'];simp;lia
  ·have ih:=HI l (fun x hx=>h x (aJ2 _ hx)) ⟨x,hx,hp,hp'⟩
   have ha:=h a (by simp);cases h1:p a with
   | true=>rw[ha h1];simpa using ih
   | false=>cases p' a<;>simp<;>lia
structure Mst (n:Nat) (t s:List Int) (k:Nat) (m:Int) (r:List Int) (M:List Mx):Prop where
 m0:0<=m
 bs:BsM n t m r
 ok:∀ x∈M,x.1.Perm (List.range n)/\1<=x.2
 row:∀ h,h<n->(m+smM M)*s.getD h 0=r.getD h 0+(rwM n t M).getD h 0
 bd:m+smM M<=(10^202)^k
 len:M.length=k
theorem rR:∀ {M:List Mx},(∀ x∈M,1<=x.2)->0<=smM M/\∀ x∈M,x.2<=smM M
 | [],_=>⟨by simp[smM],fun x hx=>by cases hx⟩
 | y::M,h=>by
  obtain⟨h1,h2⟩:=rR fun x hx=>h x (aJ2 _ hx);have hy:=h y (by simp);have e:smM (y::M)=y.2+smM M:=by unfold smM;rw[aKo,aL5]
  rw[e];refine⟨by lia,fun x hx=>?_⟩;rcases aJb.mp hx with rfl | hx
  ·lia
  ·have:=h2 x hx;lia
theorem aFd {n:Nat}{t s:List Int}(hs:Sub n t) (h0:t.getD 0 0=0) {k:Nat}{m:Int}{r:List Int}{M:List Mx}(I:Mst n t s k m r M) (hm:0<m) {o:List Nat}(ho:o.Perm (List.range n))
  (ht:∀ g,g<2^n->cE t m r g->gv (aS n t o) g=t.getD g 0) {q:Int × Int} (J:MoI m (10^202) (nE n t r (aS n t o) m) q):
  Mst n t s (k+1) (q.2*m-q.1) (dY q r (aS n t o)) (mxM q M o)/\(q.2*m-q.1=0\/fcM n t m r<fcM n t (q.2*m-q.1) (dY q r (aS n t o))):=by
 have B:=I.bs;have xl:(aS n t o).length=n:=wE n t o;have rl:(dY q r (aS n t o)).length=n:=by unfold dY;rw[List.length_zipWith,B.len,xl];lia
 have rg:∀ h,h<n->(dY q r (aS n t o)).getD h 0=q.2*r.getD h 0-q.1*(aS n t o).getD h 0:=fun h hh=>OO r _ h (by rw[B.len];exact hh) (by rw[xl];exact hh);have rgv:=xC rl B.len xl rg;obtain⟨tb1,tb2⟩:=zO (n:=n) (t:=t) h0 ho;have tb2:=tb2 hs;have tb1:gv (aS n t o) (2^n-1)=t.getD (2^n-1) 0:=tb1;have tb2:∀ g,g<2^n->gv (aS n t o) g<=t.getD g 0:=tb2;have q1:=J.q1;have p1:=J.p1;have prs:∀ g,g<2^n->(m*t.getD g 0-gv r g,t.getD g 0-gv (aS n t o) g)∈nE n t r (aS n t o) m:=fun g hg=>aKw.mpr ⟨g,aJ6.mpr hg,rfl⟩;have spare:∀ g,(q.2*m-q.1)*t.getD g 0-gv (dY q r (aS n t o)) g=q.2*(m*t.getD g 0-gv r g)-q.1*(t.getD g 0-gv (aS n t o) g):=fun g=>by rw[rgv g];grind
 have pos:0<2^n:=aLl (by decide);refine⟨⟨?_,⟨rl,fun g hg=>?_,?_⟩,fun x hx=>?_,fun h hh=>?_,?_,?_⟩,?_⟩
 ·have:=J.sz
  rw[Int.mul_comm m] at this;lia
 ·have u1:=B.und g hg
  have u2:=tb2 g hg;have e:=spare g;have a1:=Int.mul_nonneg (aJn q1) (show 0<=m*t.getD g 0-gv r g by lia);rcases aJo 0 (t.getD g 0-gv (aS n t o) g) with hg0 | hg0
  ·have h2:=J.le _ (prs g hg) hg0
   have h2:q.1*(t.getD g 0-gv (aS n t o) g)<=(m*t.getD g 0-gv r g)*q.2:=h2;rw[Int.mul_comm _ q.2] at h2;lia
  ·have h3:t.getD g 0-gv (aS n t o) g=0:=by lia
   rw[h3,Int.mul_zero] at e;lia
 ·have e:=spare (2^n-1)
  rw[B.all,tb1,aJu,aJu,Int.mul_zero,Int.mul_zero,aJu] at e;exact (Int.eq_of_sub_eq_zero e).symm
 ·unfold mxM at hx
  rcases aKr.mp hx with hx | hx
  ·obtain⟨y,hy,rfl⟩:=aKw.mp hx
   obtain⟨a,b⟩:=I.ok y hy;refine⟨a,?_⟩;have:=Int.mul_pos q1 (show 0<y.2 by lia);show 1<=q.2*y.2;lia
  ·have e:x=(o,q.1):=by simpa using hx
   subst e;exact⟨ho,p1⟩
 ·have e:=I.row h hh
  rw[EC,rg h hh,aEi t hh];have e2:q.2*((m+smM M)*s.getD h 0)=q.2*(r.getD h 0+(rwM n t M).getD h 0):=by rw[e]
  grind
 ·rw[EC]
  have e:q.2*m-q.1+(q.2*smM M+q.1)=q.2*(m+smM M):=by grind
  have nn:=(rR fun x hx=>(I.ok x hx).2).1;have a1:=aJr J.gt (show 0<=m+smM M by lia);have a2:=aJq I.bd (show (0:Int)<=10^202 by decide +kernel);rw[e,Int.pow_succ,Int.mul_comm _ (10^202)];exact Int.le_trans a1 a2
 ·unfold mxM
  rw[aKd,aKg,I.len];rfl
 ·rcases J.or with e | ⟨h1,x,hx,h2,h3⟩
  ·refine .inl ?_
   rw[e];show 1*m-m=0;lia
  ·refine .inr ?_
   obtain⟨g,hg,rfl⟩:=aKw.mp hx;have hg:=aJ6.mp hg;refine HI _ (fun y hy hf=>?_) ⟨g,aJ6.mpr hg,decide_eq_false fun z=>?_,decide_eq_true ?_⟩
   ·have hf:=of_decide_eq_true hf
    have hy:=aJ6.mp hy;have e:=spare y;rw[ht y hy hf,hf,aJu,aJu,Int.mul_zero,Int.mul_zero,aJu] at e;exact decide_eq_true (Int.eq_of_sub_eq_zero e).symm
   ·have:=ht g hg z
    have h2:0<t.getD g 0-gv (aS n t o) g:=h2;lia
   ·have e:=spare g
    have h3:q.1*(t.getD g 0-gv (aS n t o) g)=(m*t.getD g 0-gv r g)*q.2:=h3;rw[h3,Int.mul_comm _ q.2,aJu] at e;exact (Int.eq_of_sub_eq_zero e).symm
theorem GU {f:Rho->Option T}{ρ:Rho}(h:Int->Int->Int):∀ (ns ms:List Int),(∀ x∈ns,∀ y∈ms,f ((ρ.set 0 (some (.int x))).set 1 (some (.int y)))=some (.int (h x y)))->bR [0,1] aR f ρ (eI (tI ns) (tI ms))=some (tI (List.zipWith h ns ms))
 | [],_,_=>rfl
 | _::_,[],_=>rfl
 | n::ns,m::ms,h2=>by
  have ih:=GU h ns ms fun x hx y hy=>h2 x (aJ2 _ hx) y (aJ2 _ hy);show (setL ρ [0,1] [.int n,.int m]).bind _=_;simp only[setL_cons,setL_nil,zz2,aR,if_true];rw[h2 n aJ3 m aJ3];show ((bR [0,1] aR f ρ (eI (tI ns) (tI ms))).map (T.int (h n m) :: ·))=_;rw[ih]
  rfl
def eH:Int:=(10^202)^65
theorem OB {k:Nat}(h:k<=65):(10^202:Int)^k<=eH:=by
 unfold eH;have e:(10^202:Int)=((10^202:Nat):Int):=by decide +kernel
 rw[e,<- Int.natCast_pow,<- Int.natCast_pow];exact Int.ofNat_le.mpr (aLj (by decide +kernel) h)
theorem NZ:(eH*10^203).natAbs<bM:=by unfold eH bM;decide +kernel
theorem OA:0<=eH:=by unfold eH;decide +kernel
theorem AD {n:Nat}{t r:List Int}{m:Int}(F:Fal n (10^200) t) (B:BsM n t m r) (hm:0<=m) {g:Nat}(hg:g<2^n):gv r g<=m*10^200 /\ - (m*(2*10^200))<=gv r g:=by
 have hc:=IY (row:=r) (a:=g) (by rw[B.len];exact hg);rw[B.len,B.all] at hc;have u1:=B.und g hg;have u2:=B.und (2^n-1-g) (by lia);have b:∀ i,t.getD i 0<=10^200 /\ -(10^200)<=t.getD i 0:=fun i=>by
  have h:=F.bd.get i;have e:((10^200:Nat):Int)=10^200:=by decide +kernel
  lia
 have l1:=aJq (b g).1 hm;have l2:=aJq (b (2^n-1-g)).1 hm;have l3:=aJq (b (2^n-1)).2 hm;generalize m*t.getD g 0=a1 at *;generalize m*t.getD (2^n-1-g) 0=a2 at *;generalize m*t.getD (2^n-1) 0=a3 at *;have e1:m*(2*10^200)=m*10^200+m*10^200:=by grind
 have e2:m * -(10^200) = -(m*10^200):=by grind
 lia
theorem sB {i m:Int}{c:Int}(hm:0<=m) (hT:m<=eH) (hc:c<=10^203) (h1:i<=m*c) (h2 : -(m*c)<=i):i.natAbs<bM:=by
 have a1:=aJq hc hm;have a2:=aJr hT (show (0:Int)<=10^203 by decide +kernel);have a3:=NZ;lia
theorem ZY (q:Int × Int) (M:List Mx) (o:List Nat):(M.map fun x:Mx=>T.tup (tpM (x.1,q.2*x.2)))++[.tup [.lst (tI (tN' o)),.int q.1]]=tP tpM (mxM q M o):=by
 unfold tP mxM;rw[List.map_append,aKp]
 rfl
theorem OD {n:Nat}(h6:n<=6) {t s:List Int}(F:Fal n (10^200) t) {k:Nat}(hk:k<=64) {m:Int}{r:List Int}{M:List Mx}(I:Mst n t s k m r M) (hm:0<m) (x5 x6 x7:Option T):
  ∃ (q:Int × Int) (o:List Nat) (y5 y6 y7:Option T),gT [some (.lst (tI t)),some (.lst (tI s)),some (.lst (tP tpM M)),some (.int m),some (.lst (tI r)),x5,x6,x7]=some (.nx [some (.lst (tI t)),some (.lst (tI s)),some (.lst (tP tpM (mxM q M o))),some (.int (q.2*m-q.1)),some (.lst (tI (dY q r (aS n t o)))),y5,y6,y7]) /\
   Mst n t s (k+1) (q.2*m-q.1) (dY q r (aS n t o)) (mxM q M o)/\(q.2*m-q.1=0\/fcM n t m r<fcM n t (q.2*m-q.1) (dY q r (aS n t o))):=by
 have h64:=cZ h6;have hl:=F.len;have B:=I.bs;have nn:=rR fun x hx=>(I.ok x hx).2;have hT:m+smM M<=eH:=Int.le_trans I.bd (OB (by lia));have hmT:m<=eH:=by have:=nn.1;lia
 have m0:=I.m0;have e200:((10^200:Nat):Int)=10^200:=by decide +kernel
 have e201:((10^201:Nat):Int)=10^201:=by decide +kernel
 have tbig:∀ y∈t,y.natAbs<bM:=fun y hy=>by
  have h:=F.bd y hy;have:10^200<bM:=by unfold bM;decide +kernel
  lia
 have mbig:m.natAbs<bM:=sB m0 hmT (c:=1) (by decide +kernel) (by lia) (by lia);obtain⟨o,ho,fo,ft⟩:=PN h6 hl F.sub F.zero hm B;have fs:=FE (m:=m) (t:=t) (fun y hy=>kB 90000 90000 mbig (tbig y hy) (by decide) (by decide)) (by lia);have fb:=zQ h6 hl ho;have xl:=wE n t o;have xb:=NR (n:=n) F.bd o;obtain⟨_,tb2⟩:=zO (n:=n) (t:=t) F.zero ho;have tb2:∀ g,g<2^n->gv (aS n t o) g<=t.getD g 0:=tb2 F.sub;have gvx:∀ g,(gv (aS n t o) g).natAbs<=6*10^201:=fun g=>by
  rw[<- BK];exact IK xb (by rw[xl];exact h6) g
 have e203:m.natAbs*10^203<bM:=by
  have a2:=aJr hmT (show (0:Int)<=10^203 by decide +kernel);have a3:=NZ;have a5:(m.natAbs*10^203:Nat)=(m*10^203).natAbs:=by rw[Int.natAbs_mul];rfl
  have a6:0<=m*10^203:=Int.mul_nonneg m0 (by decide +kernel);lia
 have tenB:10^202<bM:=by unfold bM;decide +kernel
 have e202:(10^202:Int)=((10^202:Nat):Int):=by decide +kernel
 have sum7:10^200+6*10^201<=10^202:=by decide +kernel
 obtain⟨q,fm,J⟩:=RB h6 hl B.len xl hm e203 tbig fun y hy=>by
  obtain⟨g,hg,rfl⟩:=aKw.mp hy;have hg:=aJ6.mp hg;have u1:=B.und g hg;have u2:=tb2 g hg;obtain⟨v1,v2⟩:=AD F B m0 hg;have w:=gvx g;have bt:=F.bd.get g;refine⟨sB m0 hmT (c:=3*10^200) (by decide +kernel) ?_ ?_,?_,?_,fun h0=>?_⟩
  ·have l1:=aJq (show t.getD g 0<=10^200 by lia) m0
   show m*t.getD g 0-gv r g<=m*(3*10^200);have e1:m*(3*10^200)=m*10^200+m*(2*10^200):=by grind
   lia
  ·have:0<=m*(3*10^200):=Int.mul_nonneg m0 (by decide +kernel)
   show -(m*(3*10^200))<=m*t.getD g 0-gv r g;lia
  ·show (t.getD g 0-gv (aS n t o) g).natAbs<bM
   lia
  ·show t.getD g 0-gv (aS n t o) g<=10^202
   lia
  ·have h0:0<t.getD g 0-gv (aS n t o) g:=h0
   show 0<m*t.getD g 0-gv r g;rcases aJo 0 (m*t.getD g 0-gv r g) with z | z
   ·exact z
   ·have:=ft g hg (show gv r g=m*t.getD g 0 by lia)
    lia
 have q1:=J.q1;have p1:=J.p1;have qb2:q.2.natAbs<bM:=by have:=J.gt;lia
 have qb1:q.1.natAbs<bM:=by
  have a1:=J.sz;have a3:=aJq J.gt m0;exact sB m0 hmT (c:=10^202) (by decide +kernel) (by lia) (by lia)
 have mu1:=qV qb2 mbig;have e1:bR [0,1] aR zC [none,none,some (.tup [.int q.1,.int q.2])] (eI (tI r) (tI (aS n t o)))=some (tI (dY q r (aS n t o))):=by
  refine GU _ r (aS n t o) fun x hx y hy=>?_;have xB:x.natAbs<bM:=by
   obtain⟨h,hh,e⟩:=aKv.mp hx;have hhn:h<n:=by rw[<- B.len];exact hh
   have eg:=BZ hh;rw[aJ0,aJ1 hh,e] at eg;have eg:gv r (2^h)=x:=eg;obtain⟨v1,v2⟩:=AD F B m0 (Nat.pow_lt_pow_right (by decide) hhn:2^h<2^n);rw[eg] at v1 v2;have:m*(2*10^200)=m*10^200+m*10^200:=by grind
   have:0<=m*10^200:=Int.mul_nonneg m0 (by decide +kernel);exact sB m0 hmT (c:=2*10^200) (by decide +kernel) (by lia) (by lia)
  have yB:y.natAbs<bM:=by
   have:=xb y hy;lia
  have m1:=qV qb2 xB;have m2:=qV qb1 yB;unfold zC;simp only[f2_at,fVar_at,fC_at,List.set,zz0,zz1,jn,zz2,ix0,ix1,m1,m2,oSub_int]
 have rl:(dY q r (aS n t o)).length=n:=by unfold dY;rw[List.length_zipWith,B.len,xl];lia
 have rc:(dY q r (aS n t o)).length<=cap:=by rw[rl];unfold cap;lia
 have c2:2<=cap:=by decide
 have c1:1<=cap:=by decide
 have e2:bR [0,1] aR zD [none,none,some (.tup [.int q.1,.int q.2])] (tP tpM M)=some (M.map fun x:Mx=>T.tup (tpM (x.1,q.2*x.2))):=wQ _ M fun x hx=>by
  have xB:x.2.natAbs<bM:=by
   have a1:=(I.ok x hx).2;have a2:=nn.2 x hx;have a3:=nn.1;exact sB (m:=eH) OA (Int.le_refl _) (c:=1) (by decide +kernel) (by lia) (by have:=OA;lia)
  have m1:=qV qb2 xB;unfold zD;simp only[fTup_at,f2_at,fVar_at,fC_at,aCons_at,aNil_at,List.set,zz0,zz1,jn,zz2,ix1,m1,aKe,aKh,aLp,Nat.reduceAdd,c2,if_true]
  rfl
 have Ml:=I.len;have e2c:(M.map fun x:Mx=>T.tup (tpM (x.1,q.2*x.2))).length<=cap:=by rw[aKg,Ml];unfold cap;lia
 have oc:=CP (xs:=M.map fun x:Mx=>T.tup (tpM (x.1,q.2*x.2))) (ys:=[.tup [.lst (tI (tN' o)),.int q.1]]) (by rw[aKg,Ml];show k+1<=cap;unfold cap;lia);rw[ZY] at oc;obtain⟨S1,S2⟩:=aFd F.sub F.zero I hm ho ft J;refine⟨q,o,some (.lst (tI (tN' o))),some (.lst (tI (aS n t o))),some (.tup [.int q.1,.int q.2]),?_,S1,S2⟩;unfold gT;rw[rSeq_at];simp only[rSet_at,fVar_at,fCall_at,aCons_at,aNil_at,List.set,zz0,zz1,jn,zz2,zz3,fs,fo];rw[rSeq_at];simp only[rSet_at,fVar_at,fCall_at,aCons_at,aNil_at,List.set,zz0,zz1,jn,zz2,zz3,fb];rw[rSeq_at];simp only[rSet_at,f1_at,fVar_at,fCall_at,aCons_at,aNil_at,List.set,zz0,zz1,jn,zz2,zz3,fm,AZ];rw[rSeq_at];simp only[rSet_at,fCompT_at,fZip_at,fFL_at,fVar_at,List.set,zz0,zz1,jn,zz2,zz3,dD,bJ,aKo,aKq,aLs,e1,tI_length,rc,if_true];rw[rSeq_at];simp only[rSet_at,f2_at,fC_at,fVar_at,List.set,zz0,zz1,jn,zz2,zz3,ix0,ix1,mu1,oSub_int];simp only[rSet_at,f1_at,f2_at,fC_at,fVar_at,fL_at,fLst_at,fTup_at,fCompT_at,aCons_at,aNil_at,List.set,zz0,zz1,jn,zz2,zz3,xG,bJ,aKo,aKq,aLs,e2,e2c,if_true,ix0,gScal_int,aKe,aKh,aLp,Nat.reduceAdd,c1,c2,oc]
theorem ZS {n:Nat}(h6:n<=6) {t s:List Int}(F:Fal n (10^200) t):∀ (d k:Nat) (m:Int) (r:List Int) (M:List Mx) (x5 x6 x7:Option T) (f:Nat),Mst n t s k m r M->(0<m->2^n-fcM n t m r<=d)->k+d<=64->d+2<=f ->
  ∃ k' r' M' ρ',cD jG gT f [some (.lst (tI t)),some (.lst (tI s)),some (.lst (tP tpM M)),some (.int m),some (.lst (tI r)),x5,x6,x7]=some (.nx ρ')/\ρ'[2]?=some (some (.lst (tP tpM M')))/\Mst n t s k' 0 r' M'/\k'<=65/\k<=k'/\(0<m->k<k'):=by
 have stop:∀ (k:Nat) (r:List Int) (M:List Mx) (x5 x6 x7:Option T) (f:Nat),Mst n t s k 0 r M->0<f->cD jG gT f [some (.lst (tI t)),some (.lst (tI s)),some (.lst (tP tpM M)),some (.int 0),some (.lst (tI r)),x5,x6,x7]=some (.nx [some (.lst (tI t)),some (.lst (tI s)),some (.lst (tP tpM M)),some (.int 0),some (.lst (tI r)),x5,x6,x7]):=fun k r M x5 x6 x7 f I hf=>by
  obtain⟨f,rfl⟩:∃ f',f=f'+1:=⟨f-1,by lia⟩;rw[cD]
  rfl
 have go:∀ (m:Int) (r:List Int) (M:List Mx) (x5 x6 x7:Option T) (f:Nat) {ρ':Rho},0<m->gT [some (.lst (tI t)),some (.lst (tI s)),some (.lst (tP tpM M)),some (.int m),some (.lst (tI r)),x5,x6,x7]=some (.nx ρ') ->
   cD jG gT (f+1) [some (.lst (tI t)),some (.lst (tI s)),some (.lst (tP tpM M)),some (.int m),some (.lst (tI r)),x5,x6,x7]=cD jG gT f ρ':=fun m r M x5 x6 x7 f ρ' hm e=>by
  rw[cD];have hp:jG [some (.lst (tI t)),some (.lst (tI s)),some (.lst (tP tpM M)),some (.int m),some (.lst (tI r)),x5,x6,x7]=some true:=by
   unfold jG;simp only[fB_at,f2_at,fVar_at,fC_at,zz0,zz1,jn,zz2,oGt_int,decide_eq_true hm,isB_bl]
  rw[hp,zz2,if_pos rfl,e]
  rfl
 intro d
 induction d with
 | zero=>
  intro k m r M x5 x6 x7 f I hd hk hf;rcases aJo 0 m with hm | hm
  ·obtain⟨q,o,y5,y6,y7,e,S,c⟩:=OD h6 F (by lia) I hm x5 x6 x7
   obtain⟨f,rfl⟩:∃ f',f=f'+1:=⟨f-1,by lia⟩;have h1:=hd hm;rcases c with c | c
   ·rw[c] at S e
    refine⟨k+1,_,_,[some (.lst (tI t)),some (.lst (tI s)),some (.lst (tP tpM (mxM q M o))),some (.int 0),some (.lst (tI (dY q r (aS n t o)))),y5,y6,y7],?_,rfl,S,by lia,by lia,fun _=>by lia⟩;rw[go m r M x5 x6 x7 f hm e];exact stop _ _ _ _ _ _ f S (by lia)
   ·have:=WE n t (q.2*m-q.1) (dY q r (aS n t o))
    lia
  ·have e:m=0:=by have:=I.m0;lia
   subst e;exact⟨k,r,M,_,stop k r M x5 x6 x7 f I (by lia),rfl,I,by lia,aL8 k,fun z=>by lia⟩
 | succ d ih=>
  intro k m r M x5 x6 x7 f I hd hk hf;rcases aJo 0 m with hm | hm
  ·obtain⟨q,o,y5,y6,y7,e,S,c⟩:=OD h6 F (by lia) I hm x5 x6 x7
   obtain⟨f,rfl⟩:∃ f',f=f'+1:=⟨f-1,by lia⟩;have h1:=hd hm;rcases c with c | c
   ·rw[c] at S e
    refine⟨k+1,_,_,[some (.lst (tI t)),some (.lst (tI s)),some (.lst (tP tpM (mxM q M o))),some (.int 0),some (.lst (tI (dY q r (aS n t o)))),y5,y6,y7],?_,rfl,S,by lia,by lia,fun _=>by lia⟩;rw[go m r M x5 x6 x7 f hm e];exact stop _ _ _ _ _ _ f S (by lia)
   ·obtain⟨k',r',M',ρ',h2,h3,h4,h5,h7,_⟩:=ih (k+1) _ _ _ y5 y6 y7 f S (fun _=>by lia) (by lia) (by lia)
    refine⟨k',r',M',ρ',?_,h3,h4,h5,by lia,fun _=>by lia⟩;rw[go m r M x5 x6 x7 f hm e];exact h2
  ·have e:m=0:=by have:=I.m0;lia
   subst e;exact⟨k,r,M,_,stop k r M x5 x6 x7 f I (by lia),rfl,I,by lia,aL8 k,fun z=>by lia⟩
theorem RA {n:Nat}(h6:n<=6) {t s:List Int}(F:Fal n (10^200) t) (B:Bas n t s):∃ M:List Mx,jM [.lst (tI t),.lst (tI s)]=some (.lst (tP tpM M))/\M≠[]/\M.length<=65/\(∀ x∈M,x.1.Perm (List.range n)/\1<=x.2)/\smM M<=eH/\∀ h,h<n->smM M*s.getD h 0=(rwM n t M).getD h 0:=by
 have I0:Mst n t s 0 1 s []:=by
  refine⟨by decide,⟨B.len,fun g hg=>?_,?_⟩,(fun x hx=>by cases hx),fun h hh=>?_,?_,rfl⟩
  ·rw[Int.one_mul];exact B.und g hg
  ·rw[Int.one_mul];exact B.all
  ·have e:(rwM n t []).getD h 0=0:=DJ n h
   rw[e];show (1+0)*s.getD h 0=_;lia
  ·show (1:Int)+0<=_
   rw[Int.pow_zero];decide
 have h64:=cZ h6;obtain⟨k',r',M,ρ',h1,h2,S,h3,h4,h5⟩:=ZS h6 F (2^n) 0 1 s [] none none none 100000 I0 (fun _=>Nat.sub_le _ _) (by lia) (by lia);have hr0:∀ h,h<n->r'.getD h 0=0:=fun h hh=>by
  have hl:=S.bs.len;have pw:2^h<2^n:=Nat.pow_lt_pow_right (by decide) hh;have eg:=BZ (row:=r') (k:=h) (by lia);have hc:=IY (row:=r') (a:=2^h) (by rw[hl];exact pw);rw[hl,S.bs.all] at hc;have u1:=S.bs.und (2^h) pw;have u2:=S.bs.und (2^n-1-2^h) (aLb (Nat.sub_le _ _) (Nat.sub_lt (aLl (by decide)) (by decide)));rw[Int.zero_mul] at u1 u2 hc;lia
 refine⟨M,?_,?_,?_,S.ok,?_,fun h hh=>?_⟩
 ·have fm:=RE h6 F.len F.sub
  have fb:=FT h6 F.len F.zero B;have c0:0<=cap:=aLq _;have h1:cD jG gT 100000 [some (.lst (tI t)),some (.lst (tI s)),some (.lst []),some (.int 1),some (.lst (tI s)),none,none,none]=some (.nx ρ'):=h1;rw[QZ];unfold vM;simp only[rSeq_at,rSet_at,rDrop_at,rIf_at,rNext_at,rRet_at,rWhile_at,pNot_at,fT_at,fC_at,fLst_at,fVar_at,fCall_at,aCons_at,aNil_at,List.set,zz0,zz1,jn,zz2,zz3,fm,fb,truT_bl,Bool.not_true,aJf,if_false,aKh,c0,if_true,h1,h2,outT_rt]
 ·intro e
  have:=S.len;rw[e] at this;have h5:=h5 (by decide);have:k'=0:=this.symm;lia
 ·rw[S.len];exact h3
 ·have:=S.bd
  have:=OB h3;lia
 ·have e:=S.row h hh
  rw[hr0 h hh,Int.zero_add,Int.zero_add] at e;exact e
theorem XX {n:Nat}{t r:List Int}(hr:r.length=n) (x:Mx) (g:Nat):gv (stM n t r x) g=gv r g+x.2*gv (aS n t x.1) g:=by
 have:=xC (u:=stM n t r x) (a:=r) (b:=aS n t x.1) (q:=1) (p := -x.2) (kH n t r x) hr (wE n t x.1) (fun k hk=>by
  have e:(stM n t r x).getD k 0=r.getD k 0+x.2*(aS n t x.1).getD k 0:=sT hk;rw[e];grind) g
 rw[this];grind
theorem IZ {n:Nat}{t:List Int}(g:Nat):∀ (M:List Mx) (r:List Int),r.length=n->gv (M.foldl (stM n t) r) g=gv r g+(M.map fun x:Mx=>x.2*gv (aS n t x.1) g).sum
 | [],r,_=>by simp
 | x::M,r,hr=>by
  rw[aK5,IZ g M _ (kH n t r x),XX hr,aKo,aL5];lia
theorem JA (n g:Nat):gv (List.replicate n 0) g=0:=by
 have:=xC (u:=List.replicate n 0) (a:=List.replicate n 0) (b:=List.replicate n 0) (q:=0) (p:=0) (n:=n) (by simp) (by simp) (by simp) (fun k _=>by rw[DJ];rfl) g;rw[this];lia
theorem JB {n:Nat}{t:List Int}(g:Nat) (M:List Mx):gv (rwM n t M) g=(M.map fun x:Mx=>x.2*gv (aS n t x.1) g).sum:=by
 unfold rwM;rw[IZ g M _ (by simp),JA];lia
theorem NN {f:Mx->Int}{c:Int}:∀ {M:List Mx},(∀ x∈M,1<=x.2/\f x<=c)->(M.map fun x:Mx=>x.2*f x).sum<=smM M*c
 | [],_=>by simp[smM]
 | y::M,h=>by
  have ih:=NN (M:=M) (f:=f) (c:=c) fun x hx=>h x (aJ2 _ hx);obtain⟨h1,h2⟩:=h y (by simp);have e:smM (y::M)=y.2+smM M:=by unfold smM;rw[aKo,aL5]
  have:=aJq h2 (show 0<=y.2 by lia);rw[e,aKo,aL5,Int.add_mul];lia
theorem NM {f:Mx->Int}{c:Int}:∀ {M:List Mx},(∀ x∈M,f x=c)->(M.map fun x:Mx=>x.2*f x).sum=smM M*c
 | [],_=>by simp[smM]
 | y::M,h=>by
  have ih:=NM (M:=M) (f:=f) (c:=c) fun x hx=>h x (aJ2 _ hx);have h2:=h y (by simp);have e:smM (y::M)=y.2+smM M:=by unfold smM;rw[aKo,aL5]
  rw[e,aKo,aL5,Int.add_mul,ih,h2]
theorem KR {n:Nat}{t:List Int}{b:Nat}(F:Fal n b t) {M:List Mx}(hM:∀ x∈M,x.1.Perm (List.range n)/\1<=x.2):BsM n t (smM M) (rwM n t M):=by
 refine⟨sG n t M _ (by simp),fun g hg=>?_,?_⟩
 ·rw[JB]
  exact NN fun x hx=>⟨(hM x hx).2,(zO F.zero (hM x hx).1).2 F.sub g hg⟩
 ·rw[JB]
  exact NM fun x hx=>(zO F.zero (hM x hx).1).1
theorem VW {a b:List Int}{n:Nat}(ha:a.length=n) (hb:b.length=n) (h:∀ k,k<n->a.getD k 0=b.getD k 0):a=b:=by
 refine List.ext_getElem (by lia) fun k h1 h2=>?_;have:=h k (by lia);rw[aJ0,aJ0,aJ1 h1,aJ1 h2] at this;exact this
theorem KQ {n:Nat}{t s:List Int}(hs:s.length=n) {M:List Mx}(hne:M≠[]) (hM:∀ x∈M,x.1.Perm (List.range n)/\1<=x.2) (h:∀ k,k<n->smM M*s.getD k 0=(rwM n t M).getD k 0):xM n t s M=true:=by
 unfold xM;have e:M.foldl (stM n t) (List.replicate n 0)=s.map fun x=>(M.map fun x:Mx=>x.2).sum*x:=by
  refine VW (n:=n) (sG n t M _ (by simp)) (by rw[aKg,hs]) fun k hk=>?_;have e1:=h k hk;have e2:=xK s (smM M) k;rw[<- e2] at e1;exact e1.symm
 rw[decide_eq_true e,Bool.and_true,aJ5.mpr (fun x hx=>decide_eq_true (hM x hx).2),Bool.and_true];cases M with
 | nil=>exact absurd rfl hne
 | cons _ _=>rfl
theorem EE {n:Nat}{c:Int}:∀ {m:List Mx},OkD c n m->(m.length:Int)<=smM m/\smM m<=c*(m.length:Int)
 | [],_=>by simp[smM]
 | y::m,h=>by
  obtain⟨h1,h2⟩:=EE (m:=m) (c:=c) (n:=n) fun x hx=>h x (aJ2 _ hx);obtain⟨_,h3,h4⟩:=h y (by simp);have e:smM (y::m)=y.2+smM m:=by unfold smM;rw[aKo,aL5]
  rw[e,aKe]
  constructor
  ·lia
  ·have:c*((m.length+1:Nat):Int)=c*(m.length:Int)+c:=by push_cast;grind
   lia
theorem aG8:eH.natAbs<2^100000:=by unfold eH;decide +kernel
theorem aGg {n:Nat}(h6:n<=6) {t:List Int}(F:Fal n (10^200) t) {m:List Mx}{c:Int}(hm:OkD c n m) (hne:m≠[]) (hml:m.length<=64) (hc:c<=10^40) {s:List Int}(hsl:s.length=n) (hrow:∀ k,k<n->smM m*s.getD k 0=(rwM n t m).getD k 0):
  eZ [.lst (tI t),.lst (tI s)]=some (.bl true)/\gF [.lst (tI t),.lst (tI s),.lst (tP tpM m)]=some (.bl true)/\∃ M:List Mx,jM [.lst (tI t),.lst (tI s)]=some (.lst (tP tpM M))/\gF [.lst (tI t),.lst (tI s),.lst (tP tpM M)]=some (.bl true):=by
 have hM:∀ x∈m,x.1.Perm (List.range n)/\1<=x.2:=fun x hx=>⟨(hm x hx).1,(hm x hx).2.1⟩;have sd:=EE hm;have hmp:0<m.length:=by
  cases m with
  | nil=>exact absurd rfl hne
  | cons _ _=>simp
 have B:=KR F hM;have sp:0<smM m:=by lia
 have lin:∀ g,gv (rwM n t m) g=smM m*gv s g:=fun g=>by
  have:=xC (u:=rwM n t m) (a:=s) (b:=s) (q:=smM m) (p:=0) B.len hsl hsl (fun k hk=>by rw[<- hrow k hk];lia) g;rw[this];lia
 have Bs:Bas n t s:=by
  refine⟨hsl,fun g hg=>?_,?_⟩
  ·have:=B.und g hg
   rw[lin g] at this;exact Int.le_of_mul_le_mul_left this sp
  ·have:=B.all
   rw[lin] at this;exact Int.eq_of_mul_eq_mul_left (Int.ne_of_gt sp) this
 have B1:BsM n t 1 s:=⟨hsl,fun g hg=>by rw[Int.one_mul];exact Bs.und g hg,by rw[Int.one_mul];exact Bs.all⟩;have hsb:∀ x∈s,x.natAbs<2^1000:=fun x hx=>by
  obtain⟨h,hh,e⟩:=aKv.mp hx;have eg:=BZ hh;rw[aJ0,aJ1 hh,e] at eg;have eg:gv s (2^h)=x:=eg;obtain⟨v1,v2⟩:=AD F B1 (by decide) (Nat.pow_lt_pow_right (by decide) (by lia):2^h<2^n);rw[eg] at v1 v2;have:x.natAbs<=2*10^200:=by
   have e1:(1:Int)*10^200=((10^200:Nat):Int):=by decide +kernel
   have e2:(1:Int)*(2*10^200)=((2*10^200:Nat):Int):=by decide +kernel
   rw[e1] at v1;rw[e2] at v2;lia
  exact aLb this (by decide +kernel)
 have hml':(m.length:Int)<=64:=by lia
 have c0:0<=c:=by
  cases m with
  | nil=>exact absurd rfl hne
  | cons y _=>
   have:=(hm y (by simp)).2;lia
 have sm1:smM m<=10^42:=by
  have a1:=aJq hml' c0;have a2:=aJr hc (show (0:Int)<=64 by decide);have a3:(10^40:Int)*64<=10^42:=by decide
  lia
 have small:∀ i:Int,0<=i->i<=10^42->i.natAbs<2^100000:=fun i h1 h2=>by
  have e:(10^42:Int)=((10^42:Nat):Int):=by decide
  have:i.natAbs<=10^42:=by lia
  exact aLb this (by decide +kernel)
 have nn:=rR fun x hx=>(hM x hx).2;have OM:OkM n m:=fun x hx=>⟨(hM x hx).1,small x.2 (by have:=(hM x hx).2;lia) (by have:=nn.2 x hx;lia)⟩;have f1:=EX h6 F.len F.bd (by lia) hsb OM (small _ nn.1 sm1) (by lia);rw[KQ hsl hne hM hrow] at f1;obtain⟨M,fM,Mne,Ml,MM,Ms,Mr⟩:=RA h6 F Bs;have nM:=rR fun x hx=>(MM x hx).2;have bigT:∀ i:Int,0<=i->i<=eH->i.natAbs<2^100000:=fun i h1 h2=>aLb (show i.natAbs<=eH.natAbs by lia) aG8;have OT:OkM n M:=fun x hx=>⟨(MM x hx).1,bigT x.2 (by have:=(MM x hx).2;lia) (by have:=nM.2 x hx;lia)⟩;have f2:=EX h6 F.len F.bd (by lia) hsb OT (bigT _ nM.1 Ms) (by lia);rw[KQ hsl Mne MM Mr] at f2;exact⟨FT h6 F.len F.zero Bs,f1,M,fM,f2⟩
def EF:Rho->Option Out:=aH (aQ 8 (cA (fL (aG (aC (aA 1) aE) eY)) [none] aR nI)) (aU (f2 (aG (aC (aA 2) (aC (aA 8) aE)) cS) (aG (aC (aA 2) aE) hE) oEq))
theorem aG3:EF=aH (aQ 8 (cA (fL (aG (aC (aA 1) aE) eY)) [none] aR nI)) (aU (f2 (aG (aC (aA 2) (aC (aA 8) aE)) cS) (aG (aC (aA 2) aE) hE) oEq)):=rfl
theorem PU {n:Nat}(h6:n<=6) {t:List Int}(hl:t.length=2^n) (r0 r2 r3 r4 r5 r6 r7:Option T) (hr2:r2=some (.lst (tI t))):
  EF [r0,some (.int (n:Int)),r2,r3,r4,r5,r6,r7,none]=some (.rt (.bl true)):=by
 subst hr2;have iL:∀ l:List T,isL (.lst l)=some l:=fun _=>rfl;have c2:(2:Nat)<=cap:=by decide
 have fa:=EO h6;have l720:=KK h6;have e:bL aR nI [none] ((lvl n n).map tO)=some (tP tpM ((lvl n n).map fun o=>(o,(1:Int)))):=by
  have:=wR (p:=aR) (f:=nI) (ρ:=[none]) tO (fun _=>true) (fun o=>T.tup (tpM (o,1))) (lvl n n) (fun o _=>⟨rfl,fun _=>by
   unfold nI;simp only[fTup_at,fVar_at,fC_at,aCons_at,aNil_at,List.set,zz0,jn,zz2,aKe,aKh,aLp,Nat.reduceAdd,c2,if_true]
   rfl⟩)
  rw[this,List.filter_eq_self.mpr (fun _ _=>rfl)];unfold tP;rw[aKp];rfl
 have hc:(tP tpM ((lvl n n).map fun o=>(o,(1:Int)))).length<=cap:=by unfold tP;rw[aKg,aKg];unfold cap;lia
 have fm:=EZ h6 hl (m:=(lvl n n).map fun o=>(o,(1:Int))) (fun x hx=>by
  obtain⟨o,ho,rfl⟩:=aKw.mp hx;exact⟨KM h6 ho,rfl⟩)
 have fe:=QW h6 hl;have fm:cS [.lst (tI t),.lst (tP tpM ((lvl n n).map fun o=>(o,(1:Int))))]=some (.lst (tI (qU n t))):=fm;have eq:=CQ (qU n t) (qU n t);rw[decide_eq_true rfl] at eq;generalize qU n t=mr at *;generalize tP tpM ((lvl n n).map fun o=>(o,(1:Int)))=mm at *;generalize (lvl n n).map tO=ll at *;unfold EF;rw[rSeq_at];simp only[rSet_at,fVar_at,fComp_at,fL_at,fCall_at,aCons_at,aNil_at,List.set,zz0,zz1,jn,zz2,aLs,zz3,fa,iL,bJ,aKo,aKq,e,hc,if_true];simp only[rRet_at,f2_at,fVar_at,fCall_at,aCons_at,aNil_at,zz0,zz1,jn,zz2,zz3,fm,fe,eq]
theorem QR (ns : List Int) (h : ns.length <= 63) : qH [.lst (ns.map T.int)] = some (.bl true) := by
 show qH [.lst (tI ns)] = _;obtain ⟨n0, h1, h60, es⟩ := QI ns;obtain ⟨n, hn1, h6, mn⟩ : ∃ n : Nat, 1 <= n /\ n <= 6 /\ sY [.int 4, .int (n0 : Int)] = some (.int (n : Int)) := by
  rcases Nat.lt_or_ge n0 4 with z | z
  ·exact ⟨n0, h1, h60, by show some (T.int (if (n0 : Int) < 4 then (n0 : Int) else 4)) = _; rw [if_pos (by lia)]⟩
  ·exact ⟨4, by decide, by decide, by show some (T.int (if (n0 : Int) < 4 then (n0 : Int) else 4)) = _; rw [if_neg (by lia)]; rfl⟩
 obtain ⟨t, et, F⟩ := PY ns h hn1 h6;have h64 := cZ h6;have hl := F.len;have f1c : cQ [.lst (tI ns), .int 1] = some (.int (fE ns 1)) := ER ns 1;generalize fE ns 1 = c1 at *;have d15 : bV (.int c1) (.int 5) = some (.int (c1 / 5)) := gB (by decide) (by decide);have m152 : bE (.int (c1 / 5)) (.int 2) = some (.int (c1 / 5 % 2)) := cY (by decide);have m12 : bE (.int c1) (.int 2) = some (.int (c1 % 2)) := cY (by decide);have pw : dX (.int 10) (.int 40) = some (.int (10 ^ 40)) := rA 10 40 (by decide +kernel)
 -- the mix
 have sl : cC (tI ns) (some 1) (some 13) none = tI (cC ns (some 1) (some 13) none) := ND _ _ _ _;have sll : (cC ns (some 1) (some 13) none).length <= ns.length := by rw [NC, aKl, List.length_drop]; lia
 generalize cC ns (some 1) (some 13) none = cs at *;have cat : jD (.lst (tI cs)) (.lst (tI [3])) = some (.lst (tI (cs ++ [3]))) := by
  rw [CP (by rw [tI_length, tI_length]; show cs.length + 1 <= cap; unfold cap; lia), <- NO]
 have lcs : (cs ++ [3]).length = cs.length + 1 := by rw [aKd]; rfl
 obtain ⟨c, hc0, hc, ec⟩ : ∃ c : Int, 0 < c /\ c <= 10 ^ 40 /\ oIx (.lst [.int 3, .int (10 ^ 40)]) (.int (c1 / 5 % 2)) = some (.int c) := by
  rcases (show c1 / 5 % 2 = 0 \/ c1 / 5 % 2 = 1 by lia) with z | z <;> rw [z]
  ·exact ⟨3, by decide, by decide, rfl⟩
  ·exact ⟨10 ^ 40, by decide, Int.le_refl _, rfl⟩
 obtain ⟨m0, em0, hm0, hml0⟩ := PQ h6 hc0 hc (cs ++ [3]) (by lia);have hpos0 : 0 < m0.length := by lia
 obtain ⟨x0, hx0⟩ : ∃ x0, m0[0]? = some x0 := ⟨m0[0], aJ1 hpos0⟩;have hx0m : x0 ∈ m0 := aKy hx0;have a00 : atI (tP tpM m0) 0 = some (.tup (tpM x0)) := by
  have : atI (tP tpM m0) ((0 : Nat) : Int) = some (.tup (tpM x0)) := FS (by unfold tP; rw [aKa, hx0]; rfl);exact this
 have e1 : bR [0, 1] aR yY [none, none, some (.lst (tP tpM m0))] (tP tpM m0) = some (tP tpM (m0.map fun x => (x0.1, x.2))) := by
  rw [wQ (fun x => T.tup [.lst (tI (tN' x0.1)), .int x.2]) m0 fun x hx => ?_]
  ·unfold tP
   rw [aKp]; rfl
  ·refine aGb (tN' x0.1) x.2 _ ?_ rfl
   have b : oIx (.tup (tpM x0)) (.int 0) = some (.lst (tI (tN' x0.1))) := rfl;simp only [f2_at, fC_at, fVar_at, List.set, zz0, zz1, jn, zz2, oIx_lst, a00, b]
 have hc0' : (tP tpM (m0.map fun x => (x0.1, x.2))).length <= cap := by rw [CJ, aKg]; unfold cap; lia
 obtain ⟨m, hm, hmne, hml, st3⟩ : ∃ m : List Mx, OkD c n m /\ m ≠ [] /\ m.length <= 64 /\ rIf (fB (f2 (f2 (aG (aC (aA 0) (aC (fC (.int 1)) aE)) cQ) (fC (.int 2)) bE) (fC (.int 1)) oEq)) (aQ 3 (eB [0, 1] (fL (aA 3)) [none, none, some 3] aR yY)) bW
   [some (.lst (tI ns)), some (.int (n : Int)), some (.lst (tI t)), some (.lst (tP tpM m0)), none, none, none, none, none] = some (.nx [some (.lst (tI ns)), some (.int (n : Int)), some (.lst (tI t)), some (.lst (tP tpM m)), none, none, none, none, none]) := by
  simp only [rIf_at, rSet_at, rNext_at, fB_at, f2_at, fVar_at, fC_at, fL_at, fCompT_at, fCall_at, aCons_at, aNil_at, List.set, zz0, zz1, jn, zz2, zz3, f1c, m12, oEq_int, isB_bl, xG, bJ, aKo, aKq, aLs, e1, hc0', if_true];cases (c1 % 2 == 1) with
  | false => exact ⟨m0, hm0, fun z => by rw [z] at hpos0; exact absurd hpos0 (by decide), by lia, rfl⟩
  | true =>
   refine ⟨m0.map fun x => (x0.1, x.2), fun y hy => ?_, fun z => ?_, by rw [aKg]; lia, rfl⟩
   ·obtain ⟨x, hx, rfl⟩ := aKw.mp hy
    exact ⟨(hm0 x0 hx0m).1, (hm0 x hx).2⟩
   ·have : (m0.map fun x => (x0.1, x.2)).length = 0 := by rw [z]; rfl
    rw [aKg] at this;lia
 have hM : ∀ x ∈ m, x.1.Perm (List.range n) /\ 1 <= x.2 := fun x hx => ⟨(hm x hx).1, (hm x hx).2.1⟩;have sd := EE hm;have hmp : 0 < m.length := by
  cases m with
  | nil => exact absurd rfl hmne
  | cons _ _ => simp
 have B := KR F hM;have nn := rR fun x hx => (hM x hx).2;have sm1 : smM m <= 10 ^ 42 := by
  have a1 := aJq (show (m.length : Int) <= 64 by lia) (aJn hc0);have a2 := aJr hc (show (0 : Int) <= 64 by decide);have a3 : (10 ^ 40 : Int) * 64 <= 10 ^ 42 := by decide
  lia
 have OM : OkM n m := fun x hx => ⟨(hM x hx).1, by
  have h1 := (hM x hx).2;have h2 := nn.2 x hx;have e : (10 ^ 42 : Int) = ((10 ^ 42 : Nat) : Int) := by decide
  have : x.2.natAbs <= 10 ^ 42 := by lia
  exact aLb this (by decide +kernel)⟩
 have fr : cS [.lst (tI t), .lst (tP tpM m)] = some (.lst (tI (rwM n t m))) := FB h6 hl F.bd OM;have fs : fU [.lst (tP tpM m)] = some (.int (smM m)) := FF (by lia);have two := fun s hsl hrow => aGg h6 F hm hmne hml hc (s := s) hsl hrow;have rl := B.len;have spos : 0 < smM m := by lia
 generalize rwM n t m = row at *;generalize smM m = sm at *;have sm2 : sm < 2 ^ 200 := by
  have : (10 ^ 42 : Int) < 2 ^ 200 := by decide
  lia
 have hml3 : ∀ g, bG (.int sm) (.int (t.getD g 0)) = some (.int (sm * t.getD g 0)) := fun g => by
  have h1 := F.bd.get g;refine jE (kB 200 700 ?_ (aLb h1 (by decide +kernel)) (by decide) (by decide));have e : (2 ^ 200 : Int) = ((2 ^ 200 : Nat) : Int) := by decide
  lia
 have rn := gP t.length (by lia);obtain ⟨ρ', hlp, x6, rfl⟩ := mQ (j := 6) (n := t.length) (body := yX) (fun _ ρ => ∃ x6, ρ = [some (.lst (tI ns)), some (.int (n : Int)), some (.lst (tI t)), some (.lst (tP tpM m)), some (.lst (tI row)), some (.int sm), x6, none, none]) (fun g hg ρ hρ => by
  obtain ⟨x6, rfl⟩ := hρ;have fg := EU (row := row) (by lia) g;have a1 : atI (tI t) (g : Int) = some (.int (t.getD g 0)) := eA hg;have hd : decide (sm * t.getD g 0 < gv row g) = false := decide_eq_false (Int.not_lt.mpr (B.und g (by lia)));refine ⟨_, ?_, some (.int (g : Int)), rfl⟩;unfold yX;simp only [rIf_at, rNext_at, fB_at, f2_at, fVar_at, fCall_at, aCons_at, aNil_at, List.set, zz0, zz1, jn, zz2, fg, oIx_lst, a1, hml3 g, oGt_int, hd, isB_bl, aJf, if_false]) [some (.lst (tI ns)), some (.int (n : Int)), some (.lst (tI t)), some (.lst (tP tpM m)), some (.lst (tI row)), some (.int sm), none, none, none] ⟨none, rfl⟩
 have fgN := EU (row := row) (by lia) (2 ^ n - 1);have eN : ((t.length : Nat) : Int) - 1 = ((2 ^ n - 1 : Nat) : Int) := by
  have : 0 < 2 ^ n := aLl (by decide);rw [hl]; lia
 have aL : atI (tI t) (-1) = some (.int (t.getD (2 ^ n - 1) 0)) := by
  rw [FR (by rw [hl]; exact aLl (by decide)), hl]
 have nN : oNe (.int (gv row (2 ^ n - 1))) (.int (sm * t.getD (2 ^ n - 1) 0)) = some (.bl false) := by
  rw [B.all];simp
 have e2 : bL aR yZ [none, some (.int sm)] (tI row) = some (G.tB (row.map fun x => x % sm == 0)) := by
  rw [qL (fun u => match u with | .int x => .bl (x % sm == 0) | u => u) (tI row) fun u hu => ?_]
  ·unfold tI G.tB
   rw [aKp, aKp]; rfl
  ·obtain ⟨x, _, rfl⟩ := aKw.mp hu
   have mo : bE (.int x) (.int sm) = some (.int (x % sm)) := cY spos;unfold yZ;simp only [f2_at, fVar_at, fC_at, List.set, zz0, zz1, jn, zz2, mo, oEq_int]
 have hce : (G.tB (row.map fun x => x % sm == 0)).length <= cap := by unfold G.tB; rw [aKg, aKg, rl]; unfold cap; lia
 have oa := CO (row.map fun x => x % sm == 0);have e3 : bL aR zA [none, some (.int sm)] (tI row) = some (tI (row.map fun x => x / sm)) := by
  rw [qL (fun u => match u with | .int x => .int (x / sm) | u => u) (tI row) fun u hu => ?_]
  ·unfold tI
   rw [aKp, aKp]; rfl
  ·obtain ⟨x, _, rfl⟩ := aKw.mp hu
   have dv : bV (.int x) (.int sm) = some (.int (x / sm)) := gB spos sm2;unfold zA;simp only [f2_at, fVar_at, List.set, zz0, zz1, jn, zz2, dv]
 have hsl : (row.map fun x => x / sm).length = n := by rw [aKg]; exact rl
 have hcr : (row.map fun x => x / sm).length <= cap := by rw [hsl]; unfold cap; lia
 have hrw : (row.map fun x => x % sm == 0).all id = true -> ∀ k, k < n -> sm * (row.map fun x => x / sm).getD k 0 = row.getD k 0 := fun ha k hk => by
  have hkr : k < row.length := by rw [rl]; exact hk
  rw [aJ0, aJ0, aKa, aJ1 hkr];have h2 := aJ5.mp ha (row[k] % sm == 0) (aKw.mpr ⟨row[k], List.getElem_mem hkr, rfl⟩);have h2 : row[k] % sm = 0 := by simpa using h2
  show sm * (row[k] / sm) = row[k];exact Int.mul_ediv_cancel' (Int.dvd_of_emod_eq_zero h2)
 have fe := fun r7 => PU h6 hl (some (.lst (tI ns))) (some (.lst (tI t))) (some (.lst (tP tpM m))) (some (.lst (tI row))) (some (.int sm)) x6 r7 rfl;have c2 : (2 : Nat) <= cap := by decide
 rw [QQ];unfold vE;rw [<- aG3, rSeq_at];simp only [rSet_at, fC_at, fVar_at, fCall_at, aCons_at, aNil_at, List.set, zz0, jn, zz2, zz3, es, mn];rw [rSeq_at];simp only [rSet_at, fVar_at, fCall_at, aCons_at, aNil_at, List.set, zz0, zz1, jn, zz2, zz3, et];rw [rSeq_at];simp only [rSet_at, f2_at, fC_at, fVar_at, fLst_at, fSlice_at, oSome_at, oNone_at, fCall_at, aCons_at, aNil_at, List.set, zz0, zz1, jn, zz2, zz3, f1c, d15, m152, pw, isI_int, reduceCtorEq, if_false, sl, cat, aKe, aKh, aLp, Nat.reduceAdd, c2, if_true, ec, em0];rw [rSeq_at, st3];simp only [zz2];rw [rSeq_at];simp only [rSet_at, fVar_at, fCall_at, aCons_at, aNil_at, List.set, zz0, zz1, jn, zz2, zz3, fr];rw [rSeq_at];simp only [rSet_at, f1_at, fVar_at, fCall_at, aCons_at, aNil_at, List.set, zz0, zz1, jn, zz2, zz3, fs, gScal_int];rw [rSeq_at];simp only [rFor_at, fRange_at, fVar_at, fCall_at, aCons_at, aNil_at, zz0, zz1, jn, zz2, oLen_lst, tI_length, rn, hlp];rw [rSeq_at];simp only [rIf_at, rNext_at, fB_at, f1_at, f2_at, fC_at, fVar_at, fCall_at, aCons_at, aNil_at, zz0, zz1, jn, zz2, oLen_lst, tI_length, oSub_int, eN, fgN, LB, oIx_lst, aL, hml3, nN, isB_bl, aJf, if_false];rw [rSeq_at];cases ha : (row.map fun x => x % sm == 0).all id with
 | false =>
  rw [ha] at oa;simp only [rIf_at, rNext_at, fT_at, fFL_at, fComp_at, fVar_at, fCall_at, aCons_at, aNil_at, zz0, zz1, jn, zz2, dD, bJ, aKo, aKq, aLs, e2, hce, if_true, oa, truT_bl, aJf, if_false, fe none, outT_rt]
 | true =>
  rw [ha] at oa;obtain ⟨fb, f1, M, fM, f2⟩ := two (row.map fun x => x / sm) hsl (hrw ha);generalize row.map (fun x => x / sm) = s at *;simp only [rIf_at, rNext_at, rSeq_at, rSet_at, fT_at, fB_at, fC_at, fFL_at, fComp_at, f2_at, pOr_at, fVar_at, fCall_at, aCons_at, aNil_at, List.set, zz0, zz1, jn, zz2, zz3, dD, bJ, aKo, aKq, aLs, e2, hce, if_true, oa, truT_bl, e3, tI_length, hcr, fb, f1, fM, f2, oIsNotB_bl, beq_self_eq_true, Bool.not_true, isB_bl, aJf, if_false];rw [fe (some (.lst (tI s)))]
  rfl
@[elab_as_elim] theorem ln1 {P:List Value->Prop}:∀ (us:List Value) (_:us.length=1) (f:∀ a0,P [a0]),P us
 | [a0],_,f=>f a0
@[elab_as_elim] theorem ln2 {P:List Value->Prop}:∀ (us:List Value) (_:us.length=2) (f:∀ a0 a1,P [a0,a1]),P us
 | [a0,a1],_,f=>f a0 a1
@[elab_as_elim] theorem ln3 {P:List Value->Prop}:∀ (us:List Value) (_:us.length=3) (f:∀ a0 a1 a2,P [a0,a1,a2]),P us
 | [a0,a1,a2],_,f=>f a0 a1 a2
@[elab_as_elim] theorem ln4 {P:List Value->Prop}:∀ (us:List Value) (_:us.length=4) (f:∀ a0 a1 a2 a3,P [a0,a1,a2,a3]),P us
 | [a0,a1,a2,a3],_,f=>f a0 a1 a2 a3
theorem all_mk {l:PySem.W.OpenLaw}{w:World}{K:PySem.W.Frag}{h:Heap}{mg:Str->Option Value}{fa f0 f1 f2 f3 f4 f5 f6 f7 f8 f9 f10 f11 f12 f13 f14 f15 f16 f17 f18 f19 f20 f21 f22 f23 f24 f25 f26 f27 f28 f29 f30 f31 f32 f33 f34 f35 f36 f37 f38 f39 f40 f41 f42 f43 f44 Pt cq bm:Addr}(X:K.In h) (G0:h.Ns mainGlobals mg) (hfa:mg "law" = some (.ref fa))
  {od0 an0:Option Addr} {sl0:Array (Option Value)} {oc0 kV0 dc0 pm0 cd0 ct0:Value} (a0:FA K "_law_cell" f0) (l0:FL K f0 "_law_cell" nJ .none oc0 od0 kV0 dc0 pm0 an0 cd0 ct0 sl0) (cc0:FC K cd0 "_law_cell") (k0:FK K f0)
  {od1 an1:Option Addr} {sl1:Array (Option Value)} {oc1 kV1 dc1 pm1 cd1 ct1:Value} (a1:FA K "_law_hands" f1) (l1:FL K f1 "_law_hands" nQ .none oc1 od1 kV1 dc1 pm1 an1 cd1 ct1 sl1) (cc1:FC K cd1 "_law_hands") (k1:FK K f1)
  {od2 an2:Option Addr} {sl2:Array (Option Value)} {oc2 kV2 dc2 pm2 cd2 ct2:Value} (a2:FA K "_law_slots" f2) (l2:FL K f2 "_law_slots" nU .none oc2 od2 kV2 dc2 pm2 an2 cd2 ct2 sl2) (cc2:FC K cd2 "_law_slots") (k2:FK K f2)
  {od3 an3:Option Addr} {sl3:Array (Option Value)} {oc3 kV3 dc3 pm3 cd3 ct3:Value} (a3:FA K "_law_many" f3) (l3:FL K f3 "_law_many" nR .none oc3 od3 kV3 dc3 pm3 an3 cd3 ct3 sl3) (cc3:FC K cd3 "_law_many") (k3:FK K f3)
  {od4 an4:Option Addr} {sl4:Array (Option Value)} {oc4 kV4 dc4 pm4 cd4 ct4:Value} (a4:FA K "_law_tied" f4) (l4:FL K f4 "_law_tied" nV .none oc4 od4 kV4 dc4 pm4 an4 cd4 ct4 sl4) (cc4:FC K cd4 "_law_tied") (k4:FK K f4)
  {od5 an5:Option Addr} {sl5:Array (Option Value)} {oc5 kV5 dc5 pm5 cd5 ct5:Value} (a5:FA K "_law_noisy" f5) (l5:FL K f5 "_law_noisy" nS .none oc5 od5 kV5 dc5 pm5 an5 cd5 ct5 sl5) (cc5:FC K cd5 "_law_noisy") (k5:FK K f5)
  {od6 an6:Option Addr} {sl6:Array (Option Value)} {oc6 kV6 dc6 pm6 cd6 ct6:Value} (a6:FA K "_law_falling" f6) (l6:FL K f6 "_law_falling" nO .none oc6 od6 kV6 dc6 pm6 an6 cd6 ct6 sl6) (cc6:FC K cd6 "_law_falling") (k6:FK K f6)
  {od7 an7:Option Addr} {sl7:Array (Option Value)} {oc7 kV7 dc7 pm7 cd7 ct7:Value} (a7:FA K "_law_drawn" f7) (l7:FL K f7 "_law_drawn" nK .none oc7 od7 kV7 dc7 pm7 an7 cd7 ct7 sl7) (cc7:FC K cd7 "_law_drawn") (k7:FK K f7)
  {od8 an8:Option Addr} {sl8:Array (Option Value)} {oc8 kV8 dc8 pm8 cd8 ct8:Value} (a8:FA K "_law_drawn_mix" f8) (l8:FL K f8 "_law_drawn_mix" nL .none oc8 od8 kV8 dc8 pm8 an8 cd8 ct8 sl8) (cc8:FC K cd8 "_law_drawn_mix") (k8:FK K f8)
  {od9 an9:Option Addr} {sl9:Array (Option Value)} {oc9 kV9 dc9 pm9 cd9 ct9:Value} (a9:FA K "hand_count" f9) (l9:FL K f9 "hand_count" pH .none oc9 od9 kV9 dc9 pm9 an9 cd9 ct9 sl9) (cc9:FC K cd9 "hand_count") (k9:FK K f9)
  {od10 an10:Option Addr} {sl10:Array (Option Value)} {oc10 kV10 dc10 pm10 cd10 ct10:Value} (a10:FA K "by_order" f10) (l10:FL K f10 "by_order" nZ .none oc10 od10 kV10 dc10 pm10 an10 cd10 ct10 sl10) (cc10:FC K cd10 "by_order") (k10:FK K f10)
  {od11 an11:Option Addr} {sl11:Array (Option Value)} {oc11 kV11 dc11 pm11 cd11 ct11:Value} (a11:FA K "mix_row" f11) (l11:FL K f11 "mix_row" pT .none oc11 od11 kV11 dc11 pm11 an11 cd11 ct11 sl11) (cc11:FC K cd11 "mix_row") (k11:FK K f11)
  {od12 an12:Option Addr} {sl12:Array (Option Value)} {oc12 kV12 dc12 pm12 cd12 ct12:Value} (a12:FA K "mix_size" f12) (l12:FL K f12 "mix_size" pU .none oc12 od12 kV12 dc12 pm12 an12 cd12 ct12 sl12) (cc12:FC K cd12 "mix_size") (k12:FK K f12)
  {od13 an13:Option Addr} {sl13:Array (Option Value)} {oc13 kV13 dc13 pm13 cd13 ct13:Value} (a13:FA K "_law_gives" f13) (l13:FL K f13 "_law_gives" nP .none oc13 od13 kV13 dc13 pm13 an13 cd13 ct13 sl13) (cc13:FC K cd13 "_law_gives") (k13:FK K f13)
  {od14 an14:Option Addr} {sl14:Array (Option Value)} {oc14 kV14 dc14 pm14 cd14 ct14:Value} (a14:FA K "everybody" f14) (l14:FL K f14 "everybody" pC .none oc14 od14 kV14 dc14 pm14 an14 cd14 ct14 sl14) (cc14:FC K cd14 "everybody") (k14:FK K f14)
  {od15 an15:Option Addr} {sl15:Array (Option Value)} {oc15 kV15 dc15 pm15 cd15 ct15:Value} (a15:FA K "hands_in" f15) (l15:FL K f15 "hands_in" pI .none oc15 od15 kV15 dc15 pm15 an15 cd15 ct15 sl15) (cc15:FC K cd15 "hands_in") (k15:FK K f15)
  {od16 an16:Option Addr} {sl16:Array (Option Value)} {oc16 kV16 dc16 pm16 cd16 ct16:Value} (a16:FA K "row_gives" f16) (l16:FL K f16 "row_gives" pZ .none oc16 od16 kV16 dc16 pm16 an16 cd16 ct16 sl16) (cc16:FC K cd16 "row_gives") (k16:FK K f16)
  {od17 an17:Option Addr} {sl17:Array (Option Value)} {oc17 kV17 dc17 pm17 cd17 ct17:Value} (a17:FA K "less_row" f17) (l17:FL K f17 "less_row" pP .none oc17 od17 kV17 dc17 pm17 an17 cd17 ct17 sl17) (cc17:FC K cd17 "less_row") (k17:FK K f17)
  {od18 an18:Option Addr} {sl18:Array (Option Value)} {oc18 kV18 dc18 pm18 cd18 ct18:Value} (a18:FA K "over" f18) (l18:FL K f18 "over" pY .none oc18 od18 kV18 dc18 pm18 an18 cd18 ct18 sl18) (cc18:FC K cd18 "over") (k18:FK K f18)
  {od19 an19:Option Addr} {sl19:Array (Option Value)} {oc19 kV19 dc19 pm19 cd19 ct19:Value} (a19:FA K "is_under" f19) (l19:FL K f19 "is_under" pO .none oc19 od19 kV19 dc19 pm19 an19 cd19 ct19 sl19) (cc19:FC K cd19 "is_under") (k19:FK K f19)
  {od20 an20:Option Addr} {sl20:Array (Option Value)} {oc20 kV20 dc20 pm20 cd20 ct20:Value} (a20:FA K "is_base" f20) (l20:FL K f20 "is_base" pJ .none oc20 od20 kV20 dc20 pm20 an20 cd20 ct20 sl20) (cc20:FC K cd20 "is_base") (k20:FK K f20)
  {od21 an21:Option Addr} {sl21:Array (Option Value)} {oc21 kV21 dc21 pm21 cd21 ct21:Value} (a21:FA K "is_number" f21) (l21:FL K f21 "is_number" pL .none oc21 od21 kV21 dc21 pm21 an21 cd21 ct21 sl21) (cc21:FC K cd21 "is_number") (k21:FK K f21)
  {od22 an22:Option Addr} {sl22:Array (Option Value)} {oc22 kV22 dc22 pm22 cd22 ct22:Value} (a22:FA K "is_row" f22) (l22:FL K f22 "is_row" pN .none oc22 od22 kV22 dc22 pm22 an22 cd22 ct22 sl22) (cc22:FC K cd22 "is_row") (k22:FK K f22)
  {od23 an23:Option Addr} {sl23:Array (Option Value)} {oc23 kV23 dc23 pm23 cd23 ct23:Value} (a23:FA K "is_order" f23) (l23:FL K f23 "is_order" pM .none oc23 od23 kV23 dc23 pm23 an23 cd23 ct23 sl23) (cc23:FC K cd23 "is_order") (k23:FK K f23)
  {od24 an24:Option Addr} {sl24:Array (Option Value)} {oc24 kV24 dc24 pm24 cd24 ct24:Value} (a24:FA K "is_mix" f24) (l24:FL K f24 "is_mix" pK .none oc24 od24 kV24 dc24 pm24 an24 cd24 ct24 sl24) (cc24:FC K cd24 "is_mix") (k24:FK K f24)
  {od25 an25:Option Addr} {sl25:Array (Option Value)} {oc25 kV25 dc25 pm25 cd25 ct25:Value} (a25:FA K "two_break" f25) (l25:FL K f25 "two_break" qC .none oc25 od25 kV25 dc25 pm25 an25 cd25 ct25 sl25) (cc25:FC K cd25 "two_break") (k25:FK K f25)
  {od26 an26:Option Addr} {sl26:Array (Option Value)} {oc26 kV26 dc26 pm26 cd26 ct26:Value} (a26:FA K "break_beside" f26) (l26:FL K f26 "break_beside" nX .none oc26 od26 kV26 dc26 pm26 an26 cd26 ct26 sl26) (cc26:FC K cd26 "break_beside") (k26:FK K f26)
  {od27 an27:Option Addr} {sl27:Array (Option Value)} {oc27 kV27 dc27 pm27 cd27 ct27:Value} (a27:FA K "break_of" f27) (l27:FL K f27 "break_of" nY .none oc27 od27 kV27 dc27 pm27 an27 cd27 ct27 sl27) (cc27:FC K cd27 "break_of") (k27:FK K f27)
  {od28 an28:Option Addr} {sl28:Array (Option Value)} {oc28 kV28 dc28 pm28 cd28 ct28:Value} (a28:FA K "falls" f28) (l28:FL K f28 "falls" pD .none oc28 od28 kV28 dc28 pm28 an28 cd28 ct28 sl28) (cc28:FC K cd28 "falls") (k28:FK K f28)
  {od29 an29:Option Addr} {sl29:Array (Option Value)} {oc29 kV29 dc29 pm29 cd29 ct29:Value} (a29:FA K "must_fall" f29) (l29:FL K f29 "must_fall" pX .none oc29 od29 kV29 dc29 pm29 an29 cd29 ct29 sl29) (cc29:FC K cd29 "must_fall") (k29:FK K f29)
  {od30 an30:Option Addr} {sl30:Array (Option Value)} {oc30 kV30 dc30 pm30 cd30 ct30:Value} (a30:FA K "scaled" f30) (l30:FL K f30 "scaled" qA .none oc30 od30 kV30 dc30 pm30 an30 cd30 ct30 sl30) (cc30:FC K cd30 "scaled") (k30:FK K f30)
  {od31 an31:Option Addr} {sl31:Array (Option Value)} {oc31 kV31 dc31 pm31 cd31 ct31:Value} (a31:FA K "full_groups" f31) (l31:FL K f31 "full_groups" pG .none oc31 od31 kV31 dc31 pm31 an31 cd31 ct31 sl31) (cc31:FC K cd31 "full_groups") (k31:FK K f31)
  {od32 an32:Option Addr} {sl32:Array (Option Value)} {oc32 kV32 dc32 pm32 cd32 ct32:Value} (a32:FA K "within" f32) (l32:FL K f32 "within" qD .none oc32 od32 kV32 dc32 pm32 an32 cd32 ct32 sl32) (cc32:FC K cd32 "within") (k32:FK K f32)
  {od33 an33:Option Addr} {sl33:Array (Option Value)} {oc33 kV33 dc33 pm33 cd33 ct33:Value} (a33:FA K "shared_with" f33) (l33:FL K f33 "shared_with" qB .none oc33 od33 kV33 dc33 pm33 an33 cd33 ct33 sl33) (cc33:FC K cd33 "shared_with") (k33:FK K f33)
  {od34 an34:Option Addr} {sl34:Array (Option Value)} {oc34 kV34 dc34 pm34 cd34 ct34:Value} (a34:FA K "many_in" f34) (l34:FL K f34 "many_in" pR .none oc34 od34 kV34 dc34 pm34 an34 cd34 ct34 sl34) (cc34:FC K cd34 "many_in") (k34:FK K f34)
  {od35 an35:Option Addr} {sl35:Array (Option Value)} {oc35 kV35 dc35 pm35 ct35:Value} (a35:FA K "core_order" f35) (l35:FL K f35 "core_order" pB .none oc35 od35 kV35 dc35 pm35 an35 (.ref cq) ct35 sl35) (cc35:FC K (.ref cq) "core_order") (k35:FK K f35)
  {od36 an36:Option Addr} {sl36:Array (Option Value)} {oc36 kV36 dc36 pm36 cd36 ct36:Value} (a36:FA K "fraction_less" f36) (l36:FL K f36 "fraction_less" pF .none oc36 od36 kV36 dc36 pm36 an36 cd36 ct36 sl36) (cc36:FC K cd36 "fraction_less") (k36:FK K f36)
  {od37 an37:Option Addr} {sl37:Array (Option Value)} {oc37 kV37 dc37 pm37 cd37 ct37:Value} (a37:FA K "common_divisor" f37) (l37:FL K f37 "common_divisor" pA .none oc37 od37 kV37 dc37 pm37 an37 cd37 ct37 sl37) (cc37:FC K cd37 "common_divisor") (k37:FK K f37)
  {od38 an38:Option Addr} {sl38:Array (Option Value)} {oc38 kV38 dc38 pm38 cd38 ct38:Value} (a38:FA K "fraction" f38) (l38:FL K f38 "fraction" pE .none oc38 od38 kV38 dc38 pm38 an38 cd38 ct38 sl38) (cc38:FC K cd38 "fraction") (k38:FK K f38)
  {od39 an39:Option Addr} {sl39:Array (Option Value)} {oc39 kV39 dc39 pm39 cd39 ct39:Value} (a39:FA K "most_of" f39) (l39:FL K f39 "most_of" pW .none oc39 od39 kV39 dc39 pm39 an39 cd39 ct39 sl39) (cc39:FC K cd39 "most_of") (k39:FK K f39)
  {od40 an40:Option Addr} {sl40:Array (Option Value)} {oc40 kV40 dc40 pm40 cd40 ct40:Value} (a40:FA K "mixed" f40) (l40:FL K f40 "mixed" pV .none oc40 od40 kV40 dc40 pm40 an40 cd40 ct40 sl40) (cc40:FC K cd40 "mixed") (k40:FK K f40)
  {od41 an41:Option Addr} {sl41:Array (Option Value)} {oc41 kV41 dc41 pm41 cd41 ct41:Value} (a41:FA K "longer_orders" f41) (l41:FL K f41 "longer_orders" pQ .none oc41 od41 kV41 dc41 pm41 an41 cd41 ct41 sl41) (cc41:FC K cd41 "longer_orders") (k41:FK K f41)
  {od42 an42:Option Addr} {sl42:Array (Option Value)} {oc42 kV42 dc42 pm42 cd42 ct42:Value} (a42:FA K "all_orders" f42) (l42:FL K f42 "all_orders" nW .none oc42 od42 kV42 dc42 pm42 an42 cd42 ct42 sl42) (cc42:FC K cd42 "all_orders") (k42:FK K f42)
  {od43 an43:Option Addr} {sl43:Array (Option Value)} {oc43 kV43 dc43 pm43 cd43 ct43:Value} (a43:FA K "mean_row" f43) (l43:FL K f43 "mean_row" pS .none oc43 od43 kV43 dc43 pm43 an43 cd43 ct43 sl43) (cc43:FC K cd43 "mean_row") (k43:FK K f43)
  {od44 an44:Option Addr} {sl44:Array (Option Value)} {oc44 kV44 dc44 pm44 cd44 ct44:Value} (a44:FA K "law" f44) (l44:FL K f44 "law" gU .none oc44 od44 kV44 dc44 pm44 an44 cd44 ct44 sl44) (cc44:FC K cd44 "law") (k44:FK K f44)
  {smq:Array (Option Value)} (q_code:PySem.W.codeHdIn K cq Pt=true) (q_blt:PySem.W.nsIn K mainGlobals "__builtins__" = some (some (.ref bm))) (q_mod:K.lookup bm=some ⟨.type "module",some builtinsNs,.plain,smq⟩) (n1:bm≠builtinsNs) (n2:bm≠mainGlobals)
  (aIv:PySem.W.nsIn K mainGlobals "len" = some none)
  (aIp:PySem.W.nsIn K mainGlobals "range" = some none)
  (aIw:PySem.W.nsIn K mainGlobals "min" = some none)
  (aIy:PySem.W.nsIn K mainGlobals "zip" = some none)
  (aIx:PySem.W.nsIn K mainGlobals "sum" = some none)
  (aIm:PySem.W.nsIn K mainGlobals "enumerate" = some none)
  (aIj:PySem.W.nsIn K mainGlobals "isinstance" = some none)
  (aIu:PySem.W.nsIn K mainGlobals "int" = some none)
  (aIq:PySem.W.nsIn K mainGlobals "bool" = some none)
  (aIr:PySem.W.nsIn K mainGlobals "list" = some none)
  (aIt:PySem.W.nsIn K mainGlobals "all" = some none)
  (aIo:PySem.W.nsIn K mainGlobals "sorted" = some none)
  (aIs:PySem.W.nsIn K mainGlobals "abs" = some none)
  : ∃ fd:FuncData,(∀ (s:Shared) (v:Value),BindsTo s fd ⟨[v],[]⟩ [("script",v)])/\∀ base:Heap,K.In base->base.Ns mainGlobals mg->FnOk l.prog w K mg base CX0 8 fa fd ["script"] (spP Pt eQ (spT K qH false 3)):=by
 have e:=hfa.symm.trans (aLy X G0 a44);cases e;have aH2:=aLx X G0 aIv;have aH1:=aLx X G0 aIp;have aHs:=aLx X G0 aIw;have aHt:=aLx X G0 aIy;have aIb:=aLx X G0 aIx;have aH5:=aLx X G0 aIm;have aH9:=aLx X G0 aIj;have aIn:=aLx X G0 aIu;have aIk:=aLx X G0 aIq;have aI4:=aLx X G0 aIr;have aHr:=aLx X G0 aIt;have aHm:=aLx X G0 aIo;have aIl:=aLx X G0 aIs;have U0:=bD (st:=nJ) l0 cc0 k0;have b0:=U0.binds (ps:=["script","k"]) fun _ _ _ _ _ _ us hl=>ln2 us hl fun _ _=>rfl;have U1:=bD (st:=nQ) l1 cc1 k1;have b1:=U1.binds (ps:=["script"]) fun _ _ _ _ _ _ us hl=>ln1 us hl fun _=>rfl;have U2:=bD (st:=nU) l2 cc2 k2;have b2:=U2.binds (ps:=["script","hands"]) fun _ _ _ _ _ _ us hl=>ln2 us hl fun _ _=>rfl;have U3:=bD (st:=nR) l3 cc3 k3;have b3:=U3.binds (ps:=["group"]) fun _ _ _ _ _ _ us hl=>ln1 us hl fun _=>rfl;have U4:=bD (st:=nV) l4 cc4 k4;have b4:=U4.binds (ps:=["slots","hands","most"]) fun _ _ _ _ _ _ us hl=>ln3 us hl fun _ _ _=>rfl;have U5:=bD (st:=nS) l5 cc5 k5;have b5:=U5.binds (ps:=["slots","hands","most"]) fun _ _ _ _ _ _ us hl=>ln3 us hl fun _ _ _=>rfl;have U6:=bD (st:=nO) l6 cc6 k6;have b6:=U6.binds (ps:=["script","hands"]) fun _ _ _ _ _ _ us hl=>ln2 us hl fun _ _=>rfl;have U7:=bD (st:=nK) l7 cc7 k7;have b7:=U7.binds (ps:=["cell","hands"]) fun _ _ _ _ _ _ us hl=>ln2 us hl fun _ _=>rfl;have U8:=bD (st:=nL) l8 cc8 k8;have b8:=U8.binds (ps:=["cells","hands","most"]) fun _ _ _ _ _ _ us hl=>ln3 us hl fun _ _ _=>rfl;have U9:=bD (st:=pH) l9 cc9 k9;have b9:=U9.binds (ps:=["table"]) fun _ _ _ _ _ _ us hl=>ln1 us hl fun _=>rfl;have U10:=bD (st:=nZ) l10 cc10 k10;have b10:=U10.binds (ps:=["table","order"]) fun _ _ _ _ _ _ us hl=>ln2 us hl fun _ _=>rfl;have U11:=bD (st:=pT) l11 cc11 k11;have b11:=U11.binds (ps:=["table","mix"]) fun _ _ _ _ _ _ us hl=>ln2 us hl fun _ _=>rfl;have U12:=bD (st:=pU) l12 cc12 k12;have b12:=U12.binds (ps:=["mix"]) fun _ _ _ _ _ _ us hl=>ln1 us hl fun _=>rfl;have U13:=bD (st:=nP) l13 cc13 k13;have b13:=U13.binds (ps:=["row","group"]) fun _ _ _ _ _ _ us hl=>ln2 us hl fun _ _=>rfl;have U14:=bD (st:=pC) l14 cc14 k14;have b14:=U14.binds (ps:=["table"]) fun _ _ _ _ _ _ us hl=>ln1 us hl fun _=>rfl;have U15:=bD (st:=pI) l15 cc15 k15;have b15:=U15.binds (ps:=["group"]) fun _ _ _ _ _ _ us hl=>ln1 us hl fun _=>rfl;have U16:=bD (st:=pZ) l16 cc16 k16;have b16:=U16.binds (ps:=["row","group"]) fun _ _ _ _ _ _ us hl=>ln2 us hl fun _ _=>rfl;have U17:=bD (st:=pP) l17 cc17 k17;have b17:=U17.binds (ps:=["table","row"]) fun _ _ _ _ _ _ us hl=>ln2 us hl fun _ _=>rfl;have U18:=bD (st:=pY) l18 cc18 k18;have b18:=U18.binds (ps:=["table","shares"]) fun _ _ _ _ _ _ us hl=>ln2 us hl fun _ _=>rfl;have U19:=bD (st:=pO) l19 cc19 k19;have b19:=U19.binds (ps:=["table","shares"]) fun _ _ _ _ _ _ us hl=>ln2 us hl fun _ _=>rfl;have U20:=bD (st:=pJ) l20 cc20 k20;have b20:=U20.binds (ps:=["table","shares"]) fun _ _ _ _ _ _ us hl=>ln2 us hl fun _ _=>rfl;have U21:=bD (st:=pL) l21 cc21 k21;have b21:=U21.binds (ps:=["value"]) fun _ _ _ _ _ _ us hl=>ln1 us hl fun _=>rfl;have U22:=bD (st:=pN) l22 cc22 k22;have b22:=U22.binds (ps:=["hands","value"]) fun _ _ _ _ _ _ us hl=>ln2 us hl fun _ _=>rfl;have U23:=bD (st:=pM) l23 cc23 k23;have b23:=U23.binds (ps:=["hands","value"]) fun _ _ _ _ _ _ us hl=>ln2 us hl fun _ _=>rfl;have U24:=bD (st:=pK) l24 cc24 k24;have b24:=U24.binds (ps:=["table","shares","mix"]) fun _ _ _ _ _ _ us hl=>ln3 us hl fun _ _ _=>rfl;have U25:=bD (st:=qC) l25 cc25 k25;have b25:=U25.binds (ps:=["table","one","other"]) fun _ _ _ _ _ _ us hl=>ln3 us hl fun _ _ _=>rfl;have U26:=bD (st:=nX) l26 cc26 k26;have b26:=U26.binds (ps:=["table","group"]) fun _ _ _ _ _ _ us hl=>ln2 us hl fun _ _=>rfl;have U27:=bD (st:=nY) l27 cc27 k27;have b27:=U27.binds (ps:=["table"]) fun _ _ _ _ _ _ us hl=>ln1 us hl fun _=>rfl;have U28:=bD (st:=pD) l28 cc28 k28;have b28:=U28.binds (ps:=["table"]) fun _ _ _ _ _ _ us hl=>ln1 us hl fun _=>rfl;have U29:=bD (st:=pX) l29 cc29 k29;have b29:=U29.binds (ps:=["table"]) fun _ _ _ _ _ _ us hl=>ln1 us hl fun _=>rfl;have U30:=bD (st:=qA) l30 cc30 k30;have b30:=U30.binds (ps:=["many","table"]) fun _ _ _ _ _ _ us hl=>ln2 us hl fun _ _=>rfl;have U31:=bD (st:=pG) l31 cc31 k31;have b31:=U31.binds (ps:=["table","shares"]) fun _ _ _ _ _ _ us hl=>ln2 us hl fun _ _=>rfl;have U32:=bD (st:=qD) l32 cc32 k32;have b32:=U32.binds (ps:=["one","other"]) fun _ _ _ _ _ _ us hl=>ln2 us hl fun _ _=>rfl;have U33:=bD (st:=qB) l33 cc33 k33;have b33:=U33.binds (ps:=["groups","hand"]) fun _ _ _ _ _ _ us hl=>ln2 us hl fun _ _=>rfl;have U34:=bD (st:=pR) l34 cc34 k34;have b34:=U34.binds (ps:=["group"]) fun _ _ _ _ _ _ us hl=>ln1 us hl fun _=>rfl;have U35:=WL (st:=pB) l35 cc35 k35;have LK:LamK K mg cq Pt bm:=⟨q_code,aLy X G0 q_blt,⟨_,q_mod⟩,n1,n2⟩;have b35:=U35.fn.binds (ps:=["table","shares"]) fun _ _ _ _ _ _ us hl=>ln2 us hl fun _ _=>rfl;have U36:=bD (st:=pF) l36 cc36 k36;have b36:=U36.binds (ps:=["one","other"]) fun _ _ _ _ _ _ us hl=>ln2 us hl fun _ _=>rfl;have U37:=bD (st:=pA) l37 cc37 k37;have b37:=U37.binds (ps:=["one","other"]) fun _ _ _ _ _ _ us hl=>ln2 us hl fun _ _=>rfl;have U38:=bD (st:=pE) l38 cc38 k38;have b38:=U38.binds (ps:=["top","bottom"]) fun _ _ _ _ _ _ us hl=>ln2 us hl fun _ _=>rfl;have U39:=bD (st:=pW) l39 cc39 k39;have b39:=U39.binds (ps:=["table","size","rest","shares"]) fun _ _ _ _ _ _ us hl=>ln4 us hl fun _ _ _ _=>rfl;have U40:=bD (st:=pV) l40 cc40 k40;have b40:=U40.binds (ps:=["table","shares"]) fun _ _ _ _ _ _ us hl=>ln2 us hl fun _ _=>rfl;have U41:=bD (st:=pQ) l41 cc41 k41;have b41:=U41.binds (ps:=["begun","hands"]) fun _ _ _ _ _ _ us hl=>ln2 us hl fun _ _=>rfl;have U42:=bD (st:=nW) l42 cc42 k42;have b42:=U42.binds (ps:=["hands"]) fun _ _ _ _ _ _ us hl=>ln1 us hl fun _=>rfl;have U43:=bD (st:=pS) l43 cc43 k43;have b43:=U43.binds (ps:=["table"]) fun _ _ _ _ _ _ us hl=>ln1 us hl fun _=>rfl;have U44:=bD (st:=gU) l44 cc44 k44;refine⟨PySem.W.fnOf "law" "law" (defArgs gU) (defBody gU) (defScope gU) .none kV44 dc44 pm44 an44 cd44 ct44,fun s v=>.of_eq rfl,fun base IB GB=>?_⟩;have aH4:Cal l.prog w K mg base "_law_cell" 1 ["script","k"] cQ false 3:=⟨_,_,aAm aH2 U0,aLy X G0 a0,k0,b0⟩;have aHx:Cal l.prog w K mg base "_law_hands" 2 ["script"] kN false 3:=⟨_,_,aAr aH4 U1,aLy X G0 a1,k1,b1⟩;have aHy:Cal l.prog w K mg base "_law_slots" 1 ["script","hands"] kO true 3:=⟨_,_,aAu aH1 aH2 U2,aLy X G0 a2,k2,b2⟩;have aHa:Cal l.prog w K mg base "_law_many" 1 ["group"] fR false 3:=⟨_,_,aAs  U3,aLy X G0 a3,k3,b3⟩;have aI0:Cal l.prog w K mg base "_law_tied" 2 ["slots","hands","most"] kP true 3:=⟨_,_,aAv aHa aH1 aHs U4,aLy X G0 a4,k4,b4⟩;have aHp:Cal l.prog w K mg base "_law_noisy" 2 ["slots","hands","most"] jK true 3:=⟨_,_,aAt aHa aH1 U5,aLy X G0 a5,k5,b5⟩;have aHn:Cal l.prog w K mg base "_law_falling" 3 ["script","hands"] kM true 3:=⟨_,_,aAp aHy aH4 aI0 aHp U6,aLy X G0 a6,k6,b6⟩;have aHw:Cal l.prog w K mg base "_law_drawn" 1 ["cell","hands"] kK true 3:=⟨_,_,aAn aH1 U7,aLy X G0 a7,k7,b7⟩;have aHh:Cal l.prog w K mg base "_law_drawn_mix" 2 ["cells","hands","most"] kL true 3:=⟨_,_,aAo aHw U8,aLy X G0 a8,k8,b8⟩;have aH3:Cal l.prog w K mg base "hand_count" 1 ["table"] cR false 3:=⟨_,_,aB7 aH2 U9,aLy X G0 a9,k9,b9⟩;have aHe:Cal l.prog w K mg base "by_order" 2 ["table","order"] gE true 3:=⟨_,_,aAz aH3 U10,aLy X G0 a10,k10,b10⟩;have aH8:Cal l.prog w K mg base "mix_row" 3 ["table","mix"] cS true 3:=⟨_,_,aBk aH3 aHe aHt U11,aLy X G0 a11,k11,b11⟩;have aHf:Cal l.prog w K mg base "mix_size" 1 ["mix"] fU false 3:=⟨_,_,aBl aIb U12,aLy X G0 a12,k12,b12⟩;have aHo:Cal l.prog w K mg base "_law_gives" 1 ["row","group"] jJ false 3:=⟨_,_,aAq aH2 aH1 U13,aLy X G0 a13,k13,b13⟩;have aHc:Cal l.prog w K mg base "everybody" 1 ["table"] fS false 3:=⟨_,_,aB2 aH2 U14,aLy X G0 a14,k14,b14⟩;have aH7:Cal l.prog w K mg base "hands_in" 1 ["group"] eS true 3:=⟨_,_,aB8 aH1 U15,aLy X G0 a15,k15,b15⟩;have aHd:Cal l.prog w K mg base "row_gives" 2 ["row","group"] fV false 3:=⟨_,_,aBq aH7 aIb U16,aLy X G0 a16,k16,b16⟩;have aH6:Cal l.prog w K mg base "less_row" 3 ["table","row"] eJ true 3:=⟨_,_,aBg aH3 aHd aH2 aH5 U17,aLy X G0 a17,k17,b17⟩;have aIi:Cal l.prog w K mg base "over" 4 ["table","shares"] mH false 3:=⟨_,_,aBp aH6 aHs U18,aLy X G0 a18,k18,b18⟩;have aI8:Cal l.prog w K mg base "is_under" 5 ["table","shares"] mD false 3:=⟨_,_,aBe aIi U19,aLy X G0 a19,k19,b19⟩;have aHg:Cal l.prog w K mg base "is_base" 6 ["table","shares"] eZ false 3:=⟨_,_,aB9 aHc aI8 aHd U20,aLy X G0 a20,k20,b20⟩;have aI1:Cal l.prog w K mg base "is_number" 1 ["value"] rV false 3:=⟨_,_,aBb aH9 aIn aIk U21,aLy X G0 a21,k21,b21⟩;have aIe:Cal l.prog w K mg base "is_row" 2 ["hands","value"] mC false 3:=⟨_,_,aBd aI1 aH9 aI4 aH2 aHr U22,aLy X G0 a22,k22,b22⟩;have aI7:Cal l.prog w K mg base "is_order" 3 ["hands","value"] kZ false 3:=⟨_,_,aBc aIe aHm aI4 aH1 U23,aLy X G0 a23,k23,b23⟩;have aIa:Cal l.prog w K mg base "is_mix" 4 ["table","shares","mix"] gF false 3:=⟨_,_,aBa aH3 aI7 aH8 aHf aH2 aHr U24,aLy X G0 a24,k24,b24⟩;have aI3:Cal l.prog w K mg base "two_break" 1 ["table","one","other"] mJ false 3:=⟨_,_,aBt  U25,aLy X G0 a25,k25,b25⟩;have aHq:Cal l.prog w K mg base "break_beside" 2 ["table","group"] kQ false 3:=⟨_,_,aAx aHc aH7 aI3 aH5 U26,aLy X G0 a26,k26,b26⟩;have aI5:Cal l.prog w K mg base "break_of" 3 ["table"] kR false 3:=⟨_,_,aAy aHq aH2 aH1 U27,aLy X G0 a27,k27,b27⟩;have aIg:Cal l.prog w K mg base "falls" 4 ["table"] jL false 3:=⟨_,_,aB3 aI5 U28,aLy X G0 a28,k28,b28⟩;have aI2:Cal l.prog w K mg base "must_fall" 5 ["table"] mG false 3:=⟨_,_,aBo aIg U29,aLy X G0 a29,k29,b29⟩;have aHl:Cal l.prog w K mg base "scaled" 1 ["many","table"] gG true 3:=⟨_,_,aBr  U30,aLy X G0 a30,k30,b30⟩;have aHu:Cal l.prog w K mg base "full_groups" 4 ["table","shares"] kY true 3:=⟨_,_,aB6 aH6 aH5 U31,aLy X G0 a31,k31,b31⟩;have aIf:Cal l.prog w K mg base "within" 1 ["one","other"] mK false 3:=⟨_,_,aBu  U32,aLy X G0 a32,k32,b32⟩;have aHv:Cal l.prog w K mg base "shared_with" 2 ["groups","hand"] mI false 3:=⟨_,_,aBs aIf U33,aLy X G0 a33,k33,b33⟩;have aIc:Cal l.prog w K mg base "many_in" 2 ["group"] gZ false 3:=⟨_,_,aBi aH7 aH2 U34,aLy X G0 a34,k34,b34⟩;have aHz:CalP l.prog w K mg base Pt eQ "core_order" 6 ["table","shares"] kU true 3:=⟨_,_,aB1 LK aHu aHv aIc aH2 aH1 aHm U35,aLy X G0 a35,k35,b35⟩;have aHj:Cal l.prog w K mg base "fraction_less" 1 ["one","other"] kX false 3:=⟨_,_,aB5  U36,aLy X G0 a36,k36,b36⟩;have aHi:Cal l.prog w K mg base "common_divisor" 1 ["one","other"] kT false 3:=⟨_,_,aB0 aIl U37,aLy X G0 a37,k37,b37⟩;have aI6:Cal l.prog w K mg base "fraction" 2 ["top","bottom"] kW false 3:=⟨_,_,aB4 aHi U38,aLy X G0 a38,k38,b38⟩;have aId:Cal l.prog w K mg base "most_of" 4 ["table","size","rest","shares"] mF false 3:=⟨_,_,aBn aHl aH6 aHj aI6 aHt U39,aLy X G0 a39,k39,b39⟩;have aIh:CalP l.prog w K mg base Pt eQ "mixed" 7 ["table","shares"] jM false 3:=⟨_,_,aBm aI2 aHg aHl aHz aHe aId aHt U40,aLy X G0 a40,k40,b40⟩;have aHk:Cal l.prog w K mg base "longer_orders" 1 ["begun","hands"] mE true 3:=⟨_,_,aBh aH1 U41,aLy X G0 a41,k41,b41⟩;have aHb:Cal l.prog w K mg base "all_orders" 2 ["hands"] eY false 3:=⟨_,_,aAw aHk aH1 U42,aLy X G0 a42,k42,b42⟩;have aI9:Cal l.prog w K mg base "mean_row" 4 ["table"] hE true 3:=⟨_,_,aBj aH3 aHb aH8 U43,aLy X G0 a43,k43,b43⟩;exact aBf aHx aHn aH4 aHh aH8 aHf aHo aHg aIa aIh aHb aI9 aHs aH2 aH1 aHr U44
theorem walk {l:PySem.W.OpenLaw}{q:Program}{loose:List Str}{XP:(Str->Option Value)->Heap->Prop}{YP:World->Heap->Prop}{d:DefRec}{K:Params->PySem.W.Frag}{Pt cq:Addr}(hn:l.most=some 63) (hdf:d.params.defaults=[])
  (hY:∀ (w:World) (h:Heap),YP w h->(K w.params).In h/\h.get? Pt=some (PySem.W.tabObj #[])) (hC:∀ p,PySem.W.codeHdIn (K p) cq Pt=true) (hPK:∀ p,(K p).lookup Pt=none)
  (F:∀ (w:World) (mg:Str->Option Value) (fa:Addr) (h:Heap),(K w.params).In h->h.Ns mainGlobals mg->mg d.name=some (.ref fa) ->
   ∃ fd:FuncData,(∀ (s:Shared) (u:Value),BindsTo s fd ⟨[u],[]⟩ [("script",u)])/\∀ base:Heap,(K w.params).In base->base.Ns mainGlobals mg->FnOk l.prog w (K w.params) mg base CX0 8 fa fd ["script"] (spP Pt eQ (spT (K w.params) qH false 3))):
  PySem.W.WalkO q loose XP YP l.row.toRowW d [] (fun f vs=>PySem.call f vs):=
 ZN ⟨rfl,by decide,by decide⟩ hn hdf hY hC hPK F QR
set_option maxRecDepth 100000
set_option maxHeartbeats 0
noncomputable def KF (P:Params):PySem.W.Frag:=
 (nat_lit 3,⟨.type "dict",none,.dict #[HD.kE P "__name__" 165 (.str "law_groupcost_k73_whole_mixes_are_bases" 541),HD.kE P "__doc__" 166 (.none),HD.kE P "__package__" 167 (.none),HD.kE P "__loader__" 168 (.builtin "__main__.__loader__#opaque"),HD.kE P "__spec__" 169 (.none),HD.kE P "__annotations__" 170 (.ref 6),HD.kE P "__builtins__" 171 (.ref 4),HD.kE P "__file__" 173 (.str "/claim/cut.py" 172),HD.kE P "__cached__" 174 (.none),HD.kE P "CostError" 206 (.ref 24),HD.kE P "Unlike" 222 (.ref 37),HD.kE P "NotFalling" 238 (.ref 49),HD.kE P "NotBase" 254 (.ref 61),HD.kE P "hands_in" 262 (.ref 68),HD.kE P "many_in" 269 (.ref 75),HD.kE P "within" 277 (.ref 82),HD.kE P "shared_with" 287 (.ref 89),HD.kE P "hand_count" 296 (.ref 96),HD.kE P "everybody" 303 (.ref 103),HD.kE P "row_gives" 309 (.ref 108),HD.kE P "scaled" 315 (.ref 113),HD.kE P "less_row" 321 (.ref 118),HD.kE P "two_break" 332 (.ref 125),HD.kE P "break_beside" 344 (.ref 132),HD.kE P "break_of" 353 (.ref 139),HD.kE P "falls" 360 (.ref 146),HD.kE P "must_fall" 367 (.ref 153),HD.kE P "is_number" 376 (.ref 160),HD.kE P "is_row" 382 (.ref 165),HD.kE P "is_order" 390 (.ref 172),HD.kE P "common_divisor" 403 (.ref 179),HD.kE P "fraction" 412 (.ref 186),HD.kE P "fraction_less" 420 (.ref 193),HD.kE P "over" 432 (.ref 200),HD.kE P "is_under" 440 (.ref 207),HD.kE P "is_base" 449 (.ref 214),HD.kE P "full_groups" 455 (.ref 219),HD.kE P "by_order" 469 (.ref 226),HD.kE P "mix_row" 477 (.ref 231),HD.kE P "mix_size" 483 (.ref 236),HD.kE P "is_mix" 489 (.ref 241),HD.kE P "core_order" 495 (.ref 246),HD.kE P "most_of" 509 (.ref 253),HD.kE P "mixed" 515 (.ref 258),HD.kE P "longer_orders" 523 (.ref 263),HD.kE P "all_orders" 534 (.ref 270),HD.kE P "mean_row" 540 (.ref 275),HD.kE P "_law_cell" 550 (.ref 282),HD.kE P "_law_whole" 557 (.ref 289),HD.kE P "_law_hands" 564 (.ref 296),HD.kE P "_law_many" 572 (.ref 303),HD.kE P "_law_slots" 578 (.ref 308),HD.kE P "_law_noisy" 591 (.ref 315),HD.kE P "_law_tied" 597 (.ref 320),HD.kE P "_law_falling" 603 (.ref 325),HD.kE P "_law_drawn" 613 (.ref 332),HD.kE P "_law_gives" 623 (.ref 339),HD.kE P "_law_drawn_mix" 634 (.ref 346),HD.kE P "law" 640 (.ref 351)] 59,#[]⟩) ::
 (nat_lit 4,⟨.type "module",some 0,.plain,#[]⟩) ::
 (nat_lit 15,⟨.type "tuple",none,.seq #[.type "ValueError"] 0,#[]⟩) ::
 (nat_lit 22,⟨.type "tuple",none,.seq #[] 0,#[]⟩) ::
 (nat_lit 23,⟨.type "dict",none,.dict #[HD.kE P "__module__" 196 (.str "groupcost.errors" 187),HD.kE P "__firstlineno__" 200 (.int (2) 199),HD.kE P "__static_attributes__" 201 (.ref 22),HD.kE P "__weakref__" 203 (.ref 25),HD.kE P "__doc__" 204 (.none)] 3,#[]⟩) ::
 (nat_lit 24,⟨.type "type",none,.cls ⟨"CostError",[.type "ValueError"],[.ref 24,.type "ValueError",.type "Exception",.type "BaseException",.type "object"],23,"CostError",true,[],[.ref 37,.ref 49,.ref 61],false,none,false⟩,#[some (.ref 15),none,some (.str "CostError" 189),some (.str "CostError" 197),some (.builtin "ValueError.__new__"),some (.bool true)]⟩) ::
 (nat_lit 25,⟨.type "getset_descriptor",none,.fields #[.str "__weakref__" 202,.ref 24,.builtin "ExceptionGroup.__weakref__",.none],#[]⟩) ::
 (nat_lit 28,⟨.type "tuple",none,.seq #[.ref 24] 0,#[]⟩) ::
 (nat_lit 35,⟨.type "tuple",none,.seq #[] 0,#[]⟩) ::
 (nat_lit 36,⟨.type "dict",none,.dict #[HD.kE P "__module__" 214 (.str "groupcost.errors" 187),HD.kE P "__firstlineno__" 218 (.int (4) 217),HD.kE P "__static_attributes__" 219 (.ref 35),HD.kE P "__doc__" 220 (.none)] 2,#[]⟩) ::
 (nat_lit 37,⟨.type "type",none,.cls ⟨"Unlike",[.ref 24],[.ref 37,.ref 24,.type "ValueError",.type "Exception",.type "BaseException",.type "object"],36,"Unlike",true,[],[],false,none,false⟩,#[some (.ref 28),none,some (.str "Unlike" 207),some (.str "Unlike" 215),some (.builtin "ValueError.__new__"),some (.bool true)]⟩) ::
 (nat_lit 40,⟨.type "tuple",none,.seq #[.ref 24] 0,#[]⟩) ::
 (nat_lit 47,⟨.type "tuple",none,.seq #[] 0,#[]⟩) ::
 (nat_lit 48,⟨.type "dict",none,.dict #[HD.kE P "__module__" 230 (.str "groupcost.errors" 187),HD.kE P "__firstlineno__" 234 (.int (6) 233),HD.kE P "__static_attributes__" 235 (.ref 47),HD.kE P "__doc__" 236 (.none)] 2,#[]⟩) ::
 (nat_lit 49,⟨.type "type",none,.cls ⟨"NotFalling",[.ref 24],[.ref 49,.ref 24,.type "ValueError",.type "Exception",.type "BaseException",.type "object"],48,"NotFalling",true,[],[],false,none,false⟩,#[some (.ref 40),none,some (.str "NotFalling" 223),some (.str "NotFalling" 231),some (.builtin "ValueError.__new__"),some (.bool true)]⟩) ::
 (nat_lit 52,⟨.type "tuple",none,.seq #[.ref 24] 0,#[]⟩) ::
 (nat_lit 59,⟨.type "tuple",none,.seq #[] 0,#[]⟩) ::
 (nat_lit 60,⟨.type "dict",none,.dict #[HD.kE P "__module__" 246 (.str "groupcost.errors" 187),HD.kE P "__firstlineno__" 250 (.int (8) 249),HD.kE P "__static_attributes__" 251 (.ref 59),HD.kE P "__doc__" 252 (.none)] 2,#[]⟩) ::
 (nat_lit 61,⟨.type "type",none,.cls ⟨"NotBase",[.ref 24],[.ref 61,.ref 24,.type "ValueError",.type "Exception",.type "BaseException",.type "object"],60,"NotBase",true,[],[],false,none,false⟩,#[some (.ref 52),none,some (.str "NotBase" 239),some (.str "NotBase" 247),some (.builtin "ValueError.__new__"),some (.bool true)]⟩) ::
 (nat_lit 67,HD.kC "hands_in" 257 11 1 3 64 true 181 65 (.none) (.none) (.none) (.ref 66) 260) ::
 (nat_lit 68,⟨.type "function",none,.func (PySem.W.fnOf "hands_in" "hands_in" (L2.defArgs (top 6)) (L2.defBody (top 6)) (L2.defScope (top 6)) (.none) (.none) (.none) (.str "groupcost.masks" 255) (none) (.ref 67) (.none)),#[]⟩) ::
 (nat_lit 74,HD.kC "many_in" 263 13 1 3 69 true 181 70 (.none) (.ref 71) (.ref 72) (.ref 73) 267) ::
 (nat_lit 75,⟨.type "function",none,.func (PySem.W.fnOf "many_in" "many_in" (L2.defArgs (top 7)) (L2.defBody (top 7)) (L2.defScope (top 7)) (.none) (.none) (.none) (.str "groupcost.masks" 255) (none) (.ref 74) (.none)),#[]⟩) ::
 (nat_lit 81,HD.kC "within" 270 15 2 3 76 true 181 77 (.none) (.ref 78) (.ref 79) (.ref 80) 275) ::
 (nat_lit 82,⟨.type "function",none,.func (PySem.W.fnOf "within" "within" (L2.defArgs (top 8)) (L2.defBody (top 8)) (L2.defScope (top 8)) (.none) (.none) (.none) (.str "groupcost.masks" 255) (none) (.ref 81) (.none)),#[]⟩) ::
 (nat_lit 88,HD.kC "shared_with" 278 17 2 3 83 true 181 84 (.none) (.ref 85) (.ref 86) (.ref 87) 285) ::
 (nat_lit 89,⟨.type "function",none,.func (PySem.W.fnOf "shared_with" "shared_with" (L2.defArgs (top 9)) (L2.defBody (top 9)) (L2.defScope (top 9)) (.none) (.none) (.none) (.str "groupcost.masks" 255) (none) (.ref 88) (.none)),#[]⟩) ::
 (nat_lit 95,HD.kC "hand_count" 290 24 1 3 90 true 181 91 (.none) (.ref 92) (.ref 93) (.ref 94) 294) ::
 (nat_lit 96,⟨.type "function",none,.func (PySem.W.fnOf "hand_count" "hand_count" (L2.defArgs (top 11)) (L2.defBody (top 11)) (L2.defScope (top 11)) (.none) (.none) (.none) (.str "groupcost.tables" 288) (none) (.ref 95) (.none)),#[]⟩) ::
 (nat_lit 102,HD.kC "everybody" 297 26 1 3 97 true 181 98 (.none) (.ref 99) (.ref 100) (.ref 101) 301) ::
 (nat_lit 103,⟨.type "function",none,.func (PySem.W.fnOf "everybody" "everybody" (L2.defArgs (top 12)) (L2.defBody (top 12)) (L2.defScope (top 12)) (.none) (.none) (.none) (.str "groupcost.tables" 288) (none) (.ref 102) (.none)),#[]⟩) ::
 (nat_lit 107,HD.kC "row_gives" 304 28 2 3 104 true 181 105 (.none) (.none) (.none) (.ref 106) 307) ::
 (nat_lit 108,⟨.type "function",none,.func (PySem.W.fnOf "row_gives" "row_gives" (L2.defArgs (top 13)) (L2.defBody (top 13)) (L2.defScope (top 13)) (.none) (.none) (.none) (.str "groupcost.tables" 288) (none) (.ref 107) (.none)),#[]⟩) ::
 (nat_lit 112,HD.kC "scaled" 310 30 2 3 109 true 181 110 (.none) (.none) (.none) (.ref 111) 313) ::
 (nat_lit 113,⟨.type "function",none,.func (PySem.W.fnOf "scaled" "scaled" (L2.defArgs (top 14)) (L2.defBody (top 14)) (L2.defScope (top 14)) (.none) (.none) (.none) (.str "groupcost.tables" 288) (none) (.ref 112) (.none)),#[]⟩) ::
 (nat_lit 117,HD.kC "less_row" 316 32 2 3 114 true 181 115 (.none) (.none) (.none) (.ref 116) 319) ::
 (nat_lit 118,⟨.type "function",none,.func (PySem.W.fnOf "less_row" "less_row" (L2.defArgs (top 15)) (L2.defBody (top 15)) (L2.defScope (top 15)) (.none) (.none) (.none) (.str "groupcost.tables" 288) (none) (.ref 117) (.none)),#[]⟩) ::
 (nat_lit 124,HD.kC "two_break" 324 37 3 3 119 true 181 120 (.none) (.ref 121) (.ref 122) (.ref 123) 330) ::
 (nat_lit 125,⟨.type "function",none,.func (PySem.W.fnOf "two_break" "two_break" (L2.defArgs (top 17)) (L2.defBody (top 17)) (L2.defScope (top 17)) (.none) (.none) (.none) (.str "groupcost.falling" 322) (none) (.ref 124) (.none)),#[]⟩) ::
 (nat_lit 131,HD.kC "break_beside" 333 39 2 3 126 true 181 127 (.none) (.ref 128) (.ref 129) (.ref 130) 342) ::
 (nat_lit 132,⟨.type "function",none,.func (PySem.W.fnOf "break_beside" "break_beside" (L2.defArgs (top 18)) (L2.defBody (top 18)) (L2.defScope (top 18)) (.none) (.none) (.none) (.str "groupcost.falling" 322) (none) (.ref 131) (.none)),#[]⟩) ::
 (nat_lit 138,HD.kC "break_of" 345 46 1 3 133 true 181 134 (.none) (.ref 135) (.ref 136) (.ref 137) 351) ::
 (nat_lit 139,⟨.type "function",none,.func (PySem.W.fnOf "break_of" "break_of" (L2.defArgs (top 19)) (L2.defBody (top 19)) (L2.defScope (top 19)) (.none) (.none) (.none) (.str "groupcost.falling" 322) (none) (.ref 138) (.none)),#[]⟩) ::
 (nat_lit 145,HD.kC "falls" 354 52 1 3 140 true 181 141 (.none) (.ref 142) (.ref 143) (.ref 144) 358) ::
 (nat_lit 146,⟨.type "function",none,.func (PySem.W.fnOf "falls" "falls" (L2.defArgs (top 20)) (L2.defBody (top 20)) (L2.defScope (top 20)) (.none) (.none) (.none) (.str "groupcost.falling" 322) (none) (.ref 145) (.none)),#[]⟩) ::
 (nat_lit 152,HD.kC "must_fall" 361 54 1 3 147 true 181 148 (.none) (.ref 149) (.ref 150) (.ref 151) 365) ::
 (nat_lit 153,⟨.type "function",none,.func (PySem.W.fnOf "must_fall" "must_fall" (L2.defArgs (top 21)) (L2.defBody (top 21)) (L2.defScope (top 21)) (.none) (.none) (.none) (.str "groupcost.falling" 322) (none) (.ref 152) (.none)),#[]⟩) ::
 (nat_lit 159,HD.kC "is_number" 370 58 1 3 154 true 181 155 (.none) (.ref 156) (.ref 157) (.ref 158) 374) ::
 (nat_lit 160,⟨.type "function",none,.func (PySem.W.fnOf "is_number" "is_number" (L2.defArgs (top 23)) (L2.defBody (top 23)) (L2.defScope (top 23)) (.none) (.none) (.none) (.str "groupcost.kinds" 368) (none) (.ref 159) (.none)),#[]⟩) ::
 (nat_lit 164,HD.kC "is_row" 377 60 2 3 161 true 181 162 (.none) (.none) (.none) (.ref 163) 380) ::
 (nat_lit 165,⟨.type "function",none,.func (PySem.W.fnOf "is_row" "is_row" (L2.defArgs (top 24)) (L2.defBody (top 24)) (L2.defScope (top 24)) (.none) (.none) (.none) (.str "groupcost.kinds" 368) (none) (.ref 164) (.none)),#[]⟩) ::
 (nat_lit 171,HD.kC "is_order" 383 62 2 3 166 true 181 167 (.none) (.ref 168) (.ref 169) (.ref 170) 388) ::
 (nat_lit 172,⟨.type "function",none,.func (PySem.W.fnOf "is_order" "is_order" (L2.defArgs (top 25)) (L2.defBody (top 25)) (L2.defScope (top 25)) (.none) (.none) (.none) (.str "groupcost.kinds" 368) (none) (.ref 171) (.none)),#[]⟩) ::
 (nat_lit 178,HD.kC "common_divisor" 393 65 2 3 173 true 181 174 (.none) (.ref 175) (.ref 176) (.ref 177) 401) ::
 (nat_lit 179,⟨.type "function",none,.func (PySem.W.fnOf "common_divisor" "common_divisor" (L2.defArgs (top 27)) (L2.defBody (top 27)) (L2.defScope (top 27)) (.none) (.none) (.none) (.str "groupcost.fractions" 391) (none) (.ref 178) (.none)),#[]⟩) ::
 (nat_lit 185,HD.kC "fraction" 404 73 2 3 180 true 181 181 (.none) (.ref 182) (.ref 183) (.ref 184) 410) ::
 (nat_lit 186,⟨.type "function",none,.func (PySem.W.fnOf "fraction" "fraction" (L2.defArgs (top 28)) (L2.defBody (top 28)) (L2.defScope (top 28)) (.none) (.none) (.none) (.str "groupcost.fractions" 391) (none) (.ref 185) (.none)),#[]⟩) ::
 (nat_lit 192,HD.kC "fraction_less" 413 78 2 3 187 true 181 188 (.none) (.ref 189) (.ref 190) (.ref 191) 418) ::
 (nat_lit 193,⟨.type "function",none,.func (PySem.W.fnOf "fraction_less" "fraction_less" (L2.defArgs (top 29)) (L2.defBody (top 29)) (L2.defScope (top 29)) (.none) (.none) (.none) (.str "groupcost.fractions" 391) (none) (.ref 192) (.none)),#[]⟩) ::
 (nat_lit 199,HD.kC "over" 423 81 2 3 194 true 181 195 (.none) (.ref 196) (.ref 197) (.ref 198) 430) ::
 (nat_lit 200,⟨.type "function",none,.func (PySem.W.fnOf "over" "over" (L2.defArgs (top 31)) (L2.defBody (top 31)) (L2.defScope (top 31)) (.none) (.none) (.none) (.str "groupcost.shares" 421) (none) (.ref 199) (.none)),#[]⟩) ::
 (nat_lit 206,HD.kC "is_under" 433 85 2 3 201 true 181 202 (.none) (.ref 203) (.ref 204) (.ref 205) 438) ::
 (nat_lit 207,⟨.type "function",none,.func (PySem.W.fnOf "is_under" "is_under" (L2.defArgs (top 32)) (L2.defBody (top 32)) (L2.defScope (top 32)) (.none) (.none) (.none) (.str "groupcost.shares" 421) (none) (.ref 206) (.none)),#[]⟩) ::
 (nat_lit 213,HD.kC "is_base" 441 87 2 3 208 true 181 209 (.none) (.ref 210) (.ref 211) (.ref 212) 447) ::
 (nat_lit 214,⟨.type "function",none,.func (PySem.W.fnOf "is_base" "is_base" (L2.defArgs (top 33)) (L2.defBody (top 33)) (L2.defScope (top 33)) (.none) (.none) (.none) (.str "groupcost.shares" 421) (none) (.ref 213) (.none)),#[]⟩) ::
 (nat_lit 218,HD.kC "full_groups" 450 90 2 3 215 true 181 216 (.none) (.none) (.none) (.ref 217) 453) ::
 (nat_lit 219,⟨.type "function",none,.func (PySem.W.fnOf "full_groups" "full_groups" (L2.defArgs (top 34)) (L2.defBody (top 34)) (L2.defScope (top 34)) (.none) (.none) (.none) (.str "groupcost.shares" 421) (none) (.ref 218) (.none)),#[]⟩) ::
 (nat_lit 225,HD.kC "by_order" 458 93 2 3 220 true 181 221 (.none) (.ref 222) (.ref 223) (.ref 224) 467) ::
 (nat_lit 226,⟨.type "function",none,.func (PySem.W.fnOf "by_order" "by_order" (L2.defArgs (top 36)) (L2.defBody (top 36)) (L2.defScope (top 36)) (.none) (.none) (.none) (.str "groupcost.orders" 456) (none) (.ref 225) (.none)),#[]⟩) ::
 (nat_lit 230,HD.kC "mix_row" 472 102 2 3 227 true 181 228 (.none) (.none) (.none) (.ref 229) 475) ::
 (nat_lit 231,⟨.type "function",none,.func (PySem.W.fnOf "mix_row" "mix_row" (L2.defArgs (top 38)) (L2.defBody (top 38)) (L2.defScope (top 38)) (.none) (.none) (.none) (.str "groupcost.mixes" 470) (none) (.ref 230) (.none)),#[]⟩) ::
 (nat_lit 235,HD.kC "mix_size" 478 107 1 3 232 true 181 233 (.none) (.none) (.none) (.ref 234) 481) ::
 (nat_lit 236,⟨.type "function",none,.func (PySem.W.fnOf "mix_size" "mix_size" (L2.defArgs (top 39)) (L2.defBody (top 39)) (L2.defScope (top 39)) (.none) (.none) (.none) (.str "groupcost.mixes" 470) (none) (.ref 235) (.none)),#[]⟩) ::
 (nat_lit 240,HD.kC "is_mix" 484 109 3 3 237 true 181 238 (.none) (.none) (.none) (.ref 239) 487) ::
 (nat_lit 241,⟨.type "function",none,.func (PySem.W.fnOf "is_mix" "is_mix" (L2.defArgs (top 40)) (L2.defBody (top 40)) (L2.defScope (top 40)) (.none) (.none) (.none) (.str "groupcost.mixes" 470) (none) (.ref 240) (.none)),#[]⟩) ::
 (nat_lit 245,HD.kC "core_order" 490 114 2 3 242 true 181 243 (.none) (.none) (.none) (.ref 244) 493) ::
 (nat_lit 246,⟨.type "function",none,.func (PySem.W.fnOf "core_order" "core_order" (L2.defArgs (top 41)) (L2.defBody (top 41)) (L2.defScope (top 41)) (.none) (.none) (.none) (.str "groupcost.mixes" 470) (none) (.ref 245) (.none)),#[]⟩) ::
 (nat_lit 252,HD.kC "most_of" 496 118 4 3 247 true 181 248 (.none) (.ref 249) (.ref 250) (.ref 251) 507) ::
 (nat_lit 253,⟨.type "function",none,.func (PySem.W.fnOf "most_of" "most_of" (L2.defArgs (top 42)) (L2.defBody (top 42)) (L2.defScope (top 42)) (.none) (.none) (.none) (.str "groupcost.mixes" 470) (none) (.ref 252) (.none)),#[]⟩) ::
 (nat_lit 257,HD.kC "mixed" 510 125 2 3 254 true 181 255 (.none) (.none) (.none) (.ref 256) 513) ::
 (nat_lit 258,⟨.type "function",none,.func (PySem.W.fnOf "mixed" "mixed" (L2.defArgs (top 43)) (L2.defBody (top 43)) (L2.defScope (top 43)) (.none) (.none) (.none) (.str "groupcost.mixes" 470) (none) (.ref 257) (.none)),#[]⟩) ::
 (nat_lit 262,HD.kC "longer_orders" 518 141 2 3 259 true 181 260 (.none) (.none) (.none) (.ref 261) 521) ::
 (nat_lit 263,⟨.type "function",none,.func (PySem.W.fnOf "longer_orders" "longer_orders" (L2.defArgs (top 45)) (L2.defBody (top 45)) (L2.defScope (top 45)) (.none) (.none) (.none) (.str "groupcost.means" 516) (none) (.ref 262) (.none)),#[]⟩) ::
 (nat_lit 269,HD.kC "all_orders" 524 143 1 3 264 true 181 265 (.none) (.ref 266) (.ref 267) (.ref 268) 532) ::
 (nat_lit 270,⟨.type "function",none,.func (PySem.W.fnOf "all_orders" "all_orders" (L2.defArgs (top 46)) (L2.defBody (top 46)) (L2.defScope (top 46)) (.none) (.none) (.none) (.str "groupcost.means" 516) (none) (.ref 269) (.none)),#[]⟩) ::
 (nat_lit 274,HD.kC "mean_row" 535 151 1 3 271 true 181 272 (.none) (.none) (.none) (.ref 273) 538) ::
 (nat_lit 275,⟨.type "function",none,.func (PySem.W.fnOf "mean_row" "mean_row" (L2.defArgs (top 47)) (L2.defBody (top 47)) (L2.defScope (top 47)) (.none) (.none) (.none) (.str "groupcost.means" 516) (none) (.ref 274) (.none)),#[]⟩) ::
 (nat_lit 281,HD.kC "_law_cell" 543 154 2 3 276 true 181 277 (.none) (.ref 278) (.ref 279) (.ref 280) 548) ::
 (nat_lit 282,⟨.type "function",none,.func (PySem.W.fnOf "_law_cell" "_law_cell" (L2.defArgs (top 49)) (L2.defBody (top 49)) (L2.defScope (top 49)) (.none) (.none) (.none) (.str "law_groupcost_k73_whole_mixes_are_bases" 541) (none) (.ref 281) (.none)),#[]⟩) ::
 (nat_lit 295,HD.kC "_law_hands" 558 160 1 3 290 true 181 291 (.none) (.ref 292) (.ref 293) (.ref 294) 562) ::
 (nat_lit 296,⟨.type "function",none,.func (PySem.W.fnOf "_law_hands" "_law_hands" (L2.defArgs (top 51)) (L2.defBody (top 51)) (L2.defScope (top 51)) (.none) (.none) (.none) (.str "law_groupcost_k73_whole_mixes_are_bases" 541) (none) (.ref 295) (.none)),#[]⟩) ::
 (nat_lit 302,HD.kC "_law_many" 565 162 1 3 297 true 181 298 (.none) (.ref 299) (.ref 300) (.ref 301) 570) ::
 (nat_lit 303,⟨.type "function",none,.func (PySem.W.fnOf "_law_many" "_law_many" (L2.defArgs (top 52)) (L2.defBody (top 52)) (L2.defScope (top 52)) (.none) (.none) (.none) (.str "law_groupcost_k73_whole_mixes_are_bases" 541) (none) (.ref 302) (.none)),#[]⟩) ::
 (nat_lit 307,HD.kC "_law_slots" 573 168 2 3 304 true 181 305 (.none) (.none) (.none) (.ref 306) 576) ::
 (nat_lit 308,⟨.type "function",none,.func (PySem.W.fnOf "_law_slots" "_law_slots" (L2.defArgs (top 53)) (L2.defBody (top 53)) (L2.defScope (top 53)) (.none) (.none) (.none) (.str "law_groupcost_k73_whole_mixes_are_bases" 541) (none) (.ref 307) (.none)),#[]⟩) ::
 (nat_lit 314,HD.kC "_law_noisy" 579 175 3 3 309 true 181 310 (.none) (.ref 311) (.ref 312) (.ref 313) 589) ::
 (nat_lit 315,⟨.type "function",none,.func (PySem.W.fnOf "_law_noisy" "_law_noisy" (L2.defArgs (top 54)) (L2.defBody (top 54)) (L2.defScope (top 54)) (.none) (.none) (.none) (.str "law_groupcost_k73_whole_mixes_are_bases" 541) (none) (.ref 314) (.none)),#[]⟩) ::
 (nat_lit 319,HD.kC "_law_tied" 592 182 3 3 316 true 181 317 (.none) (.none) (.none) (.ref 318) 595) ::
 (nat_lit 320,⟨.type "function",none,.func (PySem.W.fnOf "_law_tied" "_law_tied" (L2.defArgs (top 55)) (L2.defBody (top 55)) (L2.defScope (top 55)) (.none) (.none) (.none) (.str "law_groupcost_k73_whole_mixes_are_bases" 541) (none) (.ref 319) (.none)),#[]⟩) ::
 (nat_lit 324,HD.kC "_law_falling" 598 198 2 3 321 true 181 322 (.none) (.none) (.none) (.ref 323) 601) ::
 (nat_lit 325,⟨.type "function",none,.func (PySem.W.fnOf "_law_falling" "_law_falling" (L2.defArgs (top 56)) (L2.defBody (top 56)) (L2.defScope (top 56)) (.none) (.none) (.none) (.str "law_groupcost_k73_whole_mixes_are_bases" 541) (none) (.ref 324) (.none)),#[]⟩) ::
 (nat_lit 331,HD.kC "_law_drawn" 604 209 2 3 326 true 181 327 (.none) (.ref 328) (.ref 329) (.ref 330) 611) ::
 (nat_lit 332,⟨.type "function",none,.func (PySem.W.fnOf "_law_drawn" "_law_drawn" (L2.defArgs (top 57)) (L2.defBody (top 57)) (L2.defScope (top 57)) (.none) (.none) (.none) (.str "law_groupcost_k73_whole_mixes_are_bases" 541) (none) (.ref 331) (.none)),#[]⟩) ::
 (nat_lit 338,HD.kC "_law_gives" 614 215 2 3 333 true 181 334 (.none) (.ref 335) (.ref 336) (.ref 337) 621) ::
 (nat_lit 339,⟨.type "function",none,.func (PySem.W.fnOf "_law_gives" "_law_gives" (L2.defArgs (top 58)) (L2.defBody (top 58)) (L2.defScope (top 58)) (.none) (.none) (.none) (.str "law_groupcost_k73_whole_mixes_are_bases" 541) (none) (.ref 338) (.none)),#[]⟩) ::
 (nat_lit 345,HD.kC "_law_drawn_mix" 624 221 3 3 340 true 181 341 (.none) (.ref 342) (.ref 343) (.ref 344) 632) ::
 (nat_lit 346,⟨.type "function",none,.func (PySem.W.fnOf "_law_drawn_mix" "_law_drawn_mix" (L2.defArgs (top 59)) (L2.defBody (top 59)) (L2.defScope (top 59)) (.none) (.none) (.none) (.str "law_groupcost_k73_whole_mixes_are_bases" 541) (none) (.ref 345) (.none)),#[]⟩) ::
 (nat_lit 350,HD.kC "law" 635 226 1 3 347 true 181 348 (.none) (.none) (.none) (.ref 349) 638) ::
 (nat_lit 351,⟨.type "function",none,.func (PySem.W.fnOf "law" "law" (L2.defArgs (top 60)) (L2.defBody (top 60)) (L2.defScope (top 60)) (.none) (.none) (.none) (.str "law_groupcost_k73_whole_mixes_are_bases" 541) (none) (.ref 350) (.none)),#[]⟩)::[]
def KA:List Nat:=[3,4,15,22,23,24,25,28,35,36,37,40,47,48,49,52,59,60,61,67,68,74,75,81,82,88,89,95,96,102,103,107,108,112,113,117,118,124,125,131,132,138,139,145,146,152,153,159,160,164,165,171,172,178,179,185,186,192,193,199,200,206,207,213,214,218,219,225,226,230,231,235,236,240,241,245,246,252,253,257,258,262,263,269,270,274,275,281,282,295,296,302,303,307,308,314,315,319,320,324,325,331,332,338,339,345,346,350,351]
theorem KE (P:Params):KA=(KF P).map (·.1):=by kernel_rfl
noncomputable abbrev qq:Program:=PySem.W.view PySem.Challenge.pw_groupcost_k73_whole_mixes_are_bases [60]
noncomputable abbrev lo:List Str:=(["CostError","Unlike","NotFalling","NotBase","hands_in","many_in","within","shared_with","hand_count","everybody","row_gives","scaled","less_row","two_break","break_beside","break_of","falls","must_fall","is_number","is_row","is_order","common_divisor","fraction","fraction_less","over","is_under","is_base","full_groups","by_order","mix_row","mix_size","is_mix","core_order","most_of","mixed","longer_orders","all_orders","mean_row","_law_cell","_law_whole","_law_hands","_law_many","_law_slots","_law_noisy","_law_tied","_law_falling","_law_drawn","_law_gives","_law_drawn_mix"]:List String).map Str.ofString
noncomputable abbrev Xt (s:Shared):Bool:=PySem.W.xlAt qq [] s&&PySem.W.recOk (PySem.W.RowW.records (PySem.W.OpenRow.toRowW PySem.Challenge.rw_groupcost_k73_whole_mixes_are_bases.row)) s
theorem left:PySem.W.LeftO PySem.Challenge.pw_groupcost_k73_whole_mixes_are_bases qq lo Xt (PySem.W.Hook.obs (PySem.W.kmHook KF KA KE [243])) (PySem.W.Hook.val (PySem.W.kmHook KF KA KE [243])) 5262:=
 HD.left_of (PySem.W.boot_open (by kernel_rfl) (by kernel_rfl) (fun s=>by kernel_rfl)) fun w os=>by kernel_rfl
end My
open PySem PySem.W PyProof.Rows
set_option maxRecDepth 100000 in
set_option maxHeartbeats 0 in
theorem PySem.Challenge.cw_groupcost_k73_whole_mixes_are_bases_holds : PySem.Challenge.rw_groupcost_k73_whole_mixes_are_bases.Holds := by
 w_on
 refine holds_law (HD.said_of (by kernel_rfl)) fun said => ?_;refine holds_open (q := My.qq) (loose := My.lo) (Xt := My.Xt) (XP := XL My.qq []) (YP := Hook.says (kmHook My.KF My.KA My.KE [243])) My.left (Hook.of (kmHook My.KF My.KA My.KE [243])) (Hook.keeps (kmHook My.KF My.KA My.KE [243])) (fun s e => xl_of s (aJd.mp e).1) XL.keeps (by rfl) (by rfl) (by rfl) (fun s e => recFacts_of (aJd.mp e).2) (by rfl) said (by decide +kernel) ⟨rfl, rfl, rfl, rfl, rfl, by decide +kernel⟩ ?hw ?hc
 case hw => w_witness2
 k_fill
 refine My.walk (l := PySem.Challenge.rw_groupcost_k73_whole_mixes_are_bases) (Pt := 243) (cq := 245) rfl rfl (fun w h Y => ⟨PySem.W.km_in_of Y, PySem.W.km_tabs_of Y 243 (by simp)⟩) (fun p => by kernel_rfl) (fun p => by kernel_rfl) ?F
 case F =>
  intro w mg fa h KX G hmg;refine' My.all_mk (Pt := 243) (cq := 245) (bm := 4) KX G hmg ?a0 ?l0 ?cc0 ?k0 ?a1 ?l1 ?cc1 ?k1 ?a2 ?l2 ?cc2 ?k2 ?a3 ?l3 ?cc3 ?k3 ?a4 ?l4 ?cc4 ?k4 ?a5 ?l5 ?cc5 ?k5 ?a6 ?l6 ?cc6 ?k6 ?a7 ?l7 ?cc7 ?k7 ?a8 ?l8 ?cc8 ?k8 ?a9 ?l9 ?cc9 ?k9 ?a10 ?l10 ?cc10 ?k10 ?a11 ?l11 ?cc11 ?k11 ?a12 ?l12 ?cc12 ?k12 ?a13 ?l13 ?cc13 ?k13 ?a14 ?l14 ?cc14 ?k14 ?a15 ?l15 ?cc15 ?k15 ?a16 ?l16 ?cc16 ?k16 ?a17 ?l17 ?cc17 ?k17 ?a18 ?l18 ?cc18 ?k18 ?a19 ?l19 ?cc19 ?k19 ?a20 ?l20 ?cc20 ?k20 ?a21 ?l21 ?cc21 ?k21 ?a22 ?l22 ?cc22 ?k22 ?a23 ?l23 ?cc23 ?k23 ?a24 ?l24 ?cc24 ?k24 ?a25 ?l25 ?cc25 ?k25 ?a26 ?l26 ?cc26 ?k26 ?a27 ?l27 ?cc27 ?k27 ?a28 ?l28 ?cc28 ?k28 ?a29 ?l29 ?cc29 ?k29 ?a30 ?l30 ?cc30 ?k30 ?a31 ?l31 ?cc31 ?k31 ?a32 ?l32 ?cc32 ?k32 ?a33 ?l33 ?cc33 ?k33 ?a34 ?l34 ?cc34 ?k34 ?a35 ?l35 ?cc35 ?k35 ?a36 ?l36 ?cc36 ?k36 ?a37 ?l37 ?cc37 ?k37 ?a38 ?l38 ?cc38 ?k38 ?a39 ?l39 ?cc39 ?k39 ?a40 ?l40 ?cc40 ?k40 ?a41 ?l41 ?cc41 ?k41 ?a42 ?l42 ?cc42 ?k42 ?a43 ?l43 ?cc43 ?k43 ?a44 ?l44 ?cc44 ?k44 ?q_code ?q_blt ?q_mod ?n1 ?n2 ?aIv ?aIp ?aIw ?aIy ?aIx ?aIm ?aIj ?aIu ?aIq ?aIr ?aIt ?aIo ?aIs
  case n1 => decide
  case n2 => decide
  case q_code => kernel_rfl
  any_goals (show _ = _; k_is)
