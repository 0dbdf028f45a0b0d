import PyProof.Rows.All
import Wide.All
import OpenK.AllK
import Wide.FinOn
import Lean
import PyProof.EqAt
import PyProof.EqKinds
import PyProof.TupleCall
import PyProof.NeKinds
import PyProof.SliceMore
import PyProof.AutoListH
import PyProof.WalksEnum
import PyProof.EnumMake
import PyProof.ZipIter
import PyProof.ConsumeS
import PyProof.WalkInts
import PyProof.ListRange
import PyProof.Rows.SortRev
import PyProof.Rows.SortWalk
import PyProof.Rows.CallKwBuiltin
import PyProof.Rows.RuleN_abs
import PyProof.Rows.FactsN_abs
import Open.Boot
import Open.Tree
import Open.FastT9
import PyProof.Rows.SetFrom
import PyProof.CollectWalk
import PyProof.ForAny
import PyProof.EnumIter
import KE.KRevIter
import KE.KSortTup
import KE.KLam
import KE.KNestM
import KE.KIntText
import PyProof.StrReplace2
import PyProof.StrBlockH
import PyProof.StrWalks
import PyProof.DictStraight
import PyProof.Rows.TupMore
import PyProof.TupleIter
import KE.KSortAsk
import KE.KUnpack
import PySem.Challenge.RW_groupcost_k65_papers_of_the_fairest
set_option Elab.async false
set_option linter.all false
set_option maxRecDepth 100000
def aIo := @Option.some.inj
def aIp := @List.getD_eq_getElem?_getD
def aIq := @List.getElem?_eq_getElem
def aIr := @List.mem_cons_of_mem
def aIs := @List.mem_cons_self
def aIt := @List.getElem?_eq_some_iff
def aIu := @List.all_eq_true
def aIv := @List.mem_range
def aIw := @Nat.lt_of_lt_of_le
def aIx := @List.size_toArray
def aIy := @List.getElem?_set_ne
def aIz := @PySem.Heap.get?_push_of_some
def aJ0 := @List.mem_cons
def aJ1 := @Bool.and_eq_true
def aJ2 := @Bool.and_eq_true_iff
def aJ3 := @Bool.eq_iff_iff
def aJ4 := @Bool.false_eq_true
def aJ5 := @Bool.false_ne_true
def aJ6 := @Bool.not_false
def aJ7 := @Bool.not_true
def aJ8 := @PySem.Heap.get?_push_size
def aJ9 := @PySem.Heap.lt_size
def aJa := @PySem.Heap.size_push
def aJb := @Int.emod_lt_of_pos
def aJc := @Int.emod_nonneg
def aJd := @Int.le_of_lt
def aJe := @Int.le_refl
def aJf := @Int.mul_add
def aJg := @Int.mul_assoc
def aJh := @Int.mul_comm
def aJj := @Int.mul_le_mul_of_nonneg_right
def aJk := @Int.mul_left_comm
def aJl := @Int.natAbs_mul
def aJm := @List.all_cons
def aJn := @List.drop_eq_getElem_cons
def aJp := @List.filterMap_cons
def aJt := @List.getElem?_append_left
def aJv := @List.getElem?_eq_none
def aJx := @List.getElem?_map
def aJz := @List.getElem?_replicate
def aK0 := @List.getElem?_set_self
def aK1 := @List.getElem_mem
def aK2 := @List.length_append
def aK3 := @List.length_cons
def aK5 := @List.length_map
def aK6 := @List.length_nil
def aK7 := @List.length_range
def aK8 := @List.length_replicate
def aK9 := @List.length_set
def aKb := @List.lookup_cons
def aKc := @List.map_cons
def aKd := @List.map_map
def aKe := @List.map_nil
def aKf := @List.mem_append
def aKg := @List.mem_append_left
def aKh := @List.mem_append_right
def aKi := @List.mem_filter
def aKj := @List.mem_map
def aKl := @List.mem_of_getElem?
def aKm := @List.mem_singleton
def aKn := @List.nodup_cons
def aKp := @List.replicate_succ
def aKq := @Nat.and_le_left
def aKr := @Nat.eq_of_testBit_eq
def aKu := @Nat.le_of_lt
def aKv := @Nat.le_refl
def aKw := @Nat.le_trans
def aKx := @Nat.lt_irrefl
def aKy := @Nat.lt_of_le_of_lt
def aKz := @Nat.lt_or_ge
def aL0 := @Nat.lt_succ_self
def aL1 := @Nat.lt_trans
def aL2 := @Nat.mul_le_mul
def aL4 := @Nat.ne_of_gt
def aL5 := @Nat.ne_of_lt
def aL6 := @Nat.or_lt_two_pow
def aL8 := @Nat.pow_le_pow_right
def aL9 := @Nat.pow_lt_pow_right
def aLa := @Nat.pow_pos
def aLb := @Nat.testBit_and
def aLc := @Nat.testBit_or
def aLe := @Nat.zero_add
def aLf := @Nat.zero_le
def aLg := @Nat.zero_testBit
def aLh := @Option.bind_none
def aLi := @Option.bind_some
def aLk := @PySem.W.kia_one
def aLl := @PySem.W.mg_none_of
def aLm := @PySem.W.mg_of
namespace L2
open PySem PySem.Spec PyProof.Rows
abbrev Key:=Sum Int Str
def JS:Key->Value->Bool
 | .inl k,v=>Value.isInt k v
 | .inr x,v=>Value.isStrOf x v
def ZF (w:World):Key->Int
 | .inl k=>hashInt k
 | .inr x=>hashStr w x
theorem jO:∀ {k:Key}{v:Value},JS k v=true->(∃ i t,k=Sum.inl i/\v=Value.int i t)\/(∃ x t,k=Sum.inr x/\v=Value.str x t)
 | .inl i,v,h=>by
  obtain⟨t,e⟩:=Value.isInt_shape (k:=i) (v:=v) h;exact .inl ⟨i,t,rfl,e⟩
 | .inr x,v,h=>by
  obtain⟨t,e⟩:=Value.isStrOf_shape (x:=x) (v:=v) h;exact .inr ⟨x,t,rfl,e⟩
theorem ZG (a b:Int):decide ((Sum.inl a:Key)=Sum.inl b)=(a == b):=by
 by_cases e:a=b
 ·subst e;simp
 ·have h:¬ (Sum.inl a:Key)=Sum.inl b:=fun q=>e (Sum.inl.inj q)
  rw[decide_eq_false h];exact (beq_eq_false_iff_ne.mpr e).symm
theorem ZJ (a b:Str):decide ((Sum.inr a:Key)=Sum.inr b)=decide (a=b):=by
 by_cases e:a=b
 ·subst e;simp
 ·have h:¬ (Sum.inr a:Key)=Sum.inr b:=fun q=>e (Sum.inr.inj q)
  rw[decide_eq_false h,decide_eq_false e]
theorem ZH (a:Int) (b:Str):decide ((Sum.inl a:Key)=Sum.inr b)=false:=decide_eq_false (fun q=>nomatch q)
theorem ZI (a:Str) (b:Int):decide ((Sum.inr a:Key)=Sum.inl b)=false:=decide_eq_false (fun q=>nomatch q)
def uK (prog:Program) (w:World):PySem.KeyKind prog w Key where
 is:=JS
 hash:=ZF w
 inj:=fun v a b ha hb=>by
  rcases jO ha with ⟨i,t,rfl,rfl⟩ | ⟨x,t,rfl,rfl⟩
  ·rcases jO hb with ⟨j,u,rfl,e⟩ | ⟨y,u,rfl,e⟩
   ·injection e with e1 _;rw[e1]
   ·exact nomatch e
  ·rcases jO hb with ⟨j,u,rfl,e⟩ | ⟨y,u,rfl,e⟩
   ·exact nomatch e
   ·injection e with e1 _;rw[e1]
 byValue:=fun k v h=>by
  rcases jO h with ⟨i,t,rfl,rfl⟩ | ⟨x,t,rfl,rfl⟩<;>rfl
 pyHash:=fun hv h=>by
  rcases jO hv with ⟨i,t,rfl,rfl⟩ | ⟨x,t,rfl,rfl⟩
  ·exact wpAny_pyHash_int h
  ·exact wpAny_pyHash_str h
 eqBool:=fun hu hv h=>by
  rcases jO hu with ⟨i,t,rfl,rfl⟩ | ⟨x,t,rfl,rfl⟩
  ·rcases jO hv with ⟨j,u,rfl,rfl⟩ | ⟨y,u,rfl,rfl⟩
   ·rw[ZG] at h;exact wpAny_eqBool_int h
   ·rw[ZH] at h;exact SeqAt.EqAt.int_str i t y u _ _ _ _ h
  ·rcases jO hv with ⟨j,u,rfl,rfl⟩ | ⟨y,u,rfl,rfl⟩
   ·rw[ZI] at h;exact SeqAt.EqAt.str_int x t j u _ _ _ _ h
   ·rw[ZJ] at h;exact wpAny_eqBool_str h
 «strs»:=fun k x t v h=>by
  rcases jO h with ⟨i,u,rfl,e⟩ | ⟨y,u,rfl,e⟩
  ·exact nomatch e
  ·injection e with e1 _
   subst e1;cases v<;>rfl
inductive V where
 | non | bl (b:Bool) | int (i:Int) | str (x:Str) | byt (b:Array UInt8) | flt (b:UInt64) | ref (a:Addr) | ty (n:String)
 deriving DecidableEq
def bK:V->Value->Prop
 | .non,u=>u=Value.none
 | .bl b,u=>u=Value.bool b
 | .int i,u=>∃ t,u=Value.int i t
 | .str x,u=>∃ t,u=Value.str x t
 | .byt b,u=>∃ t,u=Value.bytes b t
 | .flt b,u=>∃ t,u=Value.float b t
 | .ref a,u=>u=Value.ref a
 | .ty n,u=>u=Value.type n
abbrev aU:List V->List Value->Prop:=Paired bK
theorem aU.length {xs:List V}{us:List Value}(r:aU xs us):xs.length=us.length:=Paired.length r
theorem aU.get:∀ {xs:List V}{us:List Value}{i:Nat}{x:V},aU xs us->xs[i]?=some x->∃ u,us[i]?=some u/\bK x u
 | _,_,_,_,.nil,e=>by simp at e
 | _,_,0,_,.cons r _,e=>by simp at e;subst e;exact⟨_,rfl,r⟩
 | _,_,i+1,x,.cons _ t,e=>by
  obtain⟨u,h1,h2⟩:=aU.get (i:=i) (x:=x) t (by simpa using e);exact⟨u,by simpa using h1,h2⟩
theorem aU.set {x:V}{u:Value}(r:bK x u):∀ {xs:List V}{us:List Value}(i:Nat),aU xs us->aU (xs.set i x) (us.set i u)
 | _,_,_,.nil=>.nil
 | _,_,0,.cons _ t=>.cons r t
 | _,_,i+1,.cons q t=>.cons q (aU.set r i t)
theorem aU.append:∀ {xs ys:List V}{us ws:List Value},aU xs us->aU ys ws->aU (xs++ys) (us++ws)
 | _,_,_,_,.nil,s=>s
 | _,_,_,_,.cons r t,s=>.cons r (aU.append t s)
theorem aU.none_of:∀ {xs:List V}{us:List Value}{i:Nat},aU xs us->xs[i]?=none->us[i]?=none:=fun {xs us i} r e=>by
 have h1:=r.length;have h2:xs.length<=i:=List.getElem?_eq_none_iff.mp e;exact List.getElem?_eq_none_iff.mpr (by lia)
def FV:Option V->Option Value->Prop
 | some v,some u=>bK v u
 | none,none=>True
 | _,_=>False
def KV {κ:Type}:List (κ × V)->List (κ × Value)->Prop:=Paired fun (p:κ × V) (q:κ × Value)=>p.1=q.1/\bK p.2 q.2
def kV:Key->V
 | .inl i=>.int i
 | .inr x=>.str x
inductive HO where
 /-- a list -/
 | lst (xs : List V)
 /-- a tuple (never changes) -/
 | tup (xs : List V)
 /-- a dict whose keys are ints and texts; one whose keys are tuples of ints and texts (the empty one is both) -/
 | dK (kvs : List (Key × V)) | dT (kvs : List (List Key × V))
 /-- a set of ints: its members, its size -/
 | set (S : Int -> Bool) (n : Nat)
 /-- an instance of the class at C, its dict at dx, its attributes -/
 | ins (C dx : Addr) (fs : List (Str × V))
 /-- the dict of the instance at x -/
 | own (x : Addr)
 /-- the dict of an exception -/
 | xd (fs : List (Str × V))
 /-- a bound method, f of x -/
 | met (f x : Addr)
 /-- a range object lo, lo + 1, .. below hi -/
 | rng (lo hi : Int)
 /-- a thing that is known to the object (the script; a dict while a loop walks it): read, never written while it is so -/
 | frz (o : Obj) (u : HO)
 /-- a code object's table -/
 | tbl (ps : Array Value)
 /-- any other thing, by what is true of its one object (a def of one's own: SetO a S n := HO.ext fun h => ..) -/
 | ext (φ : Heap -> Prop)
 /-- a code object's table that may hold the code q of a lambda at pos, which is tracked as its own -/
 | tbc (pos : Pos) (q : Str)
abbrev Hp:=Addr->Option HO
def upd (H:Hp) (a:Addr) (o:HO):Hp:=fun b=>if b=a then some o else H b
theorem eJ {H:Hp}{a:Addr}{o:HO}:upd H a o a=some o:=by unfold upd;rw[if_pos rfl]
theorem bG {H:Hp}{a b:Addr}{o:HO}(h:b≠a):upd H a o b=H b:=by unfold upd;rw[if_neg h]
theorem gE {H:Hp}{a b:Addr}{o:HO}(h:H a=some o) (h':H b=none):a≠b:=by
 intro e;subst e;rw[h] at h';cases h'
section
variable (P:Program) (w:World)
def dM (H : Hp) (h : Heap) (a : Addr) : HO -> Prop
 | .lst xs => xs.length <= sizeLine /\ ∃ (its : List Value) (n : Nat), aU xs its /\ h.get? a = some { cls := .type "list", data := .seq its.toArray n }
 | .tup xs => xs.length <= sizeLine /\ ∃ its : List Value, aU xs its /\ IsTup h a its.toArray
 | .dK kvs => kvs.length <= sizeLine /\ (a == sysModules) = false /\ ∃ vs, KV kvs vs /\ h.DictOf (uK P w) a vs
 | .dT kvs => kvs.length <= sizeLine /\ (a == sysModules) = false /\ ∃ xs : List (List Key × Addr × Value),
   Paired (fun (p : List Key × V) (q : List Key × Addr × Value) => p.1 = q.1 /\ H q.2.1 = some (.tup (p.1.map kV)) /\ bK p.2 q.2.2) kvs xs /\
   ∃ o es ep, h.get? a = some o /\ o.ExactDict /\ o.data = .dict es ep /\ es.toList = xs.map (entryOfKey (tupleKind (uK P w))) /\ (xs.map (·.1)).Nodup
 | .set S n => h.SetOf (intKind P w) a S n
 | .ins C dx fs => H dx = some (.own a) /\ fs.length <= 1000 /\ dx ≠ a /\ h.get? a = some (PySem.W.instObj C dx) /\
   ∃ mA, h.Ns1 dx mA /\ (∀ f, FV (fs.lookup f) (mA f)) /\ PySem.Within mA (fs.map (·.1))
 | .own _ => ∃ o, h.get? a = some o
 | .xd fs => ∃ mA, h.Ns1 a mA /\ ∀ f, FV (fs.lookup f) (mA f)
 | .rng lo hi => ∃ t u v, h.get? a = some { cls := .type "range", data := .fields #[.int lo t, .int hi u, .int 1 v] }
 | .frz o u => h.get? a = some o /\ dM H h a u
 | .tbl ps => h.get? a = some { cls := .none, data := .fields ps }
 | .met f x => h.get? a = some (PySem.W.methodObj (.ref f) (.ref x))
 | .tbc pos q => ∃ ps : Array Value, h.get? a = some { cls := .none, data := .fields ps } /\ TriplesOk ps.toList /\ (codeAmong pos ps.toList = none \/ ∃ c oc vs t, codeAmong pos ps.toList = some (.ref c) /\ H c = some (.own a) /\ h.get? c = some oc /\ oc.data = .fields vs /\ vs[1]? = some (.str q t))
 | .ext φ => φ h /\ (∃ o, h.get? a = some o) /\ ∀ h1 h2 : Heap, φ h1 -> (∀ o, h1.get? a = some o -> h2.get? a = some o) -> φ h2
def HOk (H:Hp) (h:Heap):Prop:=∀ a o,H a=some o->dM P w H h a o
end
section
variable {P:Program}{w:World}{H H':Hp}{h h':Heap}{a:Addr}{o:HO}
theorem dM.lt (x:dM P w H h a o):a<h.objs.size:=by
 cases o with
 | lst xs=>obtain⟨_,_,_,_,e⟩:=x;exact aJ9 e
 | tup xs=>obtain⟨_,_,_,p⟩:=x;exact p.lt
 | dK kvs=>obtain⟨_,_,_,_,o,_,_,e,_⟩:=x;exact aJ9 e
 | dT kvs=>obtain⟨_,_,_,_,o,_,_,e,_⟩:=x;exact aJ9 e
 | set S n=>obtain⟨o,_,_,_,e,_⟩:=x;exact aJ9 e
 | ins C dx fs=>obtain⟨_,_,_,e,_⟩:=x;exact aJ9 e
 | own y=>obtain⟨_,e⟩:=x;exact aJ9 e
 | xd fs=>obtain⟨_,⟨_,_,_,e,_⟩,_⟩:=x;exact aJ9 e
 | rng lo hi=>obtain⟨_,_,_,e⟩:=x;exact aJ9 e
 | frz ob u=>obtain⟨e,_⟩:=x;exact aJ9 e
 | tbl ps=>exact aJ9 (show h.get? a=some _ from x)
 | met f y=>exact aJ9 (show h.get? a=some _ from x)
 | ext φ=>obtain⟨_,⟨_,e⟩,_⟩:=x;exact aJ9 e
 | tbc pos q=>obtain⟨_,e,_⟩:=x;exact aJ9 e
theorem Paired.mapP {α β:Type}{F G:α->β->Prop}:∀ {l₁:List α}{l₂:List β},Paired F l₁ l₂->(∀ a b,F a b->G a b)->Paired G l₁ l₂
 | _,_,.nil,_=>.nil
 | _,_,.cons r t,f=>.cons (f _ _ r) (Paired.mapP t f)
theorem dM.stay (x:dM P w H h a o) (k:∀ b u,(b=a\/H b=some (.own a))->h.get? b=some u->h'.get? b=some u)
  (ho:∀ b,H b=some (.own a)->H' b=some (.own a)) (ht:∀ b xs,H b=some (.tup xs)->H' b=some (.tup xs)):dM P w H' h' a o:=by
 induction o with
 | lst xs=>obtain⟨z,its,n,r,e⟩:=x;exact⟨z,its,n,r,k _ _ (.inl rfl) e⟩
 | tup xs=>obtain⟨z,its,r,ob,e,c⟩:=x;exact⟨z,its,r,ob,k _ _ (.inl rfl) e,c⟩
 | dK kvs=>obtain⟨z,y,vs,r,ob,es,ep,e,c⟩:=x;exact⟨z,y,vs,r,ob,es,ep,k _ _ (.inl rfl) e,c⟩
 | dT kvs=>
  obtain⟨z,y,xs,r,ob,es,ep,e,c⟩:=x;exact⟨z,y,xs,Paired.mapP r fun p q z=>⟨z.1,ht _ _ z.2.1,z.2.2⟩,ob,es,ep,k _ _ (.inl rfl) e,c⟩
 | set S n=>obtain⟨ob,es,ep,t,e,c⟩:=x;exact⟨ob,es,ep,t,k _ _ (.inl rfl) e,c⟩
 | ins C dx fs=>
  obtain⟨d,z,ne,e,mA,⟨od,es,ep,e2,c⟩,r⟩:=x;exact⟨ho _ d,z,ne,k _ _ (.inl rfl) e,mA,⟨od,es,ep,k _ _ (.inr d) e2,c⟩,r⟩
 | own y=>obtain⟨ob,e⟩:=x;exact⟨ob,k _ _ (.inl rfl) e⟩
 | xd fs=>obtain⟨mA,⟨od,es,ep,e,c⟩,r⟩:=x;exact⟨mA,⟨od,es,ep,k _ _ (.inl rfl) e,c⟩,r⟩
 | rng lo hi=>obtain⟨t,u,v,e⟩:=x;exact⟨t,u,v,k _ _ (.inl rfl) e⟩
 | frz ob u ih=>obtain⟨e,q⟩:=x;exact⟨k _ _ (.inl rfl) e,ih q⟩
 | tbl ps=>
  have e:h.get? a=some { cls:=.none,data:=.fields ps }:=x;show h'.get? a=some { cls:=.none,data:=.fields ps };exact k a _ (.inl rfl) e
 | met f y=>
  have e:h.get? a=some (PySem.W.methodObj (.ref f) (.ref y)):=x;show h'.get? a=some (PySem.W.methodObj (.ref f) (.ref y));exact k a _ (.inl rfl) e
 | ext φ=>obtain⟨p,⟨o,e⟩,st⟩:=x;exact⟨st _ _ p fun o q=>k _ _ (.inl rfl) q,⟨o,k _ _ (.inl rfl) e⟩,st⟩
 | tbc pos q=>
  obtain⟨ps,e,t,r⟩:=x;refine⟨ps,k _ _ (.inl rfl) e,t,?_⟩;rcases r with r | ⟨c,oc,vs,t,r1,r2,r3,r4,r5⟩
  ·exact .inl r
  ·exact .inr ⟨c,oc,vs,t,r1,ho _ r2,k _ _ (.inr r2) r3,r4,r5⟩
theorem HOk.lt (x:HOk P w H h) (e:H a=some o):a<h.objs.size:=(x a o e).lt
theorem HOk.fresh (x:HOk P w H h) (e:h.objs.size<=a):H a=none:=by
 cases q:H a with
 | none=>rfl
 | some u=>exact absurd (aIw (x.lt q) e) (aKx _)
theorem HOk.kept (x:HOk P w H h) (k:∀ b u,h.get? b=some u->h'.get? b=some u):HOk P w H h':=fun a o e=>
 (x a o e).stay (fun b u _ q=>k b u q) (fun _ q=>q) fun _ _ q=>q
theorem HOk.laid (x:HOk P w H h) (k:∀ b u,h.get? b=some u->h'.get? b=some u) (hp:h.objs.size<=a) (new:dM P w (upd H a o) h' a o):HOk P w (upd H a o) h':=fun b u e=>by
 have hn:=x.fresh hp
 by_cases hb:b=a
 ·subst hb;rw[eJ] at e;cases e;exact new
 ·rw[bG hb] at e
  exact (x b u e).stay (fun c v _ q=>k c v q) (fun c q=>by rw[bG (gE q hn)];exact q) fun c xs q=>by rw[bG (gE q hn)];exact q
end
def Rd (H:Hp) (a:Addr) (u:HO):Prop:=H a=some u\/∃ o,H a=some (.frz o u)
theorem Rd.ok {P:Program}{w:World}{H:Hp}{h:Heap}{a:Addr}{u:HO}(r:Rd H a u) (x:HOk P w H h):dM P w H h a u:=by
 rcases r with r | ⟨o,r⟩
 ·exact x a u r
 ·obtain⟨_,q⟩:=x a _ r
  exact q
def Mut:Option HO->Prop
 | some (.lst _)=>True
 | some (.dK _)=>True
 | some (.dT _)=>True
 | some (.set _ _)=>True
 | some (.ins _ _ _)=>True
 | some (.ext _)=>True
 | _=>False
section
variable {P:Program}{w:World}{H:Hp}{h h':Heap}{x e:Addr}{o':HO}
theorem HOk.write (ok:HOk P w H h) (mu:Mut (H x)) (he:e=x\/H e=some (.own x)) (k:∀ b u,b≠e->h.get? b=some u->h'.get? b=some u) (heo:∃ u,h'.get? e=some u)
  (new:dM P w (upd H x o') h' x o'):HOk P w (upd H x o') h':=fun b u q=>by
 have nown:∀ c y,H c=some (.own y)->c≠x:=fun c y r z=>by subst z;rw[r] at mu;exact mu
 have ntup:∀ c xs,H c=some (.tup xs)->c≠x:=fun c xs r z=>by subst z;rw[r] at mu;exact mu
 by_cases hb:b=x
 ·subst hb;rw[eJ] at q;cases q;exact new
 ·rw[bG hb] at q
  by_cases hbe:b=e
  ·have q':H b=some (.own x):=by
    rcases he with z | z
    ·exact absurd (hbe.trans z) hb
    ·rw[hbe];exact z
   rw[q] at q';cases q';obtain⟨v,hv⟩:=heo;exact⟨v,by rw[hbe];exact hv⟩
  ·refine (ok b u q).stay (fun c v hc r=>k c v ?_ r) (fun c r=>by rw[bG (nown c b r)];exact r) fun c xs r=>by rw[bG (ntup c xs r)];exact r
   rcases hc with rfl | hc
   ·exact hbe
   ·rintro rfl
    rcases he with z | z
    ·exact nown c b hc z
    ·rw[hc] at z;cases z;exact hb rfl
end
structure Un (fs ex:List Addr) (H H':Hp) (h h':Heap):Prop where
 keep:∀ b o,h.get? b=some o->H b=none->b ∉ fs->b ∉ ex->h'.get? b=some o
 slot:∀ b o,h.get? b=some o->H b=none->b∈fs->b ∉ ex->∃ sl,h'.get? b=some { o with slots:=sl }
 free:∀ b o,h.get? b=some o->H b=none->b ∉ ex->H' b=none
 there:∀ b o,h.get? b=some o->b ∉ ex->∃ o',h'.get? b=some o'
 tups:∀ b xs,H b=some (.tup xs)->H' b=some (.tup xs)
 frzs:∀ b o u,H b=some (.frz o u)->H' b=some (.frz o u)
 tbls:∀ b ps,H b=some (.tbl ps)->∃ more,H' b=some (.tbl (ps++more))
section
variable {fs fs' ex ex':List Addr}{H H1 H2:Hp}{h h1 h2 h':Heap}{a x e:Addr}{o:HO}
theorem Un.any (u:Un fs ex H H1 h h1) {b:Addr}{ob:Obj}(q:h.get? b=some ob) (n:H b=none) (hx:b ∉ ex):∃ sl,h1.get? b=some { ob with slots:=sl }:=by
 by_cases hb:b∈fs
 ·exact u.slot b ob q n hb hx
 ·exact⟨ob.slots,u.keep b ob q n hb hx⟩
theorem Un.kept (k:∀ b u,h.get? b=some u->h'.get? b=some u):Un fs ex H H h h':=
 ⟨fun b ob q _ _ _=>k b ob q,fun b ob q _ _ _=>⟨ob.slots,k b ob q⟩,fun _ _ _ n _=>n,fun b ob q _=>⟨ob,k b ob q⟩,fun _ _ q=>q,fun _ _ _ q=>q,fun _ ps q=>⟨#[],by rw[q];simp⟩⟩
theorem Un.refl:Un fs ex H H h h:=Un.kept fun _ _ q=>q
theorem Un.laid (k:∀ b u,h.get? b=some u->h'.get? b=some u) (hp:h.objs.size<=a) (hn:H a=none):Un fs ex H (upd H a o) h h' where
 keep:=fun b u q _ _ _=>k b u q
 slot:=fun b u q _ _ _=>⟨u.slots,k b u q⟩
 free:=fun b u q n _=>by rw[bG (aL5 (aIw (aJ9 q) hp))];exact n
 there:=fun b u q _=>⟨u,k b u q⟩
 tups:=fun b xs q=>by rw[bG (gE q hn)];exact q
 frzs:=fun b u xs q=>by rw[bG (gE q hn)];exact q
 tbls:=fun b ps q=>⟨#[],by rw[bG (gE q hn),q];simp⟩
theorem Un.write (mu:Mut (H x)) (he:e=x\/H e=some (.own x)) (k:∀ b u,b≠e->h.get? b=some u->h'.get? b=some u) (heo:∃ u,h'.get? e=some u):Un fs ex H (upd H x o) h h':=by
 have hx:∀ b,H b=none->b≠x:=fun b n z=>by subst z;rw[n] at mu;exact mu
 have hb:∀ b,H b=none->b≠e:=fun b n z=>by
  subst z;rcases he with r | r
  ·exact hx b n r
  ·rw[n] at r;cases r
 have hm:∀ b u,H b=some u->¬ Mut (some u)->b≠x:=fun b u q nm z=>by subst z;rw[q] at mu;exact nm mu
 refine⟨fun b u q n _ _=>k b u (hb b n) q,fun b u q n _ _=>⟨u.slots,k b u (hb b n) q⟩,fun b u q n _=>by rw[bG (hx b n)];exact n,fun b u q _=>?_,
  fun b xs q=>by rw[bG (hm b _ q fun z=>z)];exact q,fun b u xs q=>by rw[bG (hm b _ q fun z=>z)];exact q,fun b ps q=>⟨#[],by rw[bG (hm b _ q fun z=>z),q];simp⟩⟩
 by_cases hbe:b=e
 ·subst hbe;exact heo
 ·exact⟨u,k b u hbe q⟩
end
def trk (h:Heap) (H:Hp):List Addr:=(List.range h.objs.size).filter fun a=>(H a).isSome
def jN (h:Heap) (H:Hp):Heap:=PySem.W.hideAll h (trk h H)
theorem YI (h:Heap) (H:Hp):(jN h H).objs.size=h.objs.size:=PySem.W.hideAll_size _ _
theorem YH {h:Heap}{H:Hp}{b:Addr}{o:Obj}(e:h.get? b=some o) (n:H b=none):(jN h H).get? b=some o:=
 PySem.W.hideAll_get _ e fun hm=>by
  have q:(H b).isSome=true:=(aKi.mp hm).2;rw[n] at q;simp at q
theorem aAk {h:Heap}{H:Hp}{b:Addr}{o:Obj}(e:(jN h H).get? b=some o):h.get? b=some o/\H b=none:=by
 have e':h.get? b=some o:=PySem.W.of_hideAll (trk h H) e;refine⟨e',?_⟩;cases q:H b with
 | none=>rfl
 | some x=>
  have hm:b∈trk h H:=aKi.mpr ⟨aIv.mpr (aJ9 e'),by simp[q]⟩;have z:(jN h H).get? b=none:=PySem.W.hideAll_none (trk h H) hm;rw[z] at e;cases e
def RN (g h:Heap) (L:Addr):List (Addr × Obj):=(List.range h.objs.size).filterMap fun a=>if a=L\/(g.get? a).isSome=true then none else (h.get? a).map fun o=>(a,o)
def rest (g h:Heap) (L d:Addr):List (Addr × Obj):=(RN g h L).filter fun p=>decide (p.1≠d)
structure Mod (K:PySem.W.Frag) (mg:Str->Option Value) (base:Heap):Prop where
 kin:K.In base
 glob:base.Ns mainGlobals mg
 blt:∃ mb,base.Ns builtinsNs mb/\∀ x:Str,x ≠ "__name__" -> mb x=bootBuiltins x
 nolimit:base.NoLimit
 nodig:base.NoDigits
structure Cx where
 prog:Program
 w:World
 K:PySem.W.Frag
 mg:Str->Option Value
 base:Heap
 A:Around
 N:List Str
 s₀:Shared
 H₀:Hp
 env:Env
 outer:List Env
 stack:List Env
 ex:List Addr
 fn:Str->Bool
 calm:Bool
 pn:List (Addr × Obj)
 xe:Value->Shared->Prop
def frs (l:List Env):List Addr:=l.filterMap (·.frame)
abbrev Cx.fs (X:Cx):List Addr:=frs X.outer
def Vis (sc:Scope) (x:Str):Prop:=sc.names.lookup x=some .local\/sc.names.lookup x=some .cell\/sc.names.lookup x=some .free
def Loc (sc:Scope) (x:Str):Prop:=sc.names.lookup x=some .local\/sc.names.lookup x=some .cell
def RG (env:Env) (h:Heap) (m:Str->Option Value) (x:Str) (u:Value):Prop:=
 (env.kindOf x=some .local/\m x=some u)\/((env.kindOf x=some .cell\/env.kindOf x=some .free)/\∃ c,env.cells.lookup x=some c/\h.IsCell c (some u))
structure Cx.Ok (X:Cx):Prop where
 mod:Mod X.K X.mg X.base
 kind:X.env.scope.kind=.function
 glob:X.env.globals=mainGlobals
 blt:X.env.builtins=builtinsNs
 above:X.s₀.heap.objs.size<=X.env.locals
 inj:∀ x y c,X.env.cells.lookup x=some c->X.env.cells.lookup y=some c->x=y
 has:∀ x,(X.env.kindOf x=some .cell\/X.env.kindOf x=some .free)->∃ c,X.env.cells.lookup x=some c
 cab:∀ x c,X.fn x=true->X.env.cells.lookup x=some c->X.s₀.heap.objs.size<=c
 hd:X.calm=true->X.A.handled=none
 frames:X.A.frames=some X.stack
 stk:X.stack=X.outer\/(X.stack=X.env::X.outer/\X.env.frame=some X.env.locals)
 exf:∀ b∈X.ex,b≠X.env.locals/\∀ x c,X.env.cells.lookup x=some c->c≠b
 bs:∀ b o,X.base.get? b=some o->X.s₀.heap.get? b=some o/\X.H₀ b=none
 bsz:X.base.objs.size<=X.s₀.heap.objs.size
 noex:∀ b o,X.base.get? b=some o->b ∉ X.ex
 exfs:∀ b∈X.ex,b ∉ X.fs
 funs:X.s₀.heap.FunFrames X.base X.outer
 frf:∀ b∈X.fs,X.H₀ b=none
structure Inv (X:Cx) (pins:List (Addr × Obj)) (σ:List (Option V)) (H:Hp) (s:Shared):Prop where
 ok:X.Ok
 os:s.os=X.s₀.os
 bare:AllBare s.gens
 base:Un X.fs X.ex X.H₀ H X.s₀.heap s.heap
 loc:∃ m,s.heap.Ns X.env.locals m/\∀ (i:Nat) (x:Str) (v:V),X.N[i]?=some x->σ[i]?=some (some v)->Vis X.env.scope x->∃ u,bK v u/\RG X.env s.heap m x u
 cell:∀ x c,X.env.cells.lookup x=some c->∃ v,s.heap.IsCell c v
 free:H X.env.locals=none
 freeC:∀ x c,X.env.cells.lookup x=some c->H c=none
 pin:∀ p∈X.pn++pins,s.heap.get? p.1=some p.2/\H p.1=none/\p.1≠X.env.locals/\p.1 ∉ X.fs/\∀ v,p.2.data≠.cell v
 hok:HOk X.prog X.w H s.heap
 len:σ.length=X.N.length
section
variable {X:Cx}{pins:List (Addr × Obj)}{σ:List (Option V)}{H H':Hp}{s:Shared}{h':Heap}
theorem Cx.Ok.nofr (ok:X.Ok) {b:Addr}{o:Obj}(e:X.base.get? b=some o):b ∉ X.fs:=fun hb=>by
 have:=(ok.funs.mem hb).1;rw[e] at this;cases this
theorem Inv.bs (I:Inv X pins σ H s):∀ b o,X.base.get? b=some o->s.heap.get? b=some o/\H b=none:=fun b o e=>
 ⟨I.base.keep b o (I.ok.bs b o e).1 (I.ok.bs b o e).2 (I.ok.nofr e) (I.ok.noex b o e),I.base.free b o (I.ok.bs b o e).1 (I.ok.bs b o e).2 (I.ok.noex b o e)⟩
theorem Inv.bk (I:Inv X pins σ H s):∀ b o,X.base.get? b=some o->s.heap.get? b=some o:=fun b o e=>(I.bs b o e).1
theorem Inv.mod (I:Inv X pins σ H s):Mod X.K X.mg X.base:=I.ok.mod
theorem Inv.kIn (I:Inv X pins σ H s):X.K.In s.heap:=I.ok.mod.kin.keeps I.bk
theorem Inv.lt (I:Inv X pins σ H s):X.env.locals<s.heap.objs.size:=let ⟨_,hn,_⟩:=I.loc;hn.lt
theorem Inv.sz (I:Inv X pins σ H s):X.s₀.heap.objs.size<=s.heap.objs.size:=aKw I.ok.above (aKu I.lt)
theorem Inv.nofs (I:Inv X pins σ H s) {a:Addr}(h:s.heap.objs.size<=a):a ∉ X.fs:=fun hb=>by
 obtain⟨_,o,ho,_⟩:=I.ok.funs.mem hb;exact absurd (aIw (aJ9 ho) (aKw I.sz h)) (aKx _)
theorem Inv.cne (I:Inv X pins σ H s):∀ x c,X.env.cells.lookup x=some c->c≠X.env.locals:=fun x c e z=>by
 obtain⟨v,o,ho,hd⟩:=I.cell x c e;obtain⟨m,⟨o',es,ep,ho',hd',_⟩,_⟩:=I.loc;rw[z,ho'] at ho;cases ho;rw[hd'] at hd;cases hd
theorem Inv.funs (I:Inv X pins σ H s):s.heap.FunFrames X.base X.outer:=by
 have all:∀ (l:List Env),(∀ b∈frs l,b∈X.fs)->X.s₀.heap.FunFrames X.base l->s.heap.FunFrames X.base l:=by
  intro l
  induction l with
  | nil=>intro _ _;trivial
  | cons env r ih=>
   intro hs hl;obtain⟨hk,⟨L,o,hf,hn,ho,hd⟩,hr⟩:=hl;have hL:L∈X.fs:=hs L (by unfold frs;rw[aJp,hf];exact aIs);obtain⟨sl,e⟩:=I.base.slot L o ho (I.ok.frf L hL) hL fun z=>I.ok.exfs L z hL;exact⟨hk,⟨L,_,hf,hn,e,hd⟩,ih (fun b hb=>hs b (by unfold frs;rw[aJp,hf];exact aIr _ hb)) hr⟩
 exact all X.outer (fun _ hb=>hb) I.ok.funs
theorem Inv.stack (I:Inv X pins σ H s):s.heap.FunFrames X.base X.stack:=by
 rcases I.ok.stk with e | ⟨e,hf⟩
 ·rw[e];exact I.funs
 ·rw[e]
  obtain⟨m,hn,_⟩:=I.loc;refine .cons (by rw[I.ok.kind];decide) hf hn ?_ I.funs;exact Heap.get?_none_of_le (aKw I.ok.bsz I.ok.above)
theorem Inv.stkSub (I:Inv X pins σ H s):∀ b∈frs X.stack,b∈X.env.locals::X.fs:=fun b hb=>by
 rcases I.ok.stk with e | ⟨e,hf⟩
 ·rw[e] at hb;exact aIr _ hb
 ·rw[e] at hb
  unfold frs at hb;rw[aJp,hf] at hb;exact hb
theorem Inv.stkFree (I:Inv X pins σ H s):∀ b∈frs X.stack,H b=none:=fun b hb=>by
 rcases aJ0.mp (I.stkSub b hb) with e | hb
 ·rw[e];exact I.free
 ·obtain⟨_,o,ho,_⟩:=I.ok.funs.mem hb
  exact I.base.free b o ho (I.ok.frf b hb) fun z=>I.ok.exfs b z hb
theorem Inv.step {g':Array GenState}{t':Nat}{d':Drawn}{ch:List Addr}(I:Inv X pins σ H s)
  (hch:∀ b∈ch,(b∈X.ex\/X.s₀.heap.objs.size<=b)/\b≠X.env.locals/\(∀ x c,X.env.cells.lookup x=some c->c≠b)/\∀ p∈X.pn++pins,p.1≠b)
  (keep:∀ b o,b≠X.env.locals->b ∉ X.fs->b ∉ ch->s.heap.get? b=some o->H b=none->h'.get? b=some o)
  (slot:∀ b o,b≠X.env.locals->b∈X.fs->b ∉ ch->s.heap.get? b=some o->H b=none->∃ sl,h'.get? b=some { o with slots:=sl }) (free:∀ b o,b ∉ ch->s.heap.get? b=some o->H b=none->H' b=none)
  (there:∀ b o,b ∉ ch->s.heap.get? b=some o->∃ o',h'.get? b=some o')
  (tups:∀ b xs,H b=some (.tup xs)->H' b=some (.tup xs)) (frzs:∀ b o u,H b=some (.frz o u)->H' b=some (.frz o u)) (tbls:∀ b ps,H b=some (.tbl ps)->∃ more,H' b=some (.tbl (ps++more)))
  (ns:∀ m,s.heap.Ns X.env.locals m->h'.Ns X.env.locals m) (hok:HOk X.prog X.w H' h') (hg:AllBare g'):
  Inv X pins σ H' { s with heap:=h',gens:=g',drawn:=d',toks:=t' }:=by
 have neL:∀ b o,X.s₀.heap.get? b=some o->b≠X.env.locals:=fun b o e=>aL5 (aIw (aJ9 e) I.ok.above);have neC:∀ b o,X.s₀.heap.get? b=some o->b ∉ X.ex->b ∉ ch:=fun b o e hx hb=>by
  rcases (hch b hb).1 with z | z
  ·exact hx z
  ·exact absurd (aIw (aJ9 e) z) (aKx _)
 have cellK:∀ x c,X.env.cells.lookup x=some c->∀ v,s.heap.IsCell c v->h'.IsCell c v:=fun x c e v ⟨o,ho,hd⟩=>by
  have nch:c ∉ ch:=fun z=>(hch c z).2.2.1 x c e rfl
  by_cases hc:c∈X.fs
  ·obtain⟨sl,q⟩:=slot c o (I.cne x c e) hc nch ho (I.freeC x c e)
   exact⟨_,q,hd⟩
  ·exact⟨o,keep c o (I.cne x c e) hc nch ho (I.freeC x c e),hd⟩
 refine⟨I.ok,I.os,hg,⟨fun b o e n hb hx=>?_,fun b o e n hb hx=>?_,fun b o e n hx=>?_,fun b o e hx=>?_,fun b xs e=>tups b xs (I.base.tups b xs e),fun b o xs e=>frzs b o xs (I.base.frzs b o xs e),fun b ps e=>?_⟩,?_,fun x c e=>?_,?_,fun x c e=>?_,fun p hp=>?_,hok,I.len⟩
 ·exact keep b o (neL b o e) hb (neC b o e hx) (I.base.keep b o e n hb hx) (I.base.free b o e n hx)
 ·obtain⟨sl,e1⟩:=I.base.slot b o e n hb hx
  obtain⟨sl',e2⟩:=slot b _ (neL b o e) hb (neC b o e hx) e1 (I.base.free b o e n hx);exact⟨sl',e2⟩
 ·obtain⟨o',e1⟩:=I.base.there b o e hx
  exact free b o' (neC b o e hx) e1 (I.base.free b o e n hx)
 ·obtain⟨o',e1⟩:=I.base.there b o e hx
  exact there b o' (neC b o e hx) e1
 ·obtain⟨m1,e1⟩:=I.base.tbls b ps e
  obtain⟨m2,e2⟩:=tbls b _ e1;exact⟨m1++m2,by rw[e2,Array.append_assoc]⟩
 ·obtain⟨m,hn,hl⟩:=I.loc
  refine⟨m,ns m hn,fun i x v e1 e2 e3=>?_⟩;obtain⟨u,r,l⟩:=hl i x v e1 e2 e3;refine⟨u,r,?_⟩;rcases l with l | ⟨k,c,e,z⟩
  ·exact .inl l
  ·exact .inr ⟨k,c,e,cellK x c e _ z⟩
 ·obtain⟨v,z⟩:=I.cell x c e
  exact⟨v,cellK x c e v z⟩
 ·obtain⟨m,⟨o,_,_,ho,_⟩,_⟩:=I.loc
  exact free _ o (fun z=>(hch _ z).2.1 rfl) ho I.free
 ·obtain⟨v,o,ho,hd⟩:=I.cell x c e
  exact free c o (fun z=>(hch c z).2.2.1 x c e rfl) ho (I.freeC x c e)
 ·obtain⟨e,n,ne,nf,d⟩:=I.pin p hp
  have nch:p.1 ∉ ch:=fun z=>(hch p.1 z).2.2.2 p hp rfl;exact⟨keep p.1 p.2 ne nf nch e n,free p.1 p.2 nch e n,ne,nf,d⟩
theorem Inv.un {t':Nat}(I:Inv X pins σ H s) (u:Un X.fs [] H H' s.heap h') (hok:HOk X.prog X.w H' h'):Inv X pins σ H' { s with heap:=h',toks:=t' }:=by
 obtain⟨m,⟨o,es,ep,ho,r⟩,_⟩:=id I.loc;obtain⟨sl,hL⟩:=u.any ho I.free (by simp);exact I.step (g':=s.gens) (d':=s.drawn) (ch:=[]) (fun _ z=>nomatch z) (fun b o _ hb _ e n=>u.keep b o e n hb (by simp)) (fun b o _ hb _ e n=>u.slot b o e n hb (by simp)) (fun b o _ e n=>u.free b o e n (by simp)) (fun b o _ e=>u.there b o e (by simp)) u.tups u.frzs u.tbls (fun m' hm=>by
  obtain⟨o',es',ep',ho',r'⟩:=hm;rw[ho] at ho';cases ho';exact⟨_,es',ep',hL,r'⟩) hok I.bare
theorem Inv.call {g':Array GenState}{t':Nat}{d':Drawn}{ch:List Addr}(I:Inv X pins σ H s) (u:Un (frs X.stack) ch H H' s.heap h') (hok:HOk X.prog X.w H' h') (hg:AllBare g')
  (hch:∀ b∈ch,(b∈X.ex\/X.s₀.heap.objs.size<=b)/\b≠X.env.locals/\(∀ x c,X.env.cells.lookup x=some c->c≠b)/\∀ p∈X.pn++pins,p.1≠b):
  Inv X pins σ H' { s with heap:=h',gens:=g',drawn:=d',toks:=t' }:=by
 obtain⟨m,⟨o,es,ep,ho,r⟩,_⟩:=id I.loc;obtain⟨sl,hL⟩:=u.any ho I.free fun z=>(hch _ z).2.1 rfl;exact I.step (ch:=ch) hch (fun b o hL hb hc e n=>u.keep b o e n (fun z=>(aJ0.mp (I.stkSub b z)).elim hL hb) hc) (fun b o _ _ hc e n=>u.any e n hc) (fun b o hc e n=>u.free b o e n hc) (fun b o hc e=>u.there b o e hc) u.tups u.frzs u.tbls (fun m' hm=>by
  obtain⟨o',es',ep',ho',r'⟩:=hm;rw[ho] at ho';cases ho';exact⟨_,es',ep',hL,r'⟩) hok hg
theorem Inv.turned {t':Nat}{it:Addr}(I:Inv X pins σ H s) (k:∀ b o,b≠it->s.heap.get? b=some o->h'.get? b=some o) (hn:H it=none) (hL:it≠X.env.locals)
  (h1:it∈X.ex\/X.s₀.heap.objs.size<=it) (h2:∀ x c,X.env.cells.lookup x=some c->c≠it) (h3:∀ p∈X.pn++pins,p.1≠it):Inv X pins σ H { s with heap:=h',toks:=t' }:=by
 have nit:∀ b u,H b=some u->b≠it:=fun b u e z=>by rw[z,hn] at e;cases e
 refine I.step (g':=s.gens) (d':=s.drawn) (ch:=[it]) (fun b hb=>?_) (fun b o _ _ hc e _=>k b o (fun z=>hc (by simp[z])) e) (fun b o _ _ hc e _=>⟨o.slots,k b o (fun z=>hc (by simp[z])) e⟩) (fun _ _ _ _ n=>n)
  (fun b o hc e=>⟨o,k b o (fun z=>hc (by simp[z])) e⟩) (fun _ _ e=>e) (fun _ _ _ e=>e) (fun b ps e=>⟨#[],by rw[e];simp⟩) (fun m hm=>?_) (fun b u e=>?_) I.bare
 ·have e:b=it:=by simpa using hb
  subst e;exact⟨h1,hL,h2,h3⟩
 ·obtain⟨o,es,ep,ho,r⟩:=hm
  exact⟨o,es,ep,k _ o (Ne.symm hL) ho,r⟩
 ·refine (I.hok b u e).stay (fun c v hc q=>k c v ?_ q) (fun _ q=>q) fun _ _ q=>q
  rcases hc with z | z
  ·rw[z];exact nit b u e
  ·exact nit c _ z
theorem Inv.tok (I:Inv X pins σ H s) (t:Nat):Inv X pins σ H { s with toks:=t }:=I.un (h':=s.heap) (t':=t) Un.refl I.hok
theorem Inv.kept {t':Nat}(I:Inv X pins σ H s) (k:∀ b u,s.heap.get? b=some u->h'.get? b=some u):Inv X pins σ H { s with heap:=h',toks:=t' }:=I.un (Un.kept k) (I.hok.kept k)
theorem Inv.laid {a:Addr}{o:HO}{t':Nat}(I:Inv X pins σ H s) (k:∀ b u,s.heap.get? b=some u->h'.get? b=some u) (hp:s.heap.objs.size<=a) (new:dM X.prog X.w (upd H a o) h' a o):
  Inv X pins σ (upd H a o) { s with heap:=h',toks:=t' }:=I.un (Un.laid k hp (I.hok.fresh hp)) (I.hok.laid k hp new)
theorem Inv.write {x e:Addr}{o:HO}{t':Nat}(I:Inv X pins σ H s) (mu:Mut (H x)) (he:e=x\/H e=some (.own x)) (k:∀ b u,b≠e->s.heap.get? b=some u->h'.get? b=some u) (heo:∃ u,h'.get? e=some u)
  (new:dM X.prog X.w (upd H x o) h' x o):Inv X pins σ (upd H x o) { s with heap:=h',toks:=t' }:=I.un (Un.write mu he k heo) (I.hok.write mu he k heo new)
theorem Inv.pins_of {pins':List (Addr × Obj)}(I:Inv X pins σ H s) (h:∀ p∈pins',s.heap.get? p.1=some p.2/\H p.1=none/\p.1≠X.env.locals/\p.1 ∉ X.fs/\∀ v,p.2.data≠.cell v):Inv X pins' σ H s:=
 ⟨I.ok,I.os,I.bare,I.base,I.loc,I.cell,I.free,I.freeC,fun p hp=>(aKf.mp hp).elim (fun z=>I.pin p (aKg _ z)) (h p),I.hok,I.len⟩
theorem KG {N:List Str}(hN:N.Nodup) {i j:Nat}{x:Str}(a:N[i]?=some x) (b:N[j]?=some x):i=j:=by
 obtain⟨h1,e1⟩:=aIt.mp a;obtain⟨h2,e2⟩:=aIt.mp b;exact (List.getElem_inj hN).mp (e1.trans e2.symm)
theorem NC {M:Model}{A:Around}{E:Value->Shared->Prop}{i:Nat}{x:Str}{v:V}{u:Value}{Q:Unit->Shared->Prop}(I:Inv X pins σ H s) (hN:X.N.Nodup) (hi:X.N[i]?=some x) (hx:Loc X.env.scope x) (r:bK v u)
  (h:∀ s',Inv X pins (σ.set i (some v)) H s'->(∃ a,Heap.SameBut a s.heap s'.heap/\(a=X.env.locals\/X.env.cells.lookup x=some a))->Q () s') (hf:X.fn x=true\/X.env.scope.names.lookup x=some .local:=by first | exact .inl rfl | exact .inr rfl | assumption):wpAny M A (storeName X.env x u) Q E s:=by
 obtain⟨m,hn,hl⟩:=id I.loc;have hcls:(X.env.scope.kind == .class||(X.env.scope.kind == .module&&X.env.locals != X.env.globals))=false:=by rw[I.ok.kind];rfl
 have hiσ:i<σ.length:=by rw[I.len];exact (aIt.mp hi).1
 have cne:=I.cne;have tracked:∀ {a:Addr} {h':Heap},(∃ o,s.heap.get? a=some o/\H a=none)->Heap.SameBut a s.heap h'->HOk X.prog X.w H h':=fun {a h'} ha hs b ob e=>by
  obtain⟨_,_,hfree⟩:=ha;refine (I.hok b ob e).stay (fun c w' hc q=>(hs.2 c ?_).trans q) (fun _ q=>q) fun _ _ q=>q;rintro rfl;rcases hc with rfl | hc
  ·rw[hfree] at e;cases e
  ·rw[hfree] at hc;cases hc
 rcases hx with hk | hk
 ·refine wpAny_storeName_local hk hn (fun h' hn' hs=>?_) hcls
  obtain⟨oL,_,_,hoL,_⟩:=id hn;refine h _ ⟨I.ok,I.os,I.bare,⟨fun b o e n hb hx=>?_,fun b o e n hb hx=>?_,I.base.free,fun b o e hx=>?_,I.base.tups,I.base.frzs,I.base.tbls⟩,⟨_,hn',fun j y v' e1 e2 e3=>?_⟩,fun y c e=>?_,I.free,I.freeC,fun p hp=>?_,tracked ⟨oL,hoL,I.free⟩ hs,by simpa using I.len⟩ ⟨_,hs,.inl rfl⟩
  ·exact (hs.2 b (aL5 (aIw (aJ9 e) I.ok.above))).trans (I.base.keep b o e n hb hx)
  ·obtain⟨sl,e1⟩:=I.base.slot b o e n hb hx
   exact⟨sl,(hs.2 b (aL5 (aIw (aJ9 e) I.ok.above))).trans e1⟩
  ·obtain⟨o',e1⟩:=I.base.there b o e hx
   exact⟨o',(hs.2 b (aL5 (aIw (aJ9 e) I.ok.above))).trans e1⟩
  ·by_cases hj:j=i
   ·subst hj
    rw[hi] at e1;cases e1;rw[aK0 hiσ] at e2;cases e2;exact⟨u,r,.inl ⟨hk,by simp⟩⟩
   ·rw[aIy (Ne.symm hj)] at e2
    obtain⟨u',r',q⟩:=hl j y v' e1 e2 e3;refine⟨u',r',?_⟩;rcases q with ⟨k,e⟩ | ⟨k,c,e,z⟩
    ·refine .inl ⟨k,?_⟩
     have:y≠x:=fun e=>hj (KG hN e1 (e ▸ hi));simp[this,e]
    ·exact .inr ⟨k,c,e,z.sameBut hs (cne y c e)⟩
  ·obtain⟨w',z⟩:=I.cell y c e
   exact⟨w',z.sameBut hs (cne y c e)⟩
  ·obtain⟨e,n,ne,nf,d⟩:=I.pin p hp
   exact⟨(hs.2 p.1 ne).trans e,n,ne,nf,d⟩
 ·have hfn:X.fn x=true:=by
   rcases hf with z | z
   ·exact z
   ·rw[z] at hk;cases hk
  obtain⟨c,hc⟩:=I.ok.has x (.inl hk);obtain⟨w',z⟩:=I.cell x c hc;refine wpAny_storeName_cell I.ok.kind hk hc z (fun h' hc' hs=>?_);obtain⟨oc,hoc,hocd⟩:=id z;refine h { s with heap:=h' } ⟨I.ok,I.os,I.bare,⟨fun b o e n hb hx=>?_,fun b o e n hb hx=>?_,I.base.free,fun b o e hx=>?_,I.base.tups,I.base.frzs,I.base.tbls⟩,⟨m,hn.sameBut hs (Ne.symm (cne x c hc)),fun j y v' e1 e2 e3=>?_⟩,fun y c' e=>?_,I.free,I.freeC,fun p hp=>?_,tracked ⟨oc,hoc,I.freeC x c hc⟩ hs,by simpa using I.len⟩ ⟨c,hs,.inr hc⟩
  ·exact (hs.2 b (aL5 (aIw (aJ9 e) (I.ok.cab x c hfn hc)))).trans (I.base.keep b o e n hb hx)
  ·obtain⟨sl,e1⟩:=I.base.slot b o e n hb hx
   exact⟨sl,(hs.2 b (aL5 (aIw (aJ9 e) (I.ok.cab x c hfn hc)))).trans e1⟩
  ·obtain⟨o',e1⟩:=I.base.there b o e hx
   exact⟨o',(hs.2 b (aL5 (aIw (aJ9 e) (I.ok.cab x c hfn hc)))).trans e1⟩
  ·by_cases hj:j=i
   ·subst hj
    rw[hi] at e1;cases e1;rw[aK0 hiσ] at e2;cases e2;exact⟨u,r,.inr ⟨.inl hk,c,hc,hc'⟩⟩
   ·rw[aIy (Ne.symm hj)] at e2
    obtain⟨u',r',q⟩:=hl j y v' e1 e2 e3;refine⟨u',r',?_⟩;rcases q with q | ⟨k,c',e,z'⟩
    ·exact .inl q
    ·refine .inr ⟨k,c',e,z'.sameBut hs ?_⟩
     rintro rfl;exact hj (KG hN e1 (I.ok.inj _ _ _ e hc ▸ hi))
  ·by_cases hcc:c'=c
   ·subst hcc;exact⟨_,hc'⟩
   ·obtain⟨w2,z2⟩:=I.cell y c' e
    exact⟨w2,z2.sameBut hs hcc⟩
  ·obtain⟨e,n,ne,nf,d⟩:=I.pin p hp
   refine⟨(hs.2 p.1 ?_).trans e,n,ne,nf,d⟩;intro q;rw[q,hoc] at e;have q':oc=p.2:=aIo e;exact d w' (by rw[<- q'];exact hocd)
theorem NB {M:Model}{A:Around}{E:Value->Shared->Prop}{i:Nat}{x:Str}{v:V}{u:Value}{Q:Unit->Shared->Prop}(I:Inv X pins σ H s) (hN:X.N.Nodup) (hi:X.N[i]?=some x) (hx:Loc X.env.scope x) (r:bK v u)
  (h:∀ s',Inv X pins (σ.set i (some v)) H s'->Q () s') (hf:X.fn x=true\/X.env.scope.names.lookup x=some .local:=by first | exact .inl rfl | exact .inr rfl | assumption):wpAny M A (storeName X.env x u) Q E s:=
 NC I hN hi hx r (fun s' I' _=>h s' I') hf
theorem Inv.call' {s':Shared}{ch:List Addr}(I:Inv X pins σ H s) (ho:s'.os=s.os) (u:Un (frs X.stack) ch H H' s.heap s'.heap) (hok:HOk X.prog X.w H' s'.heap) (hg:AllBare s'.gens)
  (hch:∀ b∈ch,(b∈X.ex\/X.s₀.heap.objs.size<=b)/\b≠X.env.locals/\(∀ x c,X.env.cells.lookup x=some c->c≠b)/\∀ p∈X.pn++pins,p.1≠b):Inv X pins σ H' s':=by
 obtain⟨h',g',d',t',o'⟩:=s';have e:o'=s.os:=ho;subst e;exact I.call (g':=g') (t':=t') (d':=d') u hok hg hch
end
abbrev XK:=Value->Option Addr->Hp->Prop
abbrev St:=List (Option V)
abbrev VK:=V->Hp->Prop
abbrev TE:=St->Hp->VK->Prop
abbrev TT:=St->Hp->(Bool->Hp->Prop)->Prop
abbrev TA:=St->Hp->(List V->Hp->Prop)->Prop
structure Ends where
 nx:St->Hp->Prop
 rt:VK
 bk:St->Hp->Prop:=fun _ _=>False
 ct:St->Hp->Prop:=fun _ _=>False
abbrev TS:=Ends->St->Hp->Prop
def EP (X:Cx) (pins:List (Addr × Obj)) (σ:St) (Q:VK) (u:Value) (s':Shared):Prop:=∃ v H',Inv X pins σ H' s'/\bK v u/\Q v H'
def TP (X:Cx) (pins:List (Addr × Obj)) (σ:St) (Q:Bool->Hp->Prop) (b:Bool) (s':Shared):Prop:=∃ H',Inv X pins σ H' s'/\Q b H'
def AP (X:Cx) (pins:List (Addr × Obj)) (σ:St) (Q:List V->Hp->Prop) (us:List Value) (s':Shared):Prop:=∃ vs H',Inv X pins σ H' s'/\aU vs us/\Q vs H'
def SP (X:Cx) (pins:List (Addr × Obj)) (D:Ends) (f:Flow) (s':Shared):Prop:=
 match f with
 | .next=>∃ σ' H',Inv X pins σ' H' s'/\D.nx σ' H'
 | .brk=>∃ σ' H',Inv X pins σ' H' s'/\D.bk σ' H'
 | .cont=>∃ σ' H',Inv X pins σ' H' s'/\D.ct σ' H'
 | .ret u=>∃ v σ' H',Inv X pins σ' H' s'/\bK v u/\D.rt v H'
def PE (X:Cx) (e:Expr) (t:TE):Prop:=
 ∀ (pins:List (Addr × Obj)) (s:Shared) (σ:St) (H:Hp) (Q:VK),Inv X pins σ H s->t σ H Q->wpAny (model X.prog X.w) X.A (eval e X.env) (EP X pins σ Q) X.xe s
def PT (X:Cx) (e:Expr) (t:TT):Prop:=
 ∀ (pins:List (Addr × Obj)) (s:Shared) (σ:St) (H:Hp) (Q:Bool->Hp->Prop),Inv X pins σ H s->t σ H Q->wpAny (model X.prog X.w) X.A (isTrue e X.env (eval e X.env)) (TP X pins σ Q) X.xe s
def PW (X:Cx) (e:Expr) (t:TT):Prop:=
 ∀ (whole:Sem Value) (pins:List (Addr × Obj)) (s:Shared) (σ:St) (H:Hp) (Q:Bool->Hp->Prop),Inv X pins σ H s->t σ H Q->wpAny (model X.prog X.w) X.A (isTrue e X.env whole) (TP X pins σ Q) X.xe s
theorem PW.pt {X:Cx}{e:Expr}{t:TT}(h:PW X e t):PT X e t:=h _
def PA (X:Cx) (es:List Expr) (t:TA):Prop:=
 ∀ (pos:Pos) (pins:List (Addr × Obj)) (s:Shared) (σ:St) (H:Hp) (Q:List V->Hp->Prop),Inv X pins σ H s->t σ H Q->wpAny (model X.prog X.w) X.A (spliced (backTo pos (starEach es X.env))) (AP X pins σ Q) X.xe s
def PS (X:Cx) (st:Stmt) (t:TS):Prop:=
 ∀ (pins:List (Addr × Obj)) (s:Shared) (σ:St) (H:Hp) (D:Ends),Inv X pins σ H s->t D σ H->wpAny (model X.prog X.w) X.A (exec st X.env) (SP X pins D) X.xe s
def PSs (X:Cx) (st:List Stmt) (t:TS):Prop:=
 ∀ (pins:List (Addr × Obj)) (s:Shared) (σ:St) (H:Hp) (D:Ends),Inv X pins σ H s->t D σ H->wpAny (model X.prog X.w) X.A (execs st X.env) (SP X pins D) X.xe s
theorem thn {α:Type}{t:Sem α}{Q Q':α->Shared->Prop}{M:Model}{A:Around}{E:Value->Shared->Prop}{s:Shared}(h:wpAny M A t Q E s) (hQ:∀ a s,Q a s->Q' a s):wpAny M A t Q' E s:=wpAny_mono h hQ fun _ _ x=>x
section
variable {X:Cx}
def NH (i:Nat):TE:=fun σ H Q=>∃ v,σ[i]?=some (some v)/\Q v H
def tC (v:V):TE:=fun _ H Q=>Q v H
theorem aCz {i:Nat}{x:Str}{pos:Pos}(hN:X.N[i]?=some x) (hv:Vis X.env.scope x) (hd:(x == ("__debug__" : Str))=false:=by decide) (hcd:(x == ("__classdict__" : Str))=false:=by decide):PE X (.Name x pos) (NH i):=by
 intro pins s σ H Q I h;obtain⟨v,e,h⟩:=h;obtain⟨m,hn,hl⟩:=I.loc;obtain⟨u,r,l⟩:=hl i x v hN e hv;have fin:EP X pins σ Q u s:=⟨v,H,I,r,h⟩;rcases l with ⟨hk,hm⟩ | ⟨hk,c,hc,hcell⟩
 ·exact wpAny_Name (wpAny_loadName_local I.ok.kind hk hn hm fin) hd
 ·rcases hk with hk | hk
  ·exact wpAny_Name (wpAny_loadName_cell I.ok.kind hk hc hcell fin) hd
  ·exact wpAny_Name (wpAny_loadName_free I.ok.kind hk hc hcell fin hcd) hd
theorem aCt {i j pos}:PE X (.Constant (.int i) j pos) (tC (.int i)):=fun _ _ _ H _ I h=>wpAny_Constant_int ⟨.int i,H,I.tok _,⟨_,rfl⟩,h⟩
theorem aCq {b j pos}:PE X (.Constant (.bool b) j pos) (tC (.bl b)):=fun _ _ _ H _ I h=>Constant_bool ⟨.bl b,H,I,rfl,h⟩
theorem aCw {j pos}:PE X (.Constant .none j pos) (tC .non):=fun _ _ _ H _ I h=>Constant_none ⟨.non,H,I,rfl,h⟩
def Gl (X:Cx) (x:Str):Prop:=X.env.kindOf x=some .globalImplicit
theorem ZN {E:Value->Shared->Prop}{pins:List (Addr × Obj)}{s:Shared}{σ:St}{H:Hp}{x:Str}{u:Value}{pos:Pos}{Q:Value->Shared->Prop}(I:Inv X pins σ H s) (hg:Gl X x) (hm:X.mg x=some u) (h:Q u s)
  (hd:(x == ("__debug__" : Str))=false:=by decide):wpAny (model X.prog X.w) X.A (eval (.Name x pos) X.env) Q E s:=
 Calls.Name_function_global I.ok.kind hg (Calls.loadGlobal_global (by rw[I.ok.glob];exact I.mod.glob.keeps I.bk) hm h) hd
theorem nV {E:Value->Shared->Prop}{pins:List (Addr × Obj)}{s:Shared}{σ:St}{H:Hp}{x:Str}{u:Value}{pos:Pos}{Q:Value->Shared->Prop}(I:Inv X pins σ H s) (hg:Gl X x) (hm:X.mg x=none) (hv:bootBuiltins x=some u) (h:Q u s)
  (hn:x ≠ "__name__" := by decide) (hd:(x == ("__debug__" : Str))=false:=by decide):wpAny (model X.prog X.w) X.A (eval (.Name x pos) X.env) Q E s:=by
 obtain⟨mb,h1,h2⟩:=I.mod.blt;exact Calls.Name_function_global I.ok.kind hg (Calls.loadGlobal_builtin (by rw[I.ok.glob];exact I.mod.glob.keeps I.bk) hm (by rw[I.ok.blt];exact h1.keeps I.bk) ((h2 x hn).trans hv) h) hd
theorem aCr {x:Str}{v:V}{u:Value}{pos:Pos}(hg:Gl X x) (hm:X.mg x=none) (hv:bootBuiltins x=some u) (r:bK v u) (hn:x ≠ "__name__" := by decide) (hd:(x == ("__debug__" : Str))=false:=by decide):PE X (.Name x pos) (tC v):=
 fun _ _ _ H _ I h=>nV I hg hm hv ⟨v,H,I,r,h⟩ hn hd
variable {a b:Expr}{ta tb:TE}{pos:Pos}
def tB (t:TE):TT:=fun σ H Q=>t σ H fun x H1=>∃ c,x=.bl c/\Q c H1
variable {tA tB':TT}{rest:List Expr}
def aFa (t u:TT):TT:=fun σ H Q=>t σ H fun c H1=>if c=true then u σ H1 Q else Q false H1
def tOr (t u:TT):TT:=fun σ H Q=>t σ H fun c H1=>if c=true then Q true H1 else u σ H1 Q
def aFo (t:TT):TT:=fun σ H Q=>t σ H fun c H1=>Q (!c) H1
theorem aDn (ha:PT X a tA):PW X (.BoolOp .And [a] pos) tA:=by
 intro wh pins s σ H Q I h;refine isTrue_and (thn (ha pins s σ H Q I h) fun c s1 e=>?_);cases c with
 | true=>exact isTrue_and_nil e
 | false=>exact e
theorem aDp (ha:PT X a tA):PW X (.BoolOp .Or [a] pos) tA:=by
 intro wh pins s σ H Q I h;refine isTrue_or (thn (ha pins s σ H Q I h) fun c s1 e=>?_);cases c with
 | false=>exact isTrue_or_nil e
 | true=>exact e
theorem aDm (ha:PT X a tA) (hb:PW X (.BoolOp .And (b::rest) pos) tB'):PW X (.BoolOp .And (a::b::rest) pos) (aFa tA tB'):=by
 intro wh pins s σ H Q I h;refine isTrue_and (thn (ha pins s σ H _ I h) fun c s1 ⟨H1,I1,q1⟩=>?_);cases c with
 | true=>exact hb wh pins s1 σ H1 Q I1 q1
 | false=>exact⟨H1,I1,q1⟩
theorem aDo (ha:PT X a tA) (hb:PW X (.BoolOp .Or (b::rest) pos) tB'):PW X (.BoolOp .Or (a::b::rest) pos) (tOr tA tB'):=by
 intro wh pins s σ H Q I h;refine isTrue_or (thn (ha pins s σ H _ I h) fun c s1 ⟨H1,I1,q1⟩=>?_);cases c with
 | true=>exact⟨H1,I1,q1⟩
 | false=>exact hb wh pins s1 σ H1 Q I1 q1
theorem aDk (ha:PT X a tA):PT X (.UnaryOp .Not a pos) (aFo tA):=by
 intro pins s σ H Q I h;exact isTrue_not (ha pins s σ H (fun c H1=>Q (!c) H1) I h)
def aFb (ta tb:TE):TE:=fun σ H Q=>ta σ H fun x H1=>∃ c,x=.bl c/\if c=true then tb σ H1 Q else Q (.bl false) H1
theorem aCx {op}{t:TE}(h:PE X a t):PE X (.BoolOp op [a] pos) t:=fun pins s σ H Q I hw=>BoolOp_one (h pins s σ H Q I hw)
theorem aCp (ha:PE X a ta) (hb:PE X (.BoolOp .And (b::rest) pos) tb):PE X (.BoolOp .And (a::b::rest) pos) (aFb ta tb):=by
 intro pins s σ H Q I h;refine BoolOp_and (thn (ha pins s σ H _ I h) fun v s1 ⟨x,H1,I1,r1,q1⟩=>?_);obtain⟨c,rfl,q1⟩:=q1;cases r1;refine wpAny_truthy_bool ?_;cases c with
 | true=>exact hb pins s1 σ H1 Q I1 q1
 | false=>exact⟨.bl false,H1,I1,rfl,q1⟩
def tIf (t:TT) (ta tb:TE):TE:=fun σ H Q=>t σ H fun c H1=>if c=true then ta σ H1 Q else tb σ H1 Q
theorem aCs {c:Expr}(hc:PT X c tA) (ha:PE X a ta) (hb:PE X b tb):PE X (.IfExp c a b pos) (tIf tA ta tb):=by
 intro pins s σ H Q I h;refine wpAny_IfExp (thn (hc pins s σ H _ I h) fun d s1 ⟨H1,I1,q1⟩=>?_);cases d with
 | true=>exact ha pins s1 σ H1 Q I1 q1
 | false=>exact hb pins s1 σ H1 Q I1 q1
end
def SqL (K:PySem.W.Frag) (H:Hp) (a:Addr) (xs:List V):Prop:=
 Rd H a (.lst xs) \/
  ∃ (o:Obj) (its:Array Value) (n:Nat),K.lookup a=some o/\o.cls=.type "list" /\ o.dict=none/\o.data=.seq its n/\its.size<=sizeLine/\aU xs its.toList
def SqT (K:PySem.W.Frag) (H:Hp) (a:Addr) (xs:List V):Prop:=
 Rd H a (.tup xs) \/
  ∃ (o:Obj) (its:Array Value) (n:Nat),K.lookup a=some o/\o.cls=.type "tuple" /\ o.data=.seq its n/\its.size<=sizeLine/\aU xs its.toList
def RK:Value->Option V
 | .none=>some .non
 | .bool b=>some (.bl b)
 | .int i _=>some (.int i)
 | .str x _=>some (.str x)
 | .bytes b _=>some (.byt b)
 | .float b _=>some (.flt b)
 | .ref a=>some (.ref a)
 | .type n=>some (.ty n)
 | _=>none
theorem bK.abs {x:V}{u:Value}(r:bK x u):RK u=some x:=by
 cases x with
 | non=>cases r;rfl
 | bl _=>cases r;rfl
 | int _=>obtain⟨t,rfl⟩:=r;rfl
 | str _=>obtain⟨t,rfl⟩:=r;rfl
 | byt _=>obtain⟨t,rfl⟩:=r;rfl
 | flt _=>obtain⟨t,rfl⟩:=r;rfl
 | ref _=>cases r;rfl
 | ty _=>cases r;rfl
theorem bK.inj {x y:V}{u:Value}(r:bK x u) (q:bK y u):x=y:=aIo (r.abs.symm.trans q.abs)
theorem aU.inj:∀ {xs ys:List V}{us:List Value},aU xs us->aU ys us->xs=ys
 | _,_,_,.nil,.nil=>rfl
 | _,_,_,.cons r t,.cons r' t'=>by rw[r.inj r',aU.inj t t']
section
variable {X:Cx}{pins:List (Addr × Obj)}{σ:St}{H:Hp}{s:Shared}{a:Addr}{xs ys:List V}
theorem SqL.of {K:PySem.W.Frag}(h:H a=some (.lst xs)):SqL K H a xs:=.inl (.inl h)
theorem Inv.list (I:Inv X pins σ H s) (h:SqL X.K H a xs):∃ its:List Value,aU xs its/\PlainL s.heap a its.toArray/\xs.length<=sizeLine:=by
 rcases h with h | ⟨o,its,n,hk,hc,hd,hs,hz,r⟩
 ·obtain⟨z,its,n,r,e⟩:=h.ok I.hok
  exact⟨its,r,⟨_,n,e,rfl,rfl,rfl⟩,z⟩
 ·refine⟨its.toList,r,⟨o,n,I.kIn a o hk,hc,hd,by simpa using hs⟩,?_⟩
  have e:=r.length;simp only[Array.length_toList] at e;lia
theorem Inv.tuple (I:Inv X pins σ H s) (h:SqT X.K H a xs):∃ its:List Value,aU xs its/\IsTup s.heap a its.toArray/\xs.length<=sizeLine:=by
 rcases h with h | ⟨o,its,n,hk,hc,hs,hz,r⟩
 ·obtain⟨z,its,r,p⟩:=h.ok I.hok
  exact⟨its,r,p,z⟩
 ·refine⟨its.toList,r,⟨o,I.kIn a o hk,hc,n,by simpa using hs⟩,?_⟩
  have e:=r.length;simp only[Array.length_toList] at e;lia
theorem Inv.list_inj (I:Inv X pins σ H s) (h:SqL X.K H a xs) (h':SqL X.K H a ys):xs=ys:=by
 obtain⟨its,r,⟨o,n,e,_,_,d⟩,_⟩:=I.list h;obtain⟨its',r',⟨o',n',e',_,_,d'⟩,_⟩:=I.list h';rw[e] at e';cases e';rw[d] at d'
 injection d' with d1 _
 have:its=its':=by simpa using congrArg Array.toList d1
 subst this;exact r.inj r'
theorem Inv.tuple_inj (I:Inv X pins σ H s) (h:SqT X.K H a xs) (h':SqT X.K H a ys):xs=ys:=by
 obtain⟨its,r,⟨o,e,_,n,d⟩,_⟩:=I.tuple h;obtain⟨its',r',⟨o',e',_,n',d'⟩,_⟩:=I.tuple h';rw[e] at e';cases e';rw[d] at d'
 injection d' with d1 _
 have:its=its':=by simpa using congrArg Array.toList d1
 subst this;exact r.inj r'
end
abbrev Cx.wish (X:Cx) (E:Value->Shared->Prop):Cx:={ X with xe:=E }
abbrev Cx.nox (X:Cx):Cx:=X.wish fun _ _=>False
theorem Cx.Ok.wish {X:Cx}(ok:X.Ok) (E:Value->Shared->Prop):(X.wish E).Ok:=
 ⟨ok.mod,ok.kind,ok.glob,ok.blt,ok.above,ok.inj,ok.has,ok.cab,ok.hd,ok.frames,ok.stk,ok.exf,ok.bs,ok.bsz,ok.noex,ok.exfs,ok.funs,ok.frf⟩
theorem Cx.Ok.unwish {X:Cx}{E:Value->Shared->Prop}(ok:(X.wish E).Ok):X.Ok:=
 ⟨ok.mod,ok.kind,ok.glob,ok.blt,ok.above,ok.inj,ok.has,ok.cab,ok.hd,ok.frames,ok.stk,ok.exf,ok.bs,ok.bsz,ok.noex,ok.exfs,ok.funs,ok.frf⟩
section
variable {X:Cx}{pins:List (Addr × Obj)}{σ:St}{H:Hp}{s:Shared}{E:Value->Shared->Prop}
theorem Inv.wish (I:Inv X pins σ H s) (E:Value->Shared->Prop):Inv (X.wish E) pins σ H s:=⟨I.ok.wish E,I.os,I.bare,I.base,I.loc,I.cell,I.free,I.freeC,I.pin,I.hok,I.len⟩
theorem Inv.unwish (I:Inv (X.wish E) pins σ H s):Inv X pins σ H s:=⟨I.ok.unwish,I.os,I.bare,I.base,I.loc,I.cell,I.free,I.freeC,I.pin,I.hok,I.len⟩
theorem SP.unwish {D:Ends}{f:Flow}{s':Shared}(h:SP (X.wish E) pins D f s'):SP X pins D f s':=by
 cases f with
 | next=>obtain⟨σ',H',I,q⟩:=h;exact⟨σ',H',I.unwish,q⟩
 | brk=>obtain⟨σ',H',I,q⟩:=h;exact⟨σ',H',I.unwish,q⟩
 | cont=>obtain⟨σ',H',I,q⟩:=h;exact⟨σ',H',I.unwish,q⟩
 | ret u=>obtain⟨v,σ',H',I,r,q⟩:=h;exact⟨v,σ',H',I.unwish,r,q⟩
theorem PSs.nox {st:List Stmt}{t:TS}(h:PSs X.nox st t):PSs X st t:=fun pins s σ H D I hw=>
 wpAny_mono (h pins s σ H D (I.wish _) hw) (fun _ _ q=>q.unwish) fun _ _ z=>False.elim z
end
section
variable {X:Cx}{st:Stmt}{rest:List Stmt}{t u:TS}{e:Expr}{te:TE}{pos:Pos}
def aFl:TS:=fun D σ H=>D.nx σ H
def aFs (t u:TS):TS:=fun D σ H=>t { D with nx:=u D } σ H
theorem DL:PSs X [] aFl:=fun _ _ σ H _ I h=>wpAny_execs_nil ⟨σ,H,I,h⟩
theorem yW (h1:PS X st t) (h2:PSs X rest u):PSs X (st::rest) (aFs t u):=by
 intro pins s σ H D I h;refine wpAny_execs_cons (thn (h1 pins s σ H { D with nx:=u D } I h) fun f s1 q=>?_);cases f with
 | next=>
  obtain⟨σ',H',I',q⟩:=q;exact h2 pins s1 σ' H' D I' q
 | ret v=>exact q
 | brk=>exact q
 | cont=>exact q
theorem LK (h1:PS X st t):PSs X [st] t:=by
 intro pins s σ H D I h;refine wpAny_execs_cons (thn (h1 pins s σ H D I h) fun f s1 q=>?_);cases f with
 | next=>exact wpAny_execs_nil q
 | ret v=>exact q
 | brk=>exact q
 | cont=>exact q
theorem Inv.quiet {pins:List (Addr × Obj)}{σ:St}{H:Hp}{s:Shared}(I:Inv X pins σ H s):interactive X.env=false:=by simp[interactive,I.ok.kind]
def aFf (te:TE):TS:=fun D σ H=>te σ H fun _ H1=>D.nx σ H1
theorem sI (he:PE X e te) (hs:swapsWith e none pos.line X.env=pure false:=by rfl):PS X (.Expr e pos) (aFf te):=by
 intro pins s σ H D I h;exact wpAny_Expr_any (thn (he pins s σ H _ I h) fun v s1 ⟨x,H1,I1,r1,q1⟩=>⟨σ,H1,I1,q1⟩) I.quiet hs
def aFr (te:TE):TS:=fun D σ H=>te σ H D.rt
theorem aDg (he:PE X e te):PS X (.Return (some e) pos) (aFr te):=by
 intro pins s σ H D I h;exact wpAny_Return_some (thn (he pins s σ H _ I h) fun v s1 ⟨x,H1,I1,r1,q1⟩=>⟨x,σ,H1,I1,r1,q1⟩)
def aFj (c:TT) (t u:TS):TS:=fun D σ H=>c σ H fun b H1=>if b=true then t D σ H1 else u D σ H1
theorem DJ {c:Expr}{a b:List Stmt}{tc:TT}(hc:PT X c tc) (ha:PSs X a t) (hb:PSs X b u):PS X (.If c a b pos) (aFj tc t u):=by
 intro pins s σ H D I h;refine wpAny_If (thn (hc pins s σ H _ I h) fun d s1 ⟨H1,I1,q1⟩=>?_);cases d with
 | true=>exact ha pins s1 σ H1 D I1 q1
 | false=>exact hb pins s1 σ H1 D I1 q1
end
abbrev TG:=V->St->Hp->(St->Hp->Prop)->Prop
abbrev TGs:=List V->St->Hp->(St->Hp->Prop)->Prop
def PG (X:Cx) (target:Expr) (t:TG):Prop:=
 ∀ (pins:List (Addr × Obj)) (s:Shared) (σ:St) (H:Hp) (v:V) (u:Value) (Q:St->Hp->Prop),Inv X pins σ H s->bK v u->t v σ H Q ->
  wpAny (model X.prog X.w) X.A (assign target X.env u) (fun _ s'=>∃ σ' H',Inv X pins σ' H' s'/\Q σ' H') X.xe s
def PGs (X:Cx) (ts:List Expr) (t:TGs):Prop:=
 ∀ (pins:List (Addr × Obj)) (s:Shared) (σ:St) (H:Hp) (vs:List V) (us:List Value) (Q:St->Hp->Prop),Inv X pins σ H s->aU vs us->t vs σ H Q ->
  wpAny (model X.prog X.w) X.A (assignInOrder ((assignEach ts X.env).map (·.2)) us) (fun _ s'=>∃ σ' H',Inv X pins σ' H' s'/\Q σ' H') X.xe s
abbrev AW:=V->V->V->Hp->(Hp->Prop)->Prop
def FT (X:Cx) (t:AW):Prop:=
 ∀ (pins:List (Addr × Obj)) (s:Shared) (σ:St) (H:Hp) (o i v:V) (ov iv u:Value) (Q:Hp->Prop),Inv X pins σ H s->bK o ov->bK i iv->bK v u->t o i v H Q ->
  wpAny (model X.prog X.w) X.A (setItem ov iv u) (fun _ s'=>∃ H',Inv X pins σ H' s'/\Q H') X.xe s
section
variable {X:Cx}{pos:Pos}
def kJ (i:Nat):TG:=fun v σ H Q=>Q (σ.set i (some v)) H
theorem yV {i:Nat}{x:Str}(hN:X.N.Nodup) (hi:X.N[i]?=some x) (hx:Loc X.env.scope x) (hf:X.fn x=true\/X.env.scope.names.lookup x=some .local:=by first | exact .inl rfl | exact .inr rfl | assumption):PG X (.Name x pos) (kJ i):=by
 intro pins s σ H v u Q I r h;exact wpAny_assign_Name (NB I hN hi hx r (fun s' I'=>⟨_,H,I',h⟩) hf)
def WQ:TGs:=fun vs σ H Q=>vs=[]/\Q σ H
def WN (t:TG) (u:TGs):TGs:=fun vs σ H Q=>∃ v r,vs=v::r/\t v σ H fun σ' H'=>u r σ' H' Q
theorem aD2:PGs X [] WQ:=by
 intro pins s σ H vs us Q I r h;obtain⟨e,h⟩:=h;subst e;cases r;exact assignInOrder_nil ⟨σ,H,I,h⟩
theorem aD1 {e:Expr}{es:List Expr}{t:TG}{u:TGs}(h1:PG X e t) (h2:PGs X es u)
  (hs:(assignEach (e::es) X.env).map (·.2)=assign e X.env::(assignEach es X.env).map (·.2):=by rfl):PGs X (e::es) (WN t u):=by
 intro pins s σ H vs us Q I r h;obtain⟨v,vr,e1,h⟩:=h;subst e1;cases r with
 | cons r rr=>
  rw[hs];refine assignInOrder_cons (thn (h1 pins s σ H _ _ _ I r h) fun _ s1 ⟨σ1,H1,I1,q1⟩=>?_);exact h2 pins s1 σ1 H1 _ _ Q I1 rr q1
def tY (K:PySem.W.Frag) (n:Nat) (t:TGs):TG:=fun v σ H Q=>∃ a xs,v=.ref a/\SqT K H a xs/\xs.length=n/\t xs σ H Q
theorem LE {es:List Expr}{k:Nat}{t:TGs}{n:Nat}(hc:X.calm=true) (h:PGs X es t)
  (hn:(assignEach es X.env).length=n:=by rfl) (hst:(assignEach es X.env).findIdx? (·.1)=none:=by rfl):PG X (.Tuple es k pos) (tY X.K n t):=by
 intro pins s σ H v u Q I r hw;obtain⟨a,xs,e1,hq,hl,hw⟩:=hw;subst e1;cases r;obtain⟨its,rv,ht,hz⟩:=I.tuple hq;refine assign_Tuple_tuple (I.ok.hd hc) ht (by simp[hn,<- hl,rv.length]) hst fun h' hx=>?_;have I1:Inv X pins σ H { s with heap:=h' }:=I.kept (t':=s.toks) fun b o e=>hx b o (aL5 (aJ9 e)) e;exact h pins _ σ H xs _ Q I1 (by simpa using rv) hw
def WV (to ti:TE) (t:AW):TG:=fun v σ H Q=>to σ H fun o H1=>ti σ H1 fun i H2=>t o i v H2 fun H3=>Q σ H3
theorem LD {o i:Expr}{to ti:TE}{t:AW}(ho:PE X o to) (hi:PE X i ti) (hs:FT X t)
  (ha:∀ v,assign (.Subscript o i pos) X.env v=(do
   let ov <- holding [v] (eval o X.env)
   let iv <- holding [v,ov] (eval i X.env)
   standAt pos
   holding [v,ov,iv] (setItem ov iv v)
   release [v,ov,iv] []):=by intro _;rfl):PG X (.Subscript o i pos) (WV to ti t):=by
 intro pins s σ H v u Q I r h;rw[ha];refine wpAny_bind (wpAny_holding (thn (ho pins s σ H _ I h) fun ov s1 ⟨x,H1,I1,r1,q1⟩=>?_));refine wpAny_bind (wpAny_holding (thn (hi pins s1 σ H1 _ I1 q1) fun iv s2 ⟨y,H2,I2,r2,q2⟩=>?_));refine wpAny_bind (wpAny_standAt (wpAny_bind (wpAny_holding (thn (hs pins s2 σ H2 x y v ov iv u _ I2 r1 r2 r q2) fun _ s3 ⟨H3,I3,q3⟩=>?_))));exact wpAny_release ⟨σ,H3,I3,q3⟩
def AK (te:TE) (g:TG):TS:=fun D σ H=>te σ H fun x H1=>g x σ H1 D.nx
theorem DI {tg e:Expr}{te:TE}{g:TG}(he:PE X e te) (hg:PG X tg g) (hs:swapsWithSole [tg] e pos.line X.env=pure false:=by rfl) (hw:swappedStores [tg] e X.env=pure none:=by rfl)
  (h1:(assignEach [tg] X.env).map (·.2)=[assign tg X.env]:=by rfl):PS X (.Assign [tg] e pos) (AK te g):=by
 intro pins s σ H D I h;refine wpAny_Assign_stores (thn (he pins s σ H _ I h) fun v s1 ⟨x,H1,I1,r1,q1⟩=>?_) hs hw;rw[h1];exact thn (hg pins s1 σ H1 x v _ I1 r1 q1) fun _ s2 q=>q
theorem DK {i:Nat}{x:Str}{e:Expr}{te:TE}{pos':Pos}(hN:X.N.Nodup) (hi:X.N[i]?=some x) (hx:Loc X.env.scope x) (he:PE X e te) (hs:swapsWith e (some (.Name x pos')) pos.line X.env=pure false:=by rfl) (hf:X.fn x=true\/X.env.scope.names.lookup x=some .local:=by first | exact .inl rfl | exact .inr rfl | assumption):
  PS X (.Assign [.Name x pos'] e pos) (AK te (kJ i)):=by
 intro pins s σ H D I h;refine wpAny_Assign_Name (thn (he pins s σ H _ I h) fun v s1 ⟨y,H1,I1,r1,q1⟩=>?_) hs;exact NB I1 hN hi hx r1 (fun s2 I2=>⟨_,H1,I2,q1⟩) hf
end
section
variable {X:Cx}{pos:Pos}
def aFv (c:TT) (tb:TS):TS:=fun D σ H=>∃ W:Nat->St->Hp->Prop,(∃ m,W m σ H)/\∀ m σ H,W m σ H ->
 c σ H fun b H1=>if b=true then ∃ N:St->Hp->Prop,(∀ σ' H',N σ' H'->∃ m',m'<m/\W m' σ' H')/\tb { D with nx:=N,ct:=N,bk:=D.nx } σ H1 else D.nx σ H1
theorem aDi {c:Expr}{body:List Stmt}{tc:TT}{tb:TS}(hp:PassesOwn (model X.prog X.w) X.A X.env X.xe) (hc:PT X c tc) (hb:PSs X body tb):PS X (.While c body [] pos) (aFv tc tb):=by
 intro pins s σ H D I h;obtain⟨W,⟨m0,w0⟩,turn⟩:=h;refine wpAny_While (codeAny_whileLoop (fun n s'=>∃ σ' H',Inv X pins σ' H' s'/\W n σ' H') ?_ m0 ⟨σ,H,I,w0⟩);rintro n s1 ⟨σ1,H1,I1,w1⟩;refine wpAny_passesOwn hp (thn (hc pins s1 σ1 H1 _ I1 (turn n σ1 H1 w1)) fun b s2 ⟨H2,I2,q2⟩=>?_);cases b with
 | true=>
  obtain⟨N,hN,q2⟩:=q2;rw[if_pos rfl];refine wpAny_passesOwn hp (thn (hb pins s2 σ1 H2 _ I2 q2) fun f s3 q3=>?_);cases f with
  | next=>
   obtain⟨σ3,H3,I3,n3⟩:=q3;obtain⟨m',hm,w3⟩:=hN σ3 H3 n3;exact⟨m',hm,σ3,H3,I3,w3⟩
  | cont=>
   obtain⟨σ3,H3,I3,n3⟩:=q3;obtain⟨m',hm,w3⟩:=hN σ3 H3 n3;exact⟨m',hm,σ3,H3,I3,w3⟩
  | brk=>exact q3
  | ret v=>exact q3
 | false=>
  rw[if_neg aJ5];exact wpAny_execs_nil ⟨σ1,H2,I2,q2⟩
end
structure It where
 go:Nat->Hp->Prop
 yld:Nat->Hp->V->Hp->Prop
 stop:Nat->Hp->Prop
def fH (X:Cx) (pins:List (Addr × Obj)) (H:Hp) (b:Addr):Prop:=
 H b=none/\b≠X.env.locals/\b ∉ X.fs/\(b∈X.ex\/X.s₀.heap.objs.size<=b)/\(∀ x c,X.env.cells.lookup x=some c->c≠b)/\∀ p∈X.pn++pins,p.1≠b
theorem Inv.fpOk {X:Cx}{pins:List (Addr × Obj)}{σ:St}{H H':Hp}{s:Shared}{b:Addr}(I:Inv X pins σ H s) (hb:s.heap.objs.size<=b) (hn:H' b=none):fH X pins H' b:=by
 refine⟨hn,aL4 (aIw I.lt hb),I.nofs hb,.inr (aKw I.sz hb),fun x c e z=>?_,fun p hp z=>?_⟩
 ·obtain⟨v,q⟩:=I.cell x c e
  exact absurd (aIw q.lt (by rw[z];exact hb)) (aKx _)
 ·exact absurd (aIw (aJ9 (I.pin p hp).1) (by rw[z];exact hb)) (aKx _)
structure Turn (P:Program) (w:World) (K:PySem.W.Frag) (tg:Expr) (J:It) (fp:List Addr) (it:Addr) (tn:Nat->Heap->Prop):Prop where
 mem:it∈fp
 obj:∀ i h,tn i h->∀ b∈fp,∃ o,h.get? b=some o/\∀ v,o.data≠.cell v
 keep:∀ i h h',tn i h->(∀ b∈fp,∀ o,h.get? b=some o->h'.get? b=some o)->tn i h'
 item:∀ (X:Cx),X.prog=P->X.w=w->X.K=K->X.calm=true->∀ (i:Nat) (pins:List (Addr × Obj)) (s:Shared) (σ:St) (H:Hp) (E:Value->Shared->Prop),Inv X pins σ H s->(∀ b∈fp,fH X pins H b)->tn i s.heap->J.go i H ->
  wpAny (model P w) X.A (pyNext (.ref it)) (fun r s1=>∃ u,r=some u /\
   wpAny (model P w) X.A (letOwnedTupleGo tg (.ref it) u) (fun _ s2=>∃ x H',Inv X pins σ H' s2/\bK x u/\J.yld i H x H'/\tn (i+1) s2.heap/\∀ b∈fp,H' b=none) E s1) E s
 done:∀ (X:Cx),X.prog=P->X.w=w->X.K=K->X.calm=true->∀ (i:Nat) (pins:List (Addr × Obj)) (s:Shared) (σ:St) (H:Hp) (E:Value->Shared->Prop),Inv X pins σ H s->(∀ b∈fp,fH X pins H b)->tn i s.heap->J.stop i H ->
  wpAny (model P w) X.A (pyNext (.ref it)) (fun r s1=>r=none/\Inv X pins σ H s1) E s
 self:∀ (A:Around) (i:Nat) (s:Shared) (Q:Value->Shared->Prop) (E:Value->Shared->Prop),tn i s.heap->Q (.ref it) s->wpAny (model P w) A (pyIter (.ref it)) Q E s
abbrev TI:=St->Hp->(It->Hp->Prop)->Prop
def PIE (X:Cx) (pins:List (Addr × Obj)) (σ:St) (tg:Expr) (R:It->Hp->Prop) (itv:Value) (s2:Shared):Prop:=
 ∃ (it:Addr) (fp:List Addr) (tn:Nat->Heap->Prop) (J:It) (H':Hp),itv=.ref it/\Inv X pins σ H' s2/\Turn X.prog X.w X.K tg J fp it tn/\tn 0 s2.heap/\(∀ b∈fp,fH X pins H' b)/\R J H'
def PI (X:Cx) (tg iter:Expr) (wi:TI):Prop:=
 ∀ (pins:List (Addr × Obj)) (s:Shared) (σ:St) (H:Hp) (R:It->Hp->Prop),Inv X pins σ H s->wi σ H R ->
  wpAny (model X.prog X.w) X.A (eval iter X.env) (fun v s1=>wpAny (model X.prog X.w) X.A (pyIter v) (PIE X pins σ tg R) X.xe s1) X.xe s
theorem IS {M:Model}{A:Around}{E:Value->Shared->Prop}{s:Shared}{tg:Expr}{it:Addr}{u:Value}{o:Obj}{n:String}{vs:Array Value}{Q:Unit->Shared->Prop}(ho:s.heap.get? it=some o) (hc:o.cls=.type n) (hd:o.data=.fields vs)
    (hn:["enumerate","zip","dict_itemiterator","dict_reverseitemiterator","odict_iterator","itertools.zip_longest","itertools.pairwise"].contains n=false) (hQ:Q () s):wpAny M A (letOwnedTupleGo tg (.ref it) u) Q E s:=by
  unfold letOwnedTupleGo;cases tg<;>first
    | exact wpAny_pure hQ
    | (cases u<;>first
        | exact wpAny_pure hQ
        | (refine wpAny_bind (wpAny_load ho ?_)
           rw[hc,hd];show wpAny M A (if (["enumerate","zip","dict_itemiterator","dict_reverseitemiterator","odict_iterator","itertools.zip_longest","itertools.pairwise"].contains n&&vs[0]? == some (rawInt _))=true then _ else _) Q E s;rw[if_neg (by intro h;rw[hn,Bool.false_and] at h;cases h)];exact wpAny_pure hQ))
def Itl (K:PySem.W.Frag) (a:Addr):It:=
 ⟨fun i H=>∃ xs x,SqL K H a xs/\xs[i]?=some x,fun i H x H'=>H'=H/\∀ xs,SqL K H a xs->xs[i]?=some x,fun i H=>∃ xs,SqL K H a xs/\xs.length<=i⟩
def Itr (lo:Int) (n:Nat):It:=⟨fun i _=>i<n,fun i H x H'=>H'=H/\x=.int (lo+i),fun i _=>n<=i⟩
theorem aGa {P:Program}{w:World}{K:PySem.W.Frag}{tg:Expr}(a it:Addr):Turn P w K tg (Itl K a) [it] it (fun i h=>h.IsListIter it a i) where
 mem:=by simp
 obj:=fun i h st b hb=>by
  have e:b=it:=by simpa using hb
  subst e;obtain⟨o,e,c,d⟩:=st;exact⟨o,e,fun v z=>by rw[d] at z;cases z⟩
 keep:=fun i h h' st k=>st.at fun o e=>k it (by simp) o e
 item:=by
  intro X hP hw hK hc i pins s σ H E I hf st hg;subst hP hw hK;obtain⟨xs,x,hq,hx⟩:=hg;obtain⟨its,rv,p,hz⟩:=I.list hq;obtain⟨u,hu,ru⟩:=rv.get hx;obtain⟨f0,f1,f2,f3,f4,f5⟩:=hf it (by simp);refine wpAny_pyNext_list_item st p.isList (x:=u) (by simpa using hu) fun h' st' sb=>?_;have I1:Inv X pins σ H { s with heap:=h' }:=I.turned (t':=s.toks) (fun b o hb e=>(sb.2 b hb).trans e) f0 f1 f3 f4 f5;obtain⟨o,e,c,d⟩:=id st';exact⟨u,rfl,IS (s:={ s with heap:=h' }) e c d (by decide) ⟨x,H,I1,ru,⟨rfl,fun ys hy=>by rw[I.list_inj hy hq];exact hx⟩,st',fun b hb=>(hf b hb).1⟩⟩
 done:=by
  intro X hP hw hK hc i pins s σ H E I hf st hg;subst hP hw hK;obtain⟨xs,hq,hx⟩:=hg;obtain⟨its,rv,p,hz⟩:=I.list hq;obtain⟨f0,f1,f2,f3,f4,f5⟩:=hf it (by simp);have hl:=rv.length;exact wpAny_pyNext_list_end (I.ok.hd hc) st p.isList (by simp;lia) fun h' eb=>⟨rfl,I.turned (t':=s.toks) (fun b o hb e=>eb b o hb e) f0 f1 f3 f4 f5⟩
 self:=fun _ _ _ _ _ st h=>wpAny_pyIter_listiter st h
theorem aGb {P:Program}{w:World}{K:PySem.W.Frag}{tg:Expr}(it:Addr) (lo:Int) (n:Nat):Turn P w K tg (Itr lo n) [it] it (fun i h=>IsRangeIter h it (lo+(i:Nat)*1) ((n:Int)-(i:Nat)) 1) where
 mem:=by simp
 obj:=fun i h st b hb=>by
  have e:b=it:=by simpa using hb
  subst e;exact⟨_,st,fun v z=>by
   have z':Data.fields _=Data.cell v:=z;cases z'⟩
 keep:=fun i h h' st k=>k it (by simp) _ st
 item:=by
  intro X hP hw hK hc i pins s σ H E I hf st hg;subst hP hw hK;obtain⟨f0,f1,f2,f3,f4,f5⟩:=hf it (by simp);have W:=Walks.range (prog:=X.prog) (w:=X.w) (I.ok.hd hc) it lo 1 n;refine W.item i s _ _ hg st fun v h' tk hv st' kk=>?_;obtain⟨t,rfl⟩:=hv;have I1:Inv X pins σ H { s with heap:=h',toks:=tk }:=I.turned (fun b o hb e=>kk b o (by simpa using hb) e) f0 f1 f3 f4 f5;refine⟨_,rfl,IS (s:={ s with heap:=h',toks:=tk }) (n := "range_iterator") st' rfl rfl (by decide) ⟨.int (lo+i),H,I1,⟨t,?_⟩,⟨rfl,rfl⟩,st',fun b hb=>(hf b hb).1⟩⟩;rw[Int.mul_one]
 done:=by
  intro X hP hw hK hc i pins s σ H E I hf st hg;subst hP hw hK;obtain⟨f0,f1,f2,f3,f4,f5⟩:=hf it (by simp);exact wpAny_pyNext_range_end (I.ok.hd hc) st (by have:n<=i:=hg;lia) fun h' eb=>⟨rfl,I.turned (t':=s.toks) (fun b o hb e=>eb b o hb e) f0 f1 f3 f4 f5⟩
 self:=fun _ _ _ _ _ st h=>wpAny_pyIter_rangeiter st h
section
variable {X:Cx}{tg:Expr}
theorem LP {pins:List (Addr × Obj)}{σ:St}{H:Hp}{s:Shared}{R:It->Hp->Prop}{E:Value->Shared->Prop}{lo hi:Int}{t u v:Tok}{tk:Nat}(I:Inv X pins σ H s) (h1 : -(2^62)<=lo) (h2:lo<2^62) (h3 : -(2^62)<=hi) (h4:hi<2^62)
  (q:R (Itr lo (hi-lo).toNat) H):wpAny (model X.prog X.w) X.A (pyIter (.ref s.heap.objs.size)) (PIE X pins σ tg R) E { s with heap:=s.heap.push { cls:=.type "range",data:=.fields #[.int lo t,.int hi u,.int 1 v] },toks:=tk }:=by
 refine wpAny_pyIter_range (IsRange.new ..) (small_one h1 h2 h3 h4) ?_;have I1:Inv X pins σ H { s with heap:=s.heap.push { cls:=.type "range",data:=.fields #[.int lo t,.int hi u,.int 1 v] },toks:=tk }:=I.kept fun b o e=>aIz _ e;refine⟨(s.heap.push { cls:=.type "range",data:=.fields #[.int lo t,.int hi u,.int 1 v] }).objs.size,[(s.heap.push { cls:=.type "range",data:=.fields #[.int lo t,.int hi u,.int 1 v] }).objs.size],_,_,H,rfl,
  I1.kept (t':=tk) fun b o e=>aIz _ e,aGb _ lo (hi-lo).toNat,?_,fun b hb=>?_,q⟩
 ·have e1:lo+((0:Nat):Int)*1=lo:=by simp
  have e2:(((hi-lo).toNat:Nat):Int)-((0:Nat):Int)=Builtin.Range.rangeSize lo hi 1:=by rw[rangeSize_one];split<;>lia
  show IsRangeIter _ _ (lo+((0:Nat):Int)*1) ((((hi-lo).toNat:Nat):Int)-((0:Nat):Int)) 1;rw[e1,e2];exact aJ8 _ rfl
 ·have e:b=(s.heap.push { cls:=.type "range",data:=.fields #[.int lo t,.int hi u,.int 1 v] }).objs.size:=by simpa using hb
  subst e;exact I1.fpOk (aKv _) (I1.hok.fresh (aKv _))
def YK (ta:TA):TI:=fun σ H R=>ta σ H fun vs H1=>∃ j:Int,vs=[.int j] /\ -(2^62)<=j/\j<2^62/\R (Itr 0 j.toNat) H1
def YL (ta:TA):TI:=fun σ H R=>ta σ H fun vs H1=>∃ i j:Int,vs=[.int i,.int j]/\(-(2^62)<=i/\i<2^62 /\ -(2^62)<=j/\j<2^62)/\R (Itr i (j-i).toNat) H1
theorem aD4 {a:Expr}{ta:TA}{p pos:Pos}(hg:Gl X "range") (hm:X.mg "range" = none) (ha:PA X [a] ta) (hs:starEach [a] X.env=[(false,eval a X.env)]:=by rfl):PI X tg (.Call (.Name "range" p) [a] [] pos) (YK ta):=by
 intro pins s σ H R I h;refine Call_ (nV I hg hm boot_range (PyProof.Rows.callWith_type1 (thn (ha pos pins s σ H _ I h) fun us s1 ⟨vs,H1,I1,r1,q1⟩=>?_) hs rfl));obtain⟨j,e,q1,q2,q⟩:=q1;subst e;cases r1 with
 | cons r rr=>
  cases rr;obtain⟨t,rfl⟩:=r;exact call_range_1 (LP I1 (by lia) (by lia) q1 q2 (by simpa using q))
theorem aD5 {a b:Expr}{ta:TA}{p pos:Pos}(hg:Gl X "range") (hm:X.mg "range" = none) (ha:PA X [a,b] ta) (hs:starEach [a,b] X.env=[(false,eval a X.env),(false,eval b X.env)]:=by rfl) (hs2:starEach [b] X.env=[(false,eval b X.env)]:=by rfl):
  PI X tg (.Call (.Name "range" p) [a,b] [] pos) (YL ta):=by
 intro pins s σ H R I h;refine Call_ (nV I hg hm boot_range (PyProof.Rows.callWith_type1 (thn (ha pos pins s σ H _ I h) fun us s1 ⟨vs,H1,I1,r1,q1⟩=>?_) (by rw[hs,hs2]) (by rw[hs2];rfl)));obtain⟨i,j,e,⟨q1,q2,q3,q4⟩,q⟩:=q1;subst e;cases r1 with
 | cons r rr=>
  cases rr with
  | cons r' rr=>
   cases rr;obtain⟨t,rfl⟩:=r;obtain⟨t',rfl⟩:=r';exact call_range_2 (LP I1 q1 q2 q3 q4 q)
def aFg (wi:TI) (g:TG) (tb:TS):TS:=fun D σ H=>wi σ H fun J H1=>∃ W:Nat->Nat->St->Hp->Prop,(∃ m,W 0 m σ H1)/\∀ i m σ H,W i m σ H ->
 (J.stop i H/\D.nx σ H)\/(J.go i H/\∃ N:St->Hp->Prop,(∀ σ' H',N σ' H'->∃ m',m'<m/\W (i+1) m' σ' H')/\∀ x H',J.yld i H x H'->g x σ H' fun σ2 H2=>tb { D with nx:=N,ct:=N,bk:=D.nx } σ2 H2)
def uY (fp:List Addr) (h:Heap):List (Addr × Obj):=fp.filterMap fun b=>(h.get? b).map fun o=>(b,o)
theorem yJ {fp:List Addr}{h:Heap}{b:Addr}{o:Obj}(hb:b∈fp) (e:h.get? b=some o):(b,o)∈uY fp h:=List.mem_filterMap.mpr ⟨b,hb,by rw[e];rfl⟩
theorem aAl {fp:List Addr}{h:Heap}{p:Addr × Obj}(hp:p∈uY fp h):p.1∈fp/\h.get? p.1=some p.2:=by
 obtain⟨b,hb,e⟩:=List.mem_filterMap.mp hp;cases q:h.get? b with
 | none=>rw[q] at e;cases e
 | some o=>
  rw[q] at e;have e':(b,o)=p:=aIo e;subst e';exact⟨hb,q⟩
theorem Inv.pinned {pins:List (Addr × Obj)}{σ:St}{H:Hp}{s:Shared}{fp:List Addr}(I:Inv X pins σ H s) (hf:∀ b∈fp,fH X pins H b) (ho:∀ b∈fp,∃ o,s.heap.get? b=some o/\∀ v,o.data≠.cell v):Inv X (pins++uY fp s.heap) σ H s:=
 I.pins_of fun p hp=>(aKf.mp hp).elim (fun z=>I.pin p (aKh _ z)) fun z=>by
  obtain⟨hb,e⟩:=aAl z;obtain⟨f0,f1,f2,_⟩:=hf p.1 hb;obtain⟨o,e',d⟩:=ho p.1 hb;rw[e] at e';cases e';exact⟨e,f0,f1,f2,d⟩
theorem Inv.unpinned {pins pl:List (Addr × Obj)}{σ:St}{H:Hp}{s:Shared}(I:Inv X (pins++pl) σ H s):Inv X pins σ H s:=I.pins_of fun p hp=>I.pin p (aKh _ (aKg _ hp))
theorem LJ {iter:Expr}{body:List Stmt}{wi:TI}{g:TG}{tb:TS}{pos:Pos}(hp:PassesOwn (model X.prog X.w) X.A X.env X.xe) (hc:X.calm=true) (hi:PI X tg iter wi) (hg:PG X tg g) (hb:PSs X body tb)
  (hs:∀ x,foldedSetIterable iter X.env x=pure x:=by intro _;rfl):PS X (.For tg iter body [] pos) (aFg wi g tb):=by
 intro pins s σ H D I h;refine wpAny_For (thn (hi pins s σ H _ I h) fun v s1 h1=>thn h1 fun itv s2 h2=>?_) hs;obtain⟨it,fp,tn,J,H2,e,I2,T,st2,f2,W,⟨m0,w0⟩,turn⟩:=h2;subst e;have stat:∀ {H':Hp},(∀ b∈fp,H' b=none)->∀ b∈fp,fH X pins H' b:=fun hn b hb=>⟨hn b hb,(f2 b hb).2⟩;refine codeAny_forLoop_any (fun n s'=>∃ i σ' H',Inv X pins σ' H' s'/\tn i s'.heap/\(∀ b∈fp,H' b=none)/\W i n σ' H') ?_ m0 ⟨0,σ,H2,I2,st2,fun b hb=>(f2 b hb).1,w0⟩;rintro n s3 ⟨i,σ3,H3,I3,st3,fr3,w3⟩;rcases turn i n σ3 H3 w3 with ⟨stop,qn⟩ | ⟨go,N,hN,step⟩
 ·refine wpAny_passesOwn hp (thn (T.done X rfl rfl rfl hc i pins s3 σ3 H3 X.xe I3 (stat fr3) st3 stop) fun r s4 ⟨hr,I4⟩=>?_)
  subst hr;exact wpAny_execs_nil ⟨σ3,H3,I4,qn⟩
 ·refine wpAny_passesOwn hp (thn (T.item X rfl rfl rfl hc i pins s3 σ3 H3 X.xe I3 (stat fr3) st3 go) fun r s4 ⟨u,hr,h4⟩=>?_)
  subst hr;refine wpAny_passesOwn hp (thn h4 fun _ s5 ⟨x,H5,I5,r5,y5,st5,fr5⟩=>?_);have I5':=I5.pinned (stat fr5) (T.obj _ _ st5);refine wpAny_passesOwn hp (thn (hg _ s5 σ3 H5 x u _ I5' r5 (step x H5 y5)) fun _ s6 ⟨σ6,H6,I6,q6⟩=>?_);refine wpAny_passesOwn hp (thn (hb _ s6 σ6 H6 _ I6 q6) fun f s7 q7=>?_);have again:∀ {σ7:St} {H7:Hp},Inv X (pins++uY fp s5.heap) σ7 H7 s7->N σ7 H7->∃ m,m<n/\∃ i σ' H',Inv X pins σ' H' s7/\tn i s7.heap/\(∀ b∈fp,H' b=none)/\W i m σ' H':=fun {σ7 H7} I7 n7=>by
   obtain⟨m',hm,w7⟩:=hN σ7 H7 n7;refine⟨m',hm,i+1,σ7,H7,I7.unpinned,T.keep _ _ _ st5 fun b hb o e=>(I7.pin (b,o) (aKh _ (aKh _ (yJ hb e)))).1,fun b hb=>?_,w7⟩;obtain⟨o,e,d⟩:=T.obj _ _ st5 b hb;exact (I7.pin (b,o) (aKh _ (aKh _ (yJ hb e)))).2.1
  cases f with
  | next=>obtain⟨σ7,H7,I7,n7⟩:=q7;exact again I7 n7
  | cont=>obtain⟨σ7,H7,I7,n7⟩:=q7;exact again I7 n7
  | brk=>obtain⟨σ7,H7,I7,q7⟩:=q7;exact⟨σ7,H7,I7.unpinned,q7⟩
  | ret v=>obtain⟨x7,σ7,H7,I7,r7,q7⟩:=q7;exact⟨x7,σ7,H7,I7.unpinned,r7,q7⟩
end
abbrev R2:=V->V->Hp->VK->Prop
def OpR (X:Cx) (f:Value->Value->Sem Value) (r:R2):Prop:=
 ∀ (pins:List (Addr × Obj)) (s:Shared) (σ:St) (H:Hp) (x y:V) (v u:Value) (Q:VK),Inv X pins σ H s->bK x v->bK y u->r x y H Q ->
  wpAny (model X.prog X.w) X.A (f v u) (EP X pins σ Q) X.xe s
def UnR (X:Cx) (f:Value->Sem Value) (r:V->Hp->VK->Prop):Prop:=
 ∀ (pins:List (Addr × Obj)) (s:Shared) (σ:St) (H:Hp) (x:V) (v:Value) (Q:VK),Inv X pins σ H s->bK x v->r x H Q ->
  wpAny (model X.prog X.w) X.A (f v) (EP X pins σ Q) X.xe s
def fS (X:Cx) (f:Value) (r:List V->Hp->VK->Prop):Prop:=
 ∀ (pins:List (Addr × Obj)) (s:Shared) (σ:St) (H:Hp) (xs:List V) (us:List Value) (Q:VK),Inv X pins σ H s->aU xs us->r xs H Q ->
  wpAny (model X.prog X.w) X.A (call f us) (EP X pins σ Q) X.xe s
def RI (X:Cx) (r:V->Hp->(Bool->Hp->Prop)->Prop):Prop:=
 ∀ (pins:List (Addr × Obj)) (s:Shared) (σ:St) (H:Hp) (x:V) (v:Value) (Q:Bool->Hp->Prop),Inv X pins σ H s->bK x v->r x H Q ->
  wpAny (model X.prog X.w) X.A (truthy v) (TP X pins σ Q) X.xe s
def tOp (r:R2) (ta tb:TE):TE:=fun σ H Q=>ta σ H fun x H1=>tb σ H1 fun y H2=>r x y H2 Q
def tUn (r:V->Hp->VK->Prop) (ta:TE):TE:=fun σ H Q=>ta σ H fun x H1=>r x H1 Q
def rI (C:Int->Int->Prop) (g:Int->Int->V):R2:=fun x y H Q=>∃ i j,x=.int i/\y=.int j/\C i j/\Q (g i j) H
def rI0 (g:Int->Int->V):R2:=fun x y H Q=>∃ i j,x=.int i/\y=.int j/\Q (g i j) H
def rU (g:Int->V):V->Hp->VK->Prop:=fun x H Q=>∃ i,x=.int i/\Q (g i) H
section
variable {X:Cx}{a b c:Expr}{ta tb tc:TE}{pos:Pos}
theorem BC (ha:PE X a ta) (hb:PE X b tb) {pins:List (Addr × Obj)}{s:Shared}{σ:St}{H:Hp}{R:V->V->Hp->Prop}(I:Inv X pins σ H s)
  (h:ta σ H fun x H1=>tb σ H1 fun y H2=>R x y H2) {Q:Value->Shared->Prop} {f:Value->Value->Sem Value}
  (hf:∀ v u s2 x y H2,Inv X pins σ H2 s2->bK x v->bK y u->R x y H2->wpAny (model X.prog X.w) X.A (f v u) Q X.xe s2):
  wpAny (model X.prog X.w) X.A (eval a X.env) (fun v s₁=>wpAny (model X.prog X.w) X.A (eval b X.env) (fun u s₂=>wpAny (model X.prog X.w) X.A (f v u) Q X.xe s₂) X.xe s₁) X.xe s:=by
 refine thn (ha pins s σ H _ I h) fun v s1 ⟨x,H1,I1,r1,q1⟩=>?_;refine thn (hb pins s1 σ H1 _ I1 q1) fun u s2 ⟨y,H2,I2,r2,q2⟩=>?_;exact hf v u s2 x y H2 I2 r1 r2 q2
theorem DG {op:Operator}{r:R2}(ho:OpR X (binaryOp op) r) (ha:PE X a ta) (hb:PE X b tb):PE X (.BinOp a op b pos) (tOp r ta tb):=by
 intro pins s σ H Q I h;exact wpAny_BinOp (BC ha hb I h fun v u s2 x y H2 I2 rx ry q=>ho pins s2 σ H2 x y v u Q I2 rx ry q)
theorem aCy {op:UnaryOp}{r:V->Hp->VK->Prop}(ho:UnR X (unaryOp op) r) (ha:PE X a ta):PE X (.UnaryOp op a pos) (tUn r ta):=by
 intro pins s σ H Q I h;exact UnaryOp_ (thn (ha pins s σ H _ I h) fun v s1 ⟨x,H1,I1,r1,q1⟩=>ho pins s1 σ H1 x v Q I1 r1 q1)
theorem opI {f:Value->Value->Sem Value}{C:Int->Int->Prop}{g:Int->Int->Int}
  (rule:∀ (i j:Int) (t u:Tok) (s:Shared) (Q:Value->Shared->Prop) (E:Value->Shared->Prop),C i j->Q (.int (g i j) s.toks) { s with toks:=s.toks+1 }->wpAny (model X.prog X.w) X.A (f (.int i t) (.int j u)) Q E s):
  OpR X f (rI C fun i j=>.int (g i j)):=by
 intro pins s σ H x y v u Q I rx ry h;obtain⟨i,j,rfl,rfl,hc,q⟩:=h;obtain⟨t,rfl⟩:=rx;obtain⟨t',rfl⟩:=ry;exact rule i j t t' s _ _ hc ⟨.int (g i j),H,I.tok _,⟨_,rfl⟩,q⟩
theorem uU {f:Value->Value->Sem Value}{g:Int->Int->Int}
  (rule:∀ (i j:Int) (t u:Tok) (s:Shared) (Q:Value->Shared->Prop) (E:Value->Shared->Prop),Q (.int (g i j) s.toks) { s with toks:=s.toks+1 }->wpAny (model X.prog X.w) X.A (f (.int i t) (.int j u)) Q E s):
  OpR X f (rI0 fun i j=>.int (g i j)):=by
 intro pins s σ H x y v u Q I rx ry h;obtain⟨i,j,rfl,rfl,q⟩:=h;obtain⟨t,rfl⟩:=rx;obtain⟨t',rfl⟩:=ry;exact rule i j t t' s _ _ ⟨.int (g i j),H,I.tok _,⟨_,rfl⟩,q⟩
theorem KO {f:Value->Value->Sem Value}{g:Int->Int->Bool}
  (rule:∀ (i j:Int) (t u:Tok) (s:Shared) (Q:Value->Shared->Prop) (E:Value->Shared->Prop),Q (.bool (g i j)) s->wpAny (model X.prog X.w) X.A (f (.int i t) (.int j u)) Q E s):
  OpR X f (rI0 fun i j=>.bl (g i j)):=by
 intro pins s σ H x y v u Q I rx ry h;obtain⟨i,j,rfl,rfl,q⟩:=h;obtain⟨t,rfl⟩:=rx;obtain⟨t',rfl⟩:=ry;exact rule i j t t' s _ _ ⟨.bl (g i j),H,I,rfl,q⟩
def EN (i j:Int):Prop:=0<=j/\j<=1000000/\i.natAbs<2^64
theorem aGd (k:Nat):(0:Int)<=2^k:=by
 rw[two_pow_cast];exact Int.natCast_nonneg _
theorem aC6:OpR X (binaryOp .Add) (rI0 fun i j=>.int (i+j)):=uU fun _ _ _ _ _ _ _ q=>add_int q
theorem aCj:OpR X (binaryOp .Sub) (rI0 fun i j=>.int (i-j)):=uU fun _ _ _ _ _ _ _ q=>sub_int q
theorem aCc:OpR X (binaryOp .Mod) (rI (fun _ j=>0<j) fun i j=>.int (i%j)):=opI fun i j _ _ _ _ _ hc q=>by
 have h1:(0:Int)<j:=hc;exact mod_int' (by lia) (by rw[Int.fmod_eq_emod_of_nonneg i (by lia)];exact q)
theorem aCh:OpR X (binaryOp .LShift) (rI EN fun i j=>.int (i*2^j.toNat)):=opI fun _ _ _ _ _ _ _ hc q=>lshift_int_small hc.1 hc.2.1 hc.2.2 q
theorem aCi:OpR X (binaryOp .RShift) (rI (fun _ j=>0<=j) fun i j=>.int (i / 2^j.toNat)):=opI fun i j _ _ _ _ _ hc q=>
 rshift_int hc (by rw[Int.fdiv_eq_ediv_of_nonneg i (aGd _)];exact q)
theorem aC7:OpR X (binaryOp .BitAnd) (rI0 fun i j=>.int (Builtin.bitAnd i j)):=uU fun _ _ _ _ _ _ _ q=>and_int q
theorem aCe:OpR X (binaryOp .BitOr) (rI0 fun i j=>.int (Builtin.bitOr i j)):=uU fun _ _ _ _ _ _ _ q=>or_int q
theorem aCk:OpR X (binaryOp .BitXor) (rI0 fun i j=>.int (Builtin.bitXor i j)):=uU fun _ _ _ _ _ _ _ q=>xor_int q
theorem unI {f:Value->Sem Value}{g:Int->Int}
  (rule:∀ (i:Int) (t:Tok) (s:Shared) (Q:Value->Shared->Prop) (E:Value->Shared->Prop),Q (.int (g i) s.toks) { s with toks:=s.toks+1 }->wpAny (model X.prog X.w) X.A (f (.int i t)) Q E s):
  UnR X f (rU fun i=>.int (g i)):=by
 intro pins s σ H x v Q I rx h;obtain⟨i,rfl,q⟩:=h;obtain⟨t,rfl⟩:=rx;exact rule i t s _ _ ⟨.int (g i),H,I.tok _,⟨_,rfl⟩,q⟩
theorem aGe:UnR X (unaryOp .USub) (rU fun i=>.int (-i)):=unI fun _ _ _ _ _ q=>neg_int q
end
def scal:V->V->Bool
 | .non,.non=>true | .non,.int _=>true | .int _,.non=>true | .non,.bl _=>true | .bl _,.non=>true | .non,.str _=>true | .str _,.non=>true
 | .int _,.int _=>true | .bl _,.bl _=>true | .str _,.str _=>true | .byt _,.byt _=>true
 | .int _,.str _=>true | .str _,.int _=>true | .bl _,.str _=>true | .str _,.bl _=>true
 | _,_=>false
section
variable {X:Cx}{a b c:Expr}{ta tb tc:TE}{pos:Pos}
theorem WG {pins:List (Addr × Obj)}{σ:St}{H:Hp}{s:Shared}{Q:VK}{k k':Bool}(I:Inv X pins σ H s) (q:Q (.bl k) H) (e:k=k'):EP X pins σ Q (.bool k') s:=by
 subst e;exact⟨.bl k,H,I,rfl,q⟩
theorem KQ:OpR X (compareOp .Lt) (rI0 fun i j=>.bl (decide (i<j))):=KO fun _ _ _ _ _ _ _ q=>lt_int q
theorem aC9:OpR X (compareOp .Gt) (rI0 fun i j=>.bl (decide (j<i))):=KO fun _ _ _ _ _ _ _ q=>gt_int q
theorem aCb:OpR X (compareOp .Is) (fun x y H Q=>y=.non/\Q (.bl (decide (x=.non))) H):=by
 intro pins s σ H x y v u Q I rx ry h;obtain⟨rfl,q⟩:=h;cases ry;refine is_none_gen (WG I q ?_);cases x<;>first
  | (cases rx;rfl)
  | (obtain⟨t,rfl⟩:=rx;rfl)
theorem nX (b:Expr) {op:CmpOp}(h:op≠.In:=by decide) (h2:op≠.NotIn:=by decide):behindInMarks op b=false:=by
 have e1:(op == CmpOp.In)=false:=by cases op<;>first | rfl | exact absurd rfl h
 have e2:(op == CmpOp.NotIn)=false:=by cases op<;>first | rfl | exact absurd rfl h2
 cases b<;>simp[behindInMarks,e1,e2]
theorem KZ {op:CmpOp}{r:R2}(ho:OpR X (compareOp op) r) (ha:PE X a ta) (hb:PE X b tb) (hm:behindInMarks op b=false):PE X (.Compare a [op] [b] pos) (tOp r ta tb):=by
 intro pins s σ H Q I h;exact wpAny_Compare1 (BC ha hb I h fun v u s2 x y H2 I2 rx ry q=>ho pins s2 σ H2 x y v u Q I2 rx ry q) hm
def aFt (t:TE):TT:=fun σ H Q=>t σ H fun x H'=>∃ k,x=.bl k/\Q k H'
theorem aDj {op:CmpOp}{r:R2}(ho:OpR X (compareOp op) r) (ha:PE X a ta) (hb:PE X b tb) (hm:behindInMarks op b=false):PT X (.Compare a [op] [b] pos) (aFt (tOp r ta tb)):=by
 intro pins s σ H Q I h;refine wpAny_isTrue_Compare1 (thn (ha pins s σ H _ I h) fun v s1 ⟨x,H1,I1,r1,q1⟩=>thn (hb pins s1 σ H1 _ I1 q1) fun u s2 ⟨y,H2,I2,r2,q2⟩=>
  thn (ho pins s2 σ H2 x y v u _ I2 r1 r2 q2) fun c s3 ⟨z,H3,I3,r3,k,e,q3⟩=>?_) hm
 subst e;cases r3;exact wpAny_truthy_bool ⟨H3,I3,q3⟩
def AX (K:PySem.W.Frag) (x:V) (H:Hp) (k:Bool):Prop:=
 match x with
 | .non=>k=false
 | .bl b=>k=b
 | .int i=>k=(i != 0)
 | .str y=>y.length<=sizeLine/\k=((y.length:Int) != 0)
 | .byt y=>y.size<=sizeLine/\k=((y.size:Int) != 0)
 | .ref p=>(∃ xs,SqL K H p xs/\k=!xs.isEmpty)\/(∃ xs,SqT K H p xs/\k=!xs.isEmpty)\/∃ kvs,H p=some (.dK kvs)/\k=!kvs.isEmpty
 | _=>False
theorem YV {κ:Type}{kvs:List (κ × V)}{vs:List (κ × Value)}(r:KV kvs vs):(!vs.isEmpty)=!kvs.isEmpty:=by
 cases r<;>rfl
theorem JQ {xs:List V}{its:List Value}(r:aU xs its):(!its.toArray.isEmpty)=!xs.isEmpty:=by
 cases r<;>simp
theorem sD:(sizeLine:Nat)<2^63:=by rw[sizeLine_eq];decide
theorem aG8:RI X (fun x H Q=>∃ k,AX X.K x H k/\Q k H):=by
 intro pins s σ H x v Q I rx h;obtain⟨k,e,q⟩:=h;have hl:=sD;have hs:sizeLine=16777216:=sizeLine_eq;cases x with
 | non=>
  cases rx;have e':k=false:=e;subst e';exact truthy_none ⟨H,I,q⟩
 | bl b=>
  cases rx;have e':k=b:=e;subst e';exact wpAny_truthy_bool ⟨H,I,q⟩
 | int i=>
  obtain⟨t,rfl⟩:=rx;have e':k=(i != 0):=e;subst e';exact PySem.P.truthy_int ⟨H,I,q⟩
 | str y=>
  obtain⟨t,rfl⟩:=rx;obtain⟨hy,e'⟩:y.length<=sizeLine/\k=((y.length:Int) != 0):=e;subst e';exact PySem.P.truthy_str (by lia) ⟨H,I.tok _,q⟩
 | byt y=>
  obtain⟨t,rfl⟩:=rx;obtain⟨hy,e'⟩:y.size<=sizeLine/\k=((y.size:Int) != 0):=e;subst e';exact PySem.W.truthy_bytes (by lia) ⟨H,I.tok _,q⟩
 | ref p=>
  cases rx;have e':(∃ xs,SqL X.K H p xs/\k=!xs.isEmpty)\/(∃ xs,SqT X.K H p xs/\k=!xs.isEmpty)\/∃ kvs,H p=some (.dK kvs)/\k=!kvs.isEmpty:=e;rcases e' with ⟨xs,hx,e'⟩ | ⟨xs,hx,e'⟩ | ⟨kvs,hx,e'⟩
  ·subst e'
   obtain⟨its,r,pl,hz⟩:=I.list hx;have hlen:=r.length;exact wpAny_truthy_list pl.isList (by simp only[aIx];lia) ⟨H,I.tok _,by rw[JQ r];exact q⟩
  ·subst e'
   obtain⟨its,r,pl,hz⟩:=I.tuple hx;have hlen:=r.length;exact truthy_tuple pl (by simp only[aIx];lia) ⟨H,I.tok _,by rw[JQ r];exact q⟩
  ·subst e'
   obtain⟨hz,hS,vs,r,m⟩:kvs.length<=sizeLine/\(p == sysModules)=false/\∃ vs,KV kvs vs/\s.heap.DictOf (uK X.prog X.w) p vs:=I.hok p _ hx;have hlen:kvs.length=vs.length:=Paired.length r;exact wpAny_truthy_dict hS m (by lia) ⟨H,I.tok _,by rw[YV r];exact q⟩
 | _=>exact (show False from e).elim
theorem aDl (ha:PE X a ta) (he:∀ whole,isTrue a X.env whole=(do let v <- whole;standAt a.pos;holding [v] (truthy v))):
  PT X a (fun σ H Q=>ta σ H fun x H'=>∃ k,AX X.K x H' k/\Q k H'):=by
 intro pins s σ H Q I h;exact isTrue_plain (thn (ha pins s σ H _ I h) fun v s1 ⟨x,H1,I1,r1,q1⟩=>aG8 pins s1 σ H1 x v Q I1 r1 q1) (he _)
theorem mK {x:V}{us:List Value}(r:aU [x] us):∃ u,us=[u]/\bK x u:=by
 cases r with
 | cons r1 r2=>cases r2;exact⟨_,rfl,r1⟩
theorem NS {x y:V}{us:List Value}(r:aU [x,y] us):∃ u w',us=[u,w']/\bK x u/\bK y w':=by
 cases r with
 | cons r1 r2=>
  cases r2 with
  | cons r3 r4=>cases r4;exact⟨_,_,rfl,r1,r3⟩
theorem SK (hc:X.calm=true):fS X (.builtin "min") (fun xs H Q=>∃ i j,xs=[.int i,.int j]/\Q (.int (if j<i then j else i)) H):=by
 intro pins s σ H xs us Q I r h;obtain⟨i,j,rfl,q⟩:=h;obtain⟨u,w',rfl,⟨t,rfl⟩,⟨t',rfl⟩⟩:=NS r;refine min_two_ints (I.ok.hd hc) fun h' tk k=>⟨_,H,I.kept k,?_,q⟩
 by_cases hj:j<i
 ·rw[if_pos hj,if_pos hj];exact⟨_,rfl⟩
 ·rw[if_neg hj,if_neg hj];exact⟨_,rfl⟩
theorem SH:fS X (.type "int") (fun xs H Q=>(∃ i,xs=[.int i]/\Q (.int i) H)\/∃ k,xs=[.bl k]/\Q (.int (if k then 1 else 0)) H):=by
 intro pins s σ H xs us Q I r h;rcases h with ⟨i,rfl,q⟩ | ⟨k,rfl,q⟩
 ·obtain⟨u,rfl,t,rfl⟩:=mK r
  exact call_int_int ⟨.int i,H,I,⟨_,rfl⟩,q⟩
 ·obtain⟨u,rfl,r1⟩:=mK r
  cases r1;exact call_int_bool ⟨.int (if k then 1 else 0),H,I.tok _,⟨_,rfl⟩,q⟩
end
section
variable {prog:Program}{w:World}{A:Around}{E:Value->Shared->Prop}{s:Shared}{K:PySem.W.Frag}{x dx C f:Addr}{mA:Str->Option Value}{name:Str}{v:Value}
end
section
variable {P:Program}{w:World}{H H':Hp}{h h':Heap}{a C dx:Addr}{fs fs':List (Str × V)}
end
section
variable {X:Cx}{pins:List (Addr × Obj)}{σ:St}{H:Hp}{s:Shared}{a C dx:Addr}{fs:List (Str × V)}{f:Str}{v:V}{A:Around}{E:Value->Shared->Prop}
end
section
variable {X:Cx}{o e value:Expr}{f:Str}{pos pos' tpos:Pos}{ta tv:TE}
end
section
variable {X:Cx}{pins:List (Addr × Obj)}{σ:St}{H:Hp}{s:Shared}{A:Around}{E:Value->Shared->Prop}{Q:Value->Shared->Prop}{c:Value}{b:Bool}
end
structure Room (k:Nat) (A:Around):Prop where
 hd:A.handled=none
 dp:A.depth+3*k+5<recursionLimit
 un:A.units+16*k+200<cLine
theorem Room.mono {j k:Nat}{A:Around}(r:Room k A) (h:j<=k):Room j A:=⟨r.hd,by have:=r.dp;lia,by have:=r.un;lia⟩
theorem Room.deeper {k:Nat}{A:Around}(r:Room (k+1) A) (env:Env):Room k (A.deeper env):=
 ⟨r.hd,by have:=r.dp;show A.depth+1+3*k+5<_;lia,by have:=r.un;show A.units+3+16*k+200<_;lia⟩
theorem Room.depth {k:Nat}{A:Around}(r:Room k A):A.depth<recursionLimit:=by have:=r.dp;lia
theorem Room.units {k:Nat}{A:Around}(r:Room k A):A.units+64<cLine:=by have:=r.un;lia
def aFm:TA:=fun _ H Q=>Q [] H
def aFe (ta:TE) (tr:TA):TA:=fun σ H Q=>ta σ H fun x H1=>tr σ H1 fun xs H2=>Q (x::xs) H2
section
variable {X:Cx}{e:Expr}{es:List Expr}{te:TE}{t:TA}{pos:Pos}
theorem jR:PA X [] aFm:=fun _ _ _ _ H Q I h=>Calls.spliced_nil ⟨[],H,I,.nil,h⟩
theorem eP (ha:PE X e te) (hr:PA X es t) (hs:starEach (e::es) X.env=(false,eval e X.env)::starEach es X.env:=by rfl):PA X (e::es) (aFe te t):=by
 intro pos pins s σ H Q I h;rw[hs];show wpAny _ _ (spliced ((false,eval e X.env)::backTo pos (starEach es X.env))) _ _ s;refine Calls.spliced_cons (thn (ha pins s σ H _ I h) fun u s1 ⟨x,H1,I1,r1,q1⟩=>?_);exact thn (hr pos pins s1 σ H1 _ I1 q1) fun us s2 ⟨xs,H2,I2,r2,q2⟩=>⟨x::xs,H2,I2,.cons r1 r2,q2⟩
def aFu (t:TA):TE:=fun σ H Q=>t σ H fun xs H1=>xs.length<=sizeLine/\∀ p,H1 p=none->Q (.ref p) (upd H1 p (.tup xs))
def aFk (t:TA):TE:=fun σ H Q=>t σ H fun xs H1=>xs.length<=sizeLine/\∀ p,H1 p=none->Q (.ref p) (upd H1 p (.lst xs))
theorem LB {x1}(h:PA X es t):PE X (.Tuple es x1 pos) (aFu t):=by
 intro pins s σ H Q I hq;refine wpAny_Tuple_spliced (thn (h pos pins s σ H _ I hq) fun us s1 ⟨xs,H1,I1,r,z,q⟩=>⟨by rw[<- r.length];exact z,?_⟩);have hf:H1 s1.heap.objs.size=none:=I1.hok.fresh (aKv _);refine⟨.ref s1.heap.objs.size,upd H1 s1.heap.objs.size (.tup xs),I1.laid (t':=s1.toks) (fun b u e=>aIz _ e) (aKv _) ?_,rfl,q _ hf⟩;exact⟨z,us,r,⟨_,aJ8 _ rfl,rfl,_,rfl⟩⟩
theorem aCv (h:PA X es t):PE X (.List es pos) (aFk t):=by
 intro pins s σ H Q I hq;refine wpAny_List_spliced (thn (h pos pins s σ H _ I hq) fun us s1 ⟨xs,H1,I1,r,z,q⟩=>⟨by rw[<- r.length];exact z,?_⟩);have hf:H1 s1.heap.objs.size=none:=I1.hok.fresh (aKv _);refine⟨.ref s1.heap.objs.size,upd H1 s1.heap.objs.size (.lst xs),I1.laid (t':=s1.toks) (fun b u e=>aIz _ e) (aKv _) ?_,rfl,q _ hf⟩;exact⟨z,us,0,r,aJ8 _ rfl⟩
end
abbrev Sp:=List V->Hp->VK->XK->Prop
abbrev CXT:=List Env->Hp->Shared->XK->Value->Shared->Prop
structure Env0 (P:Program) (w:World) (K:PySem.W.Frag) (mg:Str->Option Value) (base:Heap) (A:Around) (outer:List Env) (s:Shared) (H:Hp):Prop where
 frames:A.frames=some outer
 mod:Mod K mg base
 bs:∀ b o,base.get? b=some o->s.heap.get? b=some o/\H b=none
 bsz:base.objs.size<=s.heap.objs.size
 funs:s.heap.FunFrames base outer
 frf:∀ b∈frs outer,H b=none
 hok:HOk P w H s.heap
 bare:AllBare s.gens
def CE (outer:List Env) (P:Program) (w:World) (H:Hp) (s:Shared) (Q:VK) (u:Value) (s':Shared):Prop:=
 ∃ v H',s'.os=s.os/\AllBare s'.gens/\Un (frs outer) [] H H' s.heap s'.heap/\HOk P w H' s'.heap/\bK v u/\Q v H'
def CR (CX:CXT) (outer:List Env) (P:Program) (w:World) (H:Hp) (s:Shared) (Q:VK) (E:XK) (r:Result) (s':Shared):Prop:=
 match r with
 | .ok (.ret u)=>CE outer P w H s Q u s'
 | .ok _=>False
 | .error e=>CX outer H s E e s'
structure FnOk (P:Program) (w:World) (K:PySem.W.Frag) (mg:Str->Option Value) (base:Heap) (CX:CXT) (k:Nat) (f:Addr) (fd:FuncData) (ps:List Str) (sp:Sp):Prop where
 len:∀ vs H Q E,sp vs H Q E->vs.length=ps.length
 run:∀ (A:Around) (outer:List Env) (s:Shared) (H:Hp) (args:Args) (us:List Value) (vs:List V) (Q:VK) (E:XK),Room k A->Env0 P w K mg base A outer s H->BindsTo s fd args (ps.zip us)->aU vs us->sp vs H Q E ->
  codeAny (model P w) A (.call (.ref f) args) (CR CX outer P w H s Q E) s
section
variable {X:Cx}{pins:List (Addr × Obj)}{σ:St}{H:Hp}{s s':Shared}
theorem Inv.env0 (I:Inv X pins σ H s):Env0 X.prog X.w X.K X.mg X.base X.A X.stack s H:=
 ⟨I.ok.frames,I.ok.mod,I.bs,aKw I.ok.bsz I.sz,I.stack,I.stkFree,I.hok,I.bare⟩
theorem Inv.after {Q:VK}{u:Value}(I:Inv X pins σ H s) (h:CE X.stack X.prog X.w H s Q u s'):EP X pins σ Q u s':=by
 obtain⟨v,H',os,bare,un,hok,r,q⟩:=h;obtain⟨hh,g,d,t,os'⟩:=s';obtain rfl:os'=s.os:=os;exact⟨v,H',I.call (h':=hh) (g':=g) (d':=d) (t':=t) (ch:=[]) un hok bare (fun b z=>absurd z (by simp)),r,q⟩
end
def aFd (sp:Sp) (dvs:List V) (E:XK) (t:TA):TE:=fun σ H Q=>t σ H fun vs H1=>sp (vs++dvs) H1 Q E
def mN (K:PySem.W.Frag) (fd:FuncData) (ps:List Str) (ds:List Value):Prop:=
 ∀ (s:Shared) (us:List Value),K.In s.heap->(us++ds).length=ps.length->BindsTo s fd ⟨us,[]⟩ (ps.zip (us++ds))
theorem mN.all {K:PySem.W.Frag}{fd:FuncData}{ps:List Str}(h:∀ us:List Value,us.length=ps.length->bindArgs fd ⟨us,[]⟩=pure (ps.zip us)):mN K fd ps []:=fun s us _ hl=>by
 rw[List.append_nil] at hl ⊢;exact .of_eq (h us hl)
def AV (CX:CXT) (X:Cx) (E:XK):Prop:=∀ (pins:List (Addr × Obj)) (σ:St) (H:Hp) (s:Shared) (e:Value) (s':Shared),Inv X pins σ H s->CX X.stack H s E e s'->X.xe e s'
section
variable {X:Cx}{CX:CXT}{k:Nat}{f C:Addr}{fd:FuncData}{ps:List Str}{sp:Sp}{dvs:List V}{ds:List Value}{E:XK}{x m:Str}{p pos apos:Pos}{e o:Expr}{es:List Expr}{ta:TE}{t:TA}
theorem aE9 {pins:List (Addr × Obj)}{σ:St}{H:Hp}{s:Shared}{Q:VK}{us:List Value}{vs:List V}(F:FnOk X.prog X.w X.K X.mg X.base CX k f fd ps sp) (hr:Room k X.A) (hb:mN X.K fd ps ds) (hd:aU dvs ds) (hx:AV CX X E)
  (I:Inv X pins σ H s) (r:aU vs us) (h:sp (vs++dvs) H Q E):wpAny (model X.prog X.w) X.A (call (.ref f) us) (EP X pins σ Q) X.xe s:=by
 have r2:aU (vs++dvs) (us++ds):=r.append hd;have hl:(us++ds).length=ps.length:=by rw[<- r2.length];exact F.len _ _ _ _ h
 refine wpAny_call (codeAny_mono (F.run X.A X.stack s H ⟨us,[]⟩ (us++ds) (vs++dvs) Q E hr I.env0 (hb s us I.kIn hl) r2 h) fun r s' hq=>?_);cases r with
 | error e=>exact hx pins σ H s e s' I hq
 | ok fl=>
  cases fl with
  | ret u=>exact I.after hq
  | next=>exact False.elim hq
  | brk=>exact False.elim hq
  | cont=>exact False.elim hq
theorem KW (F:FnOk X.prog X.w X.K X.mg X.base CX k f fd ps sp) (hr:Room k X.A) (hg:Gl X x) (hm:X.mg x=some (.ref f)) (hk:PySem.W.keepIn X.K (.ref f)=true) (hb:mN X.K fd ps ds) (hd:aU dvs ds) (hx:AV CX X E)
  (ha:PA X (e::es) t) (hdb:(x == ("__debug__" : Str))=false:=by decide) (he:starEach (e::es) X.env=(false,eval e X.env)::starEach es X.env:=by rfl) (hpl:(backTo pos (starEach es X.env)).any (·.1)=false:=by rfl):
  PE X (.Call (.Name x p) (e::es) [] pos) (aFd sp dvs E t):=by
 intro pins s σ H Q I h;refine wpAny_Call_Name_kw (ZN I hg hm ?_ hdb);refine PySem.W.callWith_K (h₀:=X.base) I.ok.mod.kin hk (thn (ha pos pins s σ H _ I h) fun us s1 ⟨vs,H1,I1,r,q⟩=>⟨I1.kIn,?_⟩) he hpl;exact aE9 F hr hb hd hx I1 r q
end
section
variable {X:Cx}{CX:CXT}{k:Nat}{f C:Addr}{fd:FuncData}{ps ks:List Str}{sp:Sp}{E:XK}{x m:Str}{p pos apos kpos:Pos}{e o:Expr}{es:List Expr}{kws:List Keyword}{te ta:TE}{t tk:TA}{nm:Option Str}
variable {g:List Value->List Value->List Value}{gV:List V->List V->List V}
end
structure FnScope (N P:List Str) (sc:Scope):Prop where
 kind:sc.kind=.function
 co:sc.isCoroutine=false
 gen:sc.isGenerator=false
 nd:N.Nodup
 pre:N.take P.length=P
 par:∀ x∈P,sc.names.lookup x=some .local\/sc.names.lookup x=some .cell
 nofree:∀ y∈sc.names,y.2≠.free
theorem GP {kindOf:Str->Option NameKind}{x:Str}:∀ {binds:List (Str × Value)}{m:Str->Option Value},(∀ v,(x,v) ∉ binds)->bindL kindOf binds m x=m x
 | [],_,_=>rfl
 | (n,v)::r,m,h=>by
  unfold bindL;rw[GP fun w hw=>h w (aIr _ hw)]
  split
  ·have:x≠n:=by rintro rfl;exact h v aIs
   simp[this]
  ·rfl
theorem GL {kindOf:Str->Option NameKind}{x:Str}:∀ {binds:List (Str × Value)}{m:Str->Option Value},(∀ v,(x,v) ∉ binds)->bindC kindOf binds m x=m x
 | [],_,_=>rfl
 | (n,v)::r,m,h=>by
  unfold bindC;rw[GL fun w hw=>h w (aIr _ hw)]
  split
  ·rfl
  ·have:x≠n:=by rintro rfl;exact h v aIs
   simp[this]
theorem GM {kindOf:Str->Option NameKind}{x:Str}{v:Value}:∀ {P:List Str}{vs:List Value}{i:Nat}{m:Str->Option Value},P.Nodup->P[i]?=some x->vs[i]?=some v->kindOf x=some .local ->
  bindL kindOf (P.zip vs) m x=some v
 | [],_,_,_,_,h,_,_=>by simp at h
 | _::_,[],_,_,_,_,h,_=>by simp at h
 | p::P,w::vs,0,m,nd,h1,h2,hk=>by
  simp at h1 h2;subst h1;subst h2;show bindL kindOf ((p,w)::P.zip vs) m p=_;unfold bindL;rw[GP fun v hv=>(aKn.mp nd).1 (List.of_mem_zip hv).1,if_pos hk];simp
 | p::P,w::vs,i+1,m,nd,h1,h2,hk=>by
  show bindL kindOf ((p,w)::P.zip vs) m x=_;unfold bindL;exact GM (i:=i) (aKn.mp nd).2 (by simpa using h1) (by simpa using h2) hk
theorem GK {kindOf:Str->Option NameKind}{x:Str}{v:Value}:∀ {P:List Str}{vs:List Value}{i:Nat}{m:Str->Option Value},P.Nodup->P[i]?=some x->vs[i]?=some v->kindOf x≠some .local ->
  bindC kindOf (P.zip vs) m x=some v
 | [],_,_,_,_,h,_,_=>by simp at h
 | _::_,[],_,_,_,_,h,_=>by simp at h
 | p::P,w::vs,0,m,nd,h1,h2,hk=>by
  simp at h1 h2;subst h1;subst h2;show bindC kindOf ((p,w)::P.zip vs) m p=_;unfold bindC;rw[GL fun v hv=>(aKn.mp nd).1 (List.of_mem_zip hv).1,if_neg hk];simp
 | p::P,w::vs,i+1,m,nd,h1,h2,hk=>by
  show bindC kindOf ((p,w)::P.zip vs) m x=_;unfold bindC;exact GK (i:=i) (aKn.mp nd).2 (by simpa using h1) (by simpa using h2) hk
def start (N:List Str) (vs:List V):St:=vs.map some++List.replicate (N.length-vs.length) none
def bA (CX:CXT) (P:Program) (w:World) (K:PySem.W.Frag) (mg:Str->Option Value) (base:Heap) (N:List Str) (qual:Str) (scope:Scope) (f:Addr) (cd:Value) (A:Around) (outer:List Env) (s:Shared) (H:Hp) (E:XK):Cx where
 prog:=P
 w:=w
 K:=K
 mg:=mg
 base:=base
 A:=A.deeper (envOfC qual scope s.heap.objs.size f cd)
 N:=N
 s₀:=s
 H₀:=H
 env:=envOfC qual scope s.heap.objs.size f cd
 outer:=outer
 stack:=envOfC qual scope s.heap.objs.size f cd::outer
 ex:=[]
 calm:=true
 fn:=fun _=>true
 pn:=[]
 xe:=fun e s'=>wpAny (model P w) (A.deeper (envOfC qual scope s.heap.objs.size f cd)) (leaving (envOfC qual scope s.heap.objs.size f cd) e) (fun _ s''=>CX outer H s E e s'') (fun e' s''=>CX outer H s E e' s'') s'
theorem GX {sc:Scope}{n:Nat}{x:Str}(h:sc.names.lookup x=some .cell):∃ c,(cellsFrom n sc.names []).lookup x=some c:=by
 have q:=PySem.W.cellsFrom_some sc.names n [] (.inl h);exact Option.isSome_iff_exists.mp q
theorem YT {CX:CXT}{P:Program}{w:World}{K:PySem.W.Frag}{mg:Str->Option Value}{base:Heap}{N ps:List Str}{qual:Str}{scope:Scope}{f:Addr}{cd:Value}{A:Around}{outer:List Env}{s s1:Shared}{H:Hp}{E:XK}{us:List Value}{vs:List V}
  (S:FnScope N ps scope) (hd:A.handled=none) (e0:Env0 P w K mg base A outer s H) (hl:vs.length=ps.length) (r:aU vs us)
  (x:InCallC s s.heap.objs.size (bindL (envOfC qual scope s.heap.objs.size f cd).kindOf (ps.zip us) fun _=>none) (cellsFrom (s.heap.objs.size+1) scope.names []) (bindC (envOfC qual scope s.heap.objs.size f cd).kindOf (ps.zip us) fun _=>none) s1):
  Inv (bA CX P w K mg base N qual scope f cd A outer s H E) [] (start N vs) H s1:=by
 have hpl:ps.length<=N.length:=by have:=congrArg List.length S.pre;rw[List.length_take] at this;lia
 obtain⟨h1,tk,rfl,hk⟩:=x.done;have noA:∀ b:Addr,b ∉ (bA CX P w K mg base N qual scope f cd A outer s H E).ex:=fun b z=>absurd (show b∈([]:List Addr) from z) (by simp);refine⟨⟨e0.mod,S.kind,rfl,rfl,aKv _,fun y z c h1 h2=>?_,fun y hy=>?_,fun y c _ h=>?_,fun _=>hd,Around.frames_deeper e0.frames,.inr ⟨rfl,rfl⟩,fun b z=>absurd z (noA b),e0.bs,e0.bsz,fun b _ _=>noA b,fun b z=>absurd z (noA b),e0.funs,e0.frf⟩,
  rfl,e0.bare,Un.kept hk,⟨_,x.toInCall.ns,fun i y v h1 h2 h3=>?_⟩,fun y c h=>⟨_,x.cell y c h⟩,e0.hok.fresh (aKv _),fun y c h=>?_,fun p hp=>absurd (show p∈([]:List (Addr × Obj)) from hp) (by simp),e0.hok.kept hk,?_⟩
 ·exact name_of_addr x.apart (PySem.mem_of_lookup h1) (PySem.mem_of_lookup h2)
 ·have hy:scope.names.lookup y=some .cell\/scope.names.lookup y=some .free:=hy
  rcases hy with hy | hy
  ·exact GX hy
  ·exact absurd rfl (S.nofree _ (PySem.mem_of_lookup hy))
 ·exact aKu (x.above y c (PySem.mem_of_lookup h))
 ·have hi:i<vs.length:=by
   unfold start at h2
   by_cases hi:i<vs.length
   ·exact hi
   ·rw[List.getElem?_append_right (by simpa using hi)] at h2
    rw[aJz] at h2;split at h2<;>cases h2
  have ha:vs[i]?=some v:=by
   unfold start at h2;rw[aJt (by simpa using hi),aJx] at h2;cases e:vs[i]? with
   | none=>rw[e] at h2;cases h2
   | some a=>rw[e] at h2;cases h2;rfl
  obtain⟨u,hu,rv⟩:=r.get ha;have hp:ps[i]?=some y:=by
   rw[<- S.pre,List.getElem?_take_of_lt (by lia)];exact h1
  have ndP:ps.Nodup:=by rw[<- S.pre];exact S.nd.sublist (List.take_sublist _ _)
  refine⟨u,rv,?_⟩;rcases S.par y (aKl hp) with k | k
  ·exact .inl ⟨k,GM ndP hp hu k⟩
  ·obtain⟨c,e⟩:=GX (n:=s.heap.objs.size+1) k
   refine .inr ⟨.inl k,c,e,?_⟩;have q:=x.cell y c e;rw[GK ndP hp hu (by show scope.names.lookup y≠_;rw[k];decide)] at q;exact q
 ·exact e0.hok.fresh (aKu (x.above y c (PySem.mem_of_lookup h)))
 ·unfold start
  show _=N.length;rw[aK2,aK5,aK8];lia
theorem WH {CX:CXT}{P:Program}{w:World}{K:PySem.W.Frag}{mg:Str->Option Value}{base:Heap}{k:Nat}{f:Addr}{name qual:Str}{params:Arguments}{body:List Stmt}{scope:Scope}{dV kV doc pm cdv ct oc:Value}{an od:Option Addr}
  {osl:Array (Option Value)} {N ps:List Str} {sp:Sp} (lk:K.lookup f=some ⟨oc,od,.func (PySem.W.fnOf name qual params body scope dV kV doc pm an cdv ct),osl⟩) (hcd:PySem.W.codeIn K cdv qual=true) (S:FnScope N ps scope)
  (len:∀ vs H Q E,sp vs H Q E->vs.length=ps.length)
  (hbody:∀ (A:Around) (outer:List Env) (s:Shared) (H:Hp) (vs:List V) (Q:VK) (E:XK),Room k (A.deeper (envOfC qual scope s.heap.objs.size f cdv))->sp vs H Q E ->
   ∃ t,PSs (bA CX P w K mg base N qual scope f cdv A outer s H E) body t/\t { nx:=fun _ H'=>Q .non H',rt:=Q } (start N vs) H):
  FnOk P w K mg base CX (k+1) f (PySem.W.fnOf name qual params body scope dV kV doc pm an cdv ct) ps sp:=by
 refine⟨len,fun A outer s H args us vs Q E hr e0 hb r hsp=>?_⟩;have hl:=len _ _ _ _ hsp;have KX:K.In s.heap:=e0.mod.kin.keeps fun b o e=>(e0.bs b o e).1;have lim:s.heap.NoLimit:=e0.mod.nolimit.keeps fun b o e=>(e0.bs b o e).1;have hkind:∀ y∈ps.zip us,scope.names.lookup y.1=some .local\/(scope.names.lookup y.1=some .cell/\((cellsFrom (s.heap.objs.size+1) scope.names []).lookup y.1).isSome=true):=fun ⟨n,v⟩ hy=>by
  rcases S.par n (List.of_mem_zip hy).1 with q | q
  ·exact .inl q
  ·exact .inr ⟨q,PySem.W.cellsFrom_some _ _ _ (.inl q)⟩
 refine codeAny_call_function hr.depth (KX _ _ lk) rfl S.co S.gen rfl (PySem.W.codeRec_of KX hcd) (hb _ _ _ _ ?_);refine wpAny_newFunctionEnv_cells S.kind hkind fun env he s1 x=>?_;subst he;refine⟨lim.keeps x.toInCall.keep,codeAny_func ?_⟩;obtain⟨t,ht,hq⟩:=hbody A outer s H vs Q E (hr.deeper _) hsp;have I:Inv (bA CX P w K mg base N qual scope f cdv A outer s H E) [] (start N vs) H s1:=YT S hr.hd e0 hl r x;refine wpAny_mono (ht [] s1 (start N vs) H _ I hq) (fun fl s' hs=>?_) fun e s' hs=>hs;have fin:∀ {σ':St} {H':Hp} {v:V} {u:Value},Inv (bA CX P w K mg base N qual scope f cdv A outer s H E) [] σ' H' s'->bK v u->Q v H'->CE outer P w H s Q u s':=
  fun {σ' H' v u} J rv q=>⟨v,H',J.os,J.bare,J.base,J.hok,rv,q⟩
 cases fl with
 | ret u=>
  obtain⟨v,σ',H',J,rv,q⟩:=hs;exact fin J rv q
 | next=>
  obtain⟨σ',H',J,q⟩:=hs;exact fin (v:=V.non) (u:=Value.none) J rfl q
 | brk=>
  obtain⟨_,_,_,q⟩:=hs;exact False.elim q
 | cont=>
  obtain⟨_,_,_,q⟩:=hs;exact False.elim q
section
variable {X:Cx}{x:Str}{p pos:Pos}{e:Expr}{es:List Expr}{t:TA}{id T:String}{r:List V->Hp->VK->Prop}
def tCB (r:List V->Hp->VK->Prop) (t:TA):TE:=fun σ H Q=>t σ H fun vs H1=>r vs H1 Q
theorem pB (hc:fS X (.builtin id) r) (hg:Gl X x) (hm:X.mg x=none) (hv:bootBuiltins x=some (.builtin id)) (ha:PA X (e::es) t) (hn:x ≠ "__name__" := by decide) (hdb:(x == ("__debug__" : Str))=false:=by decide)
  (he:starEach (e::es) X.env=(false,eval e X.env)::starEach es X.env:=by rfl) (hpl:(backTo pos (starEach es X.env)).any (·.1)=false:=by rfl):PE X (.Call (.Name x p) (e::es) [] pos) (tCB r t):=by
 intro pins s σ H Q I h;refine wpAny_Call_Name_kw (nV I hg hm hv ?_ hn hdb);exact PyProof.Rows.callWith_builtin1 (thn (ha pos pins s σ H _ I h) fun us s1 ⟨vs,H1,I1,r1,q1⟩=>hc pins s1 σ H1 vs us Q I1 r1 q1) he hpl
theorem KY (hc:fS X (.type T) r) (hg:Gl X x) (hm:X.mg x=none) (hv:bootBuiltins x=some (.type T)) (ha:PA X (e::es) t) (hn:x ≠ "__name__" := by decide) (hdb:(x == ("__debug__" : Str))=false:=by decide)
  (he:starEach (e::es) X.env=(false,eval e X.env)::starEach es X.env:=by rfl) (hpl:(backTo pos (starEach es X.env)).any (·.1)=false:=by rfl):PE X (.Call (.Name x p) (e::es) [] pos) (tCB r t):=by
 intro pins s σ H Q I h;refine wpAny_Call_Name_kw (nV I hg hm hv ?_ hn hdb);exact PyProof.Rows.callWith_type1 (thn (ha pos pins s σ H _ I h) fun us s1 ⟨vs,H1,I1,r1,q1⟩=>hc pins s1 σ H1 vs us Q I1 r1 q1) he hpl
end
end L2
namespace HT
open PySem PyProof.Rows
section
open PySem.SeqAt
open PySem.AutoSeq1 (wpAny_loadPart')
open PySem.MeetsSeq PySem.MeetsSeq2 PySem.MeetsSeq3
end
section
variable {prog:Program}{w:World}{A:Around}{E:Value->Shared->Prop}{s:Shared}
end
end HT
namespace L2
open PySem PySem.Spec PyProof.Rows
abbrev TO:=St->Hp->(Option Int->Hp->Prop)->Prop
def PO (X:Cx) (e:Option Expr) (t:TO):Prop:=
 ∀ (pins:List (Addr × Obj)) (s:Shared) (σ:St) (H:Hp) (Q:Option Int->Hp->Prop),Inv X pins σ H s->t σ H Q ->
  wpAny (model X.prog X.w) X.A (evalPart e X.env) (fun u s'=>∃ o H',Inv X pins σ H' s'/\IsPart u o/\Q o H') X.xe s
def aFn:TO:=fun _ H Q=>Q none H
def aFq (t:TE):TO:=fun σ H Q=>t σ H fun x H1=>∃ i,x=.int i/\Q (some i) H1
section
variable {X:Cx}{e:Expr}{te:TE}{lo hi:Option Expr}{tl th:TO}{pos p2:Pos}
theorem aDa:PO X none aFn:=by
 intro pins s σ H Q I h;rw[evalPart_none];exact wpAny_pure ⟨none,H,I,.none,h⟩
theorem aDb (h:PE X e te):PO X (some e) (aFq te):=by
 intro pins s σ H Q I hw;rw[evalPart_some];refine thn (h pins s σ H _ I hw) fun u s1 ⟨x,H1,I1,r1,q1⟩=>?_;obtain⟨i,rfl,q⟩:=q1;obtain⟨t,rfl⟩:=r1;exact⟨some i,H1,I1,.int i t,q⟩
end
def ixN (n:Nat) (i:Int):Option Nat:=if 0<=i then (if i<n then some i.toNat else none) else if -(n:Int)<=i then some (i+n).toNat else none
def atI {α:Type} (xs:List α) (i:Int):Option α:=(ixN xs.length i).bind fun j=>xs[j]?
theorem JR {n:Nat}{i:Int}{j:Nat}(h:ixN n i=some j):seqIndex? i n=some j/\j<n /\ -(n:Int)<=i/\i<n:=by
 unfold ixN at h
 by_cases h0:0<=i
 ·rw[if_pos h0] at h
  by_cases h1:i<n
  ·rw[if_pos h1] at h
   have e:i.toNat=j:=aIo h;exact⟨by rw[seqIndex_of h0 h1,e],by lia,by lia,h1⟩
  ·rw[if_neg h1] at h;cases h
 ·rw[if_neg h0] at h
  by_cases h1 : -(n:Int)<=i
  ·rw[if_pos h1] at h
   have e:(i+n).toNat=j:=aIo h;exact⟨by rw[seqIndex_neg (by lia) h1,e],by lia,h1,by lia⟩
  ·rw[if_neg h1] at h;cases h
theorem BB {α:Type}{xs:List α}{i:Int}{v:α}(h:atI xs i=some v):∃ j,seqIndex? i xs.length=some j/\xs[j]?=some v/\j<xs.length /\ -(xs.length:Int)<=i/\i<xs.length:=by
 unfold atI at h;cases e:ixN xs.length i with
 | none=>rw[e] at h;cases h
 | some j=>
  rw[e] at h;obtain⟨h1,h2,h3,h4⟩:=JR e;exact⟨j,h1,h,h2,h3,h4⟩
theorem jH {α:Type}{xs:List α}{j:Nat}{v:α}(h:xs[j]?=some v):atI xs (j:Int)=some v:=by
 have hj:j<xs.length:=(aIt.mp h).1;have e:ixN xs.length (j:Int)=some j:=by
  unfold ixN;rw[if_pos (by lia),if_pos (by lia)];simp
 unfold atI;rw[e];exact h
def FU (b:Expr):Prop:=∀ o i,subscripted b false o i=operate [o,i] (getItem o i)
def IxR (X:Cx) (r:R2):Prop:=
 ∀ (value slice:Expr) (pins:List (Addr × Obj)) (s:Shared) (σ:St) (H:Hp) (x y:V) (v u:Value) (Q:VK),Inv X pins σ H s->bK x v->bK y u->r x y H Q ->
  subscripted slice false v u=operate [v,u] (getItem v u)->wpAny (model X.prog X.w) X.A (subscriptTail value slice v u) (EP X pins σ Q) X.xe s
def MtR (X:Cx) (id:String) (r:V->List V->Hp->VK->Prop):Prop:=
 ∀ (pins:List (Addr × Obj)) (s:Shared) (σ:St) (H:Hp) (x:V) (xs:List V) (v:Value) (us:List Value) (Q:VK),Inv X pins σ H s->bK x v->aU xs us->r x xs H Q ->
  wpAny (model X.prog X.w) X.A (call (.builtin id) (v::us)) (EP X pins σ Q) X.xe s
section
variable {X:Cx}{a b:Expr}{ta tb:TE}{pos:Pos}
theorem IxR.or {r r':R2}(h:IxR X r) (h':IxR X r'):IxR X (fun x y H Q=>r x y H Q\/r' x y H Q):=by
 intro value slice pins s σ H x y v u Q I rx ry q hs;rcases q with q | q
 ·exact h value slice pins s σ H x y v u Q I rx ry q hs
 ·exact h' value slice pins s σ H x y v u Q I rx ry q hs
theorem aCu {r:R2}(hr:IxR X r) (ha:PE X a ta) (hb:PE X b tb) (hs:FU b):PE X (.Subscript a b pos) (tOp r ta tb):=by
 intro pins s σ H Q I h;exact Subscript_ (BC ha hb I h fun v u s2 x y H2 I2 rx ry q=>hr a b pins s2 σ H2 x y v u Q I2 rx ry q (hs _ _))
def LM (K:PySem.W.Frag):R2:=fun x y H Q=>∃ p xs i v,x=.ref p/\y=.int i/\SqL K H p xs/\atI xs i=some v/\Q v H
def LO (K:PySem.W.Frag):R2:=fun x y H Q=>∃ p xs i v,x=.ref p/\y=.int i/\SqT K H p xs/\atI xs i=some v/\Q v H
def LN:R2:=fun x y H Q=>∃ z i c,x=.str z/\y=.int i/\z.length<=sizeLine/\atI z.cps.toList i=some c/\Q (.str ⟨#[c]⟩) H
theorem ZB:IxR X (LM X.K):=by
 intro value slice pins s σ H x y v u Q I rx ry h hs;obtain⟨p,xs,i,z,rfl,rfl,hq,he,q⟩:=h;cases rx;obtain⟨t,rfl⟩:=ry;obtain⟨its,r,pl,hz⟩:=I.list hq;obtain⟨j,h1,h2,h3,h4,h5⟩:=BB he;obtain⟨w,ew,rw'⟩:=r.get h2;have hl:=r.length;have hn:=sD;have fin:EP X pins σ Q w s:=⟨z,H,I,rw',q⟩
 by_cases h0:0<=i
 ·have hj:i.toNat=j:=by
   rw[seqIndex_of h0 h5] at h1;exact aIo h1
  exact item_listR pl.isList h0 (by lia) (by rw[hj];simpa using ew) fin hs
 ·have hj:(i+(its.toArray.size:Int)).toNat=j:=by
   rw[seqIndex_neg (by lia) h4] at h1;rw[aIx,<- hl];exact aIo h1
  exact subscriptTail_builtinR (x:=w) pl.isList.typeIs slot_list_getitem.lookup
   (wpAny_getItem_list_neg (Q:=fun r s'=>r=w/\EP X pins σ Q r s') pl.isList (by lia) (by rw[aIx]<;>lia) (by lia) (by rw[hj];simpa using ew) ⟨rfl,fin⟩) hs
theorem ZE:IxR X (LO X.K):=by
 intro value slice pins s σ H x y v u Q I rx ry h hs;obtain⟨p,xs,i,z,rfl,rfl,hq,he,q⟩:=h;cases rx;obtain⟨t,rfl⟩:=ry;obtain⟨its,r,pl,hz⟩:=I.tuple hq;obtain⟨j,h1,h2,h3,h4,h5⟩:=BB he;obtain⟨w,ew,rw'⟩:=r.get h2;have hl:=r.length;have hn:=sD;have fin:EP X pins σ Q w s:=⟨z,H,I,rw',q⟩;exact subscriptTail_builtinR (x:=w) pl.typeIs slot_tuple_getitem.lookup
  (getItem_tuple (j:=j) (Q:=fun r s'=>r=w/\EP X pins σ Q r s') pl (by lia) (by lia) (by rw[aIx,<- hl];exact h1) (by simpa using ew) ⟨rfl,fin⟩) hs
theorem ZD:IxR X LN:=by
 intro value slice pins s σ H x y v u Q I rx ry h hs;obtain⟨z,i,c,rfl,rfl,hz,he,q⟩:=h;obtain⟨t,rfl⟩:=rx;obtain⟨t',rfl⟩:=ry;obtain⟨j,h1,h2,h3,h4,h5⟩:=BB he;have hl:z.cps.toList.length=z.length:=by simp[Str.length]
 rw[hl] at h1 h4 h5;have hn:=sD;exact tail_any (typeIs_str s z t) slot_str_getitem.lookup (getItem_str (c:=c) (by
  have e1:decide (i < -(2^63:Int))=false:=decide_eq_false (by lia);have e2:decide (i >= 2^63)=false:=decide_eq_false (by lia);rw[e1,e2,Bool.or_false]) (by rw[h1];simpa using h2) ⟨.str ⟨#[c]⟩,H,I.tok _,⟨_,rfl⟩,q⟩) hs
def rIx (K:PySem.W.Frag):R2:=fun x y H Q=>LM K x y H Q\/LO K x y H Q\/LN x y H Q
theorem ZC:IxR X (rIx X.K):=ZB.or (ZE.or ZD)
theorem ZS (its:List Value) (n j:Nat) (u:Value):Obj.mapSeq (·.setIfInBounds j u) { cls:=.type "list",data:=.seq its.toArray n }={ cls:=.type "list",data:=.seq (its.set j u).toArray n }:=by
 simp[Obj.mapSeq]
theorem Inv.lst {pins:List (Addr × Obj)}{σ:St}{H:Hp}{s:Shared}{p:Addr}{xs:List V}(I:Inv X pins σ H s) (h:H p=some (.lst xs)):
  ∃ (its:List Value) (n:Nat),aU xs its/\s.heap.get? p=some { cls:=.type "list",data:=.seq its.toArray n }/\xs.length<=sizeLine:=by
 obtain⟨z,its,n,r,e⟩:=I.hok p _ h;exact⟨its,n,r,e,z⟩
theorem Inv.lstUpd {pins:List (Addr × Obj)}{σ:St}{H:Hp}{s:Shared}{p:Addr}{xs ys:List V}{its its':List Value}{n n':Nat}{f:Obj->Obj}(I:Inv X pins σ H s) (h:H p=some (.lst xs))
  (ho:s.heap.get? p=some { cls:=.type "list",data:=.seq its.toArray n }) (hf:f { cls:=.type "list",data:=.seq its.toArray n }={ cls:=.type "list",data:=.seq its'.toArray n' }) (r:aU ys its') (hz:ys.length<=sizeLine) (t:Nat):
  Inv X pins σ (upd H p (.lst ys)) { s with heap:=s.heap.update p f,toks:=t }:=by
 have e:(s.heap.update p f).get? p=some { cls:=.type "list",data:=.seq its'.toArray n' }:=by
  rw[Heap.get?_update_self f ho (by rw[hf]<;>rfl),hf]
 refine I.write (x:=p) (e:=p) (by rw[h];trivial) (.inl rfl) (fun b u hb q=>(Heap.get?_update_other _ _ (Ne.symm hb)).trans q) ⟨_,e⟩ ?_;exact⟨hz,its',n',r,e⟩
def aDy:V->V->V->Hp->(Hp->Prop)->Prop:=fun o i v H Q=>∃ p xs k j,o=.ref p/\i=.int k/\H p=some (.lst xs)/\ixN xs.length k=some j/\Q (upd H p (.lst (xs.set j v)))
theorem MR:FT X aDy:=by
 intro pins s σ H o i v ov iv u Q I ro ri rv h;obtain⟨p,xs,k,j,rfl,rfl,hp,hj,q⟩:=h;cases ro;obtain⟨t,rfl⟩:=ri;obtain⟨its,n,r,ho,hz⟩:=I.lst hp;obtain⟨h1,h2,h3,h4⟩:=JR hj;have hl:=r.length;have hn:=sD;have I':Inv X pins σ (upd H p (.lst (xs.set j v))) { s with heap:=s.heap.update p (Obj.mapSeq (·.setIfInBounds j u)) }:=
  I.lstUpd hp ho (ZS its n j u) (r.set rv j) (by rw[aK9];exact hz) s.toks
 by_cases h0:0<=k
 ·have hk:k.toNat=j:=by
   rw[seqIndex_of h0 h4] at h1;exact aIo h1
  exact PySem.W.ki_setAt ho h0 (by lia) (by rw[aIx,<- hl];exact h4) (by rw[hk];exact⟨_,I',q⟩)
 ·have hk:(k+(its.toArray.size:Int)).toNat=j:=by
   rw[seqIndex_neg (by lia) h3] at h1;rw[aIx,<- hl];exact aIo h1
  exact PySem.W.ki_setBack ho (by lia) (by rw[aIx,<- hl];exact h3) (by lia) (by rw[hk];exact⟨_,I',q⟩)
def jI:V->Bool
 | .non=>true
 | .bl _=>true
 | .int _=>true
 | .str _=>true
 | _=>false
def eqV:V->V->Bool
 | .non,.non=>true
 | .bl a,.bl b=>a == b
 | .bl a,.int b=>(if a then 1 else 0) == b
 | .int a,.bl b=>a == (if b then 1 else 0)
 | .int a,.int b=>a == b
 | .str a,.str b=>a == b
 | _,_=>false
theorem WE {A:Around}{s:Shared}{y x:V}{u v:Value}(ry:bK y u) (rx:bK x v) (fy:jI y=true) (fx:jI x=true):SeqAt.EqAt A s u v (eqV y x):=by
 cases y with
 | non=>
  cases ry;cases x with
  | non=>cases rx;exact SeqAt.EqAt.same _
  | bl b=>cases rx;exact SeqAt.EqAt.none_bool b
  | int b=>obtain⟨t,rfl⟩:=rx;exact SeqAt.EqAt.none_int b t
  | str b=>obtain⟨t,rfl⟩:=rx;exact SeqAt.EqAt.none_str b t
  | _=>exact absurd (show false=true from fx) aJ5
 | bl a=>
  cases ry;cases x with
  | non=>cases rx;exact SeqAt.EqAt.bool_none a
  | bl b=>cases rx;exact SeqAt.EqAt.bool_bool a b
  | int b=>obtain⟨t,rfl⟩:=rx;exact SeqAt.EqAt.bool_int a b t
  | str b=>obtain⟨t,rfl⟩:=rx;exact SeqAt.EqAt.bool_str a b t
  | _=>exact absurd (show false=true from fx) aJ5
 | int a=>
  obtain⟨t',rfl⟩:=ry;cases x with
  | non=>cases rx;exact SeqAt.EqAt.int_none a t'
  | bl b=>cases rx;exact SeqAt.EqAt.int_bool a t' b
  | int b=>obtain⟨t,rfl⟩:=rx;exact SeqAt.EqAt.int_int a t' b t
  | str b=>obtain⟨t,rfl⟩:=rx;exact SeqAt.EqAt.int_str a t' b t
  | _=>exact absurd (show false=true from fx) aJ5
 | str a=>
  obtain⟨t',rfl⟩:=ry;cases x with
  | non=>cases rx;exact SeqAt.EqAt.str_none a t'
  | bl b=>cases rx;exact SeqAt.EqAt.str_bool a t' b
  | int b=>obtain⟨t,rfl⟩:=rx;exact SeqAt.EqAt.str_int a t' b t
  | str b=>obtain⟨t,rfl⟩:=rx;exact SeqAt.EqAt.str_str a t' b t
  | _=>exact absurd (show false=true from fx) aJ5
 | _=>exact absurd (show false=true from fy) aJ5
def eqU (x:V) (u:Value):Bool:=match u with
 | .none=>eqV .non x
 | .bool b=>eqV (.bl b) x
 | .int i _=>eqV (.int i) x
 | .str z _=>eqV (.str z) x
 | _=>false
theorem HZ {x y:V}{u:Value}(r:bK y u) (f:jI y=true):eqU x u=eqV y x:=by
 cases y with
 | non=>cases r;rfl
 | bl b=>cases r;rfl
 | int i=>obtain⟨t,rfl⟩:=r;rfl
 | str z=>obtain⟨t,rfl⟩:=r;rfl
 | _=>exact absurd (show false=true from f) aJ5
theorem BA {x:V}:∀ {xs:List V}{us:List Value},aU xs us->xs.all jI=true->us.any (eqU x)=xs.any fun y=>eqV y x
 | _,_,.nil,_=>rfl
 | y::xs,u::us,.cons r t,f=>by
  rw[aJm,aJ1] at f;rw[List.any_cons,List.any_cons,HZ r f.1,BA t f.2]
theorem CV {A:Around}{s:Shared}{x:V}{v:Value}(rx:bK x v) (fx:jI x=true):∀ {xs:List V}{us:List Value},aU xs us->xs.all jI=true->∀ u∈us,SeqAt.EqAt A s u v (eqU x u)
 | _,_,.nil,_=>fun u hu=>by cases hu
 | y::xs,u::us,.cons r t,f=>fun u' hu=>by
  rw[aJm,aJ1] at f;rcases aJ0.mp hu with rfl | hu
  ·rw[HZ r f.1];exact WE r rx f.1 fx
  ·exact CV rx fx t f.2 u' hu
def inV (x:V) (xs:List V):Bool:=xs.any fun y=>eqV y x
def rIn (K:PySem.W.Frag) (neg:Bool):R2:=fun x y H Q=>∃ p xs,y=.ref p/\(SqL K H p xs\/SqT K H p xs)/\jI x=true/\xs.all jI=true/\Q (.bl (if neg then !inV x xs else inV x xs)) H
theorem aCa:OpR X (compareOp .In) (rIn X.K false):=by
 intro pins s σ H x y v u Q I rx ry h;obtain⟨p,xs,rfl,hq,fx,fs,q⟩:=h;cases ry;rcases hq with hq | hq
 ·obtain⟨its,r,pl,hz⟩:=I.list hq
  refine SeqAt.in_listAt (eqU x) pl.isList (fun w hw=>CV rx fx r fs w (by simpa using hw)) ⟨.bl _,H,I,rfl,?_⟩;rw[show its.toArray.any (eqU x)=its.any (eqU x) by simp,BA r fs];exact q
 ·obtain⟨its,r,pl,hz⟩:=I.tuple hq
  refine SeqAt.in_tupleAt (eqU x) pl (fun w hw=>CV rx fx r fs w (by simpa using hw)) ⟨.bl _,H,I,rfl,?_⟩;rw[show its.toArray.any (eqU x)=its.any (eqU x) by simp,BA r fs];exact q
theorem SI:fS X (.builtin "len") (fun xs H Q=>∃ p ys,xs=[.ref p]/\(SqL X.K H p ys\/SqT X.K H p ys)/\Q (.int ys.length) H):=by
 intro pins s σ H xs us Q I r h;obtain⟨p,ys,rfl,hq,q⟩:=h;obtain⟨u,rfl,rx⟩:=mK r;cases rx;have hn:=sD;rcases hq with hq | hq
 ·obtain⟨its,r',pl,hz⟩:=I.list hq
  have hlen:=r'.length;exact Calls.call_len_list pl.isList (by simp only[aIx]<;>lia) ⟨.int ys.length,H,I.tok _,⟨s.toks+1,by rw[aIx,hlen]⟩,q⟩
 ·obtain⟨its,r',pl,hz⟩:=I.tuple hq
  have hlen:=r'.length;exact len_tuple pl (by simp only[aIx]<;>lia) ⟨.int ys.length,H,I.tok _,⟨s.toks+1,by rw[aIx,hlen]⟩,q⟩
theorem SJ:fS X (.type "list") (fun xs H Q=>∃ p ys,xs=[.ref p]/\(SqL X.K H p ys\/SqT X.K H p ys)/\∀ l,H l=none->Q (.ref l) (upd H l (.lst ys))):=by
 intro pins s σ H xs us Q I r h;obtain⟨p,ys,rfl,hq,q⟩:=h;obtain⟨u,rfl,rx⟩:=mK r;cases rx;have fin:∀ (its:List Value),aU ys its->ys.length<=sizeLine->∀ (h':Heap) (c':Nat),(∀ b o',s.heap.get? b=some o'->h'.get? b=some o') ->
   h'.get? s.heap.objs.size=some { cls:=.type "list",dict:=none,data:=.seq its.toArray c',slots:=#[] }->EP X pins σ Q (.ref s.heap.objs.size) { s with heap:=h' }:=fun its r' hz h' c' kp e=>
  ⟨.ref s.heap.objs.size,_,I.laid (t':=s.toks) kp (aKv _) (show dM X.prog X.w _ h' _ (.lst ys) from ⟨hz,its,c',r',e⟩),rfl,q _ (I.hok.fresh (aKv _))⟩
 rcases hq with hq | hq
 ·obtain⟨its,r',pl,hz⟩:=I.list hq
  have hlen:=r'.length;obtain⟨o,ho,hc,n,hd⟩:=pl.isList;exact call_list_seq p (.inl rfl) ho hc hd (fun h' c' kp e=>fin its r' hz h' c' kp e) (by simp only[aIx]<;>lia)
 ·obtain⟨its,r',pl,hz⟩:=I.tuple hq
  have hlen:=r'.length;obtain⟨o,ho,hc,n,hd⟩:=pl;exact call_list_seq p (.inr rfl) ho hc hd (fun h' c' kp e=>fin its r' hz h' c' kp e) (by simp only[aIx]<;>lia)
def tyV (K : PySem.W.Frag) (T : String) (x : V) (H : Hp) : Prop := match x with
 | .str _ => T = "str"
 | .int _ => T = "int"
 | .ref p => (T = "list" /\ ∃ xs, SqL K H p xs) \/ (T = "tuple" /\ ∃ o, K.lookup p = some o /\ o.cls = .type "tuple" /\ o.dict = none) \/
   (T = "dict" /\ ((∃ kvs, H p = some (.dK kvs)) \/ ∃ kvs, H p = some (.dT kvs))) \/ (T = "set" /\ ∃ S n, H p = some (.set S n))
 | _ => False
theorem NR {pins:List (Addr × Obj)}{σ:St}{H:Hp}{s:Shared}{T:String}{x:V}{v:Value}(I:Inv X pins σ H s) (r:bK x v) (ty:tyV X.K T x H):
  s.TypeIs v T/\∀ a,v=.ref a->∃ ob,s.heap.get? a=some ob/\ob.dict=none:=by
 cases x with
 | str z=>
  obtain⟨t,rfl⟩:=r;cases (show T = "str" from ty);exact⟨typeIs_str s z t,fun _ e=>nomatch e⟩
 | int i=>
  obtain⟨t,rfl⟩:=r;cases (show T = "int" from ty);exact⟨typeIs_int s i t,fun _ e=>nomatch e⟩
 | ref p=>
  cases r;rcases ty with ⟨rfl,xs,hq⟩ | ⟨rfl,o,hk,hc,hd⟩ | ⟨rfl,hk⟩ | ⟨rfl,S,n,hk⟩
  ·obtain⟨its,_,pl,_⟩:=I.list hq
   refine⟨pl.isList.typeIs,fun a e=>?_⟩;cases e;obtain⟨o,n,e,c,hd,_⟩:=pl;exact⟨o,e,hd⟩
  ·refine⟨⟨o,I.kIn p o hk,hc⟩,fun a e=>?_⟩
   cases e;exact⟨o,I.kIn _ o hk,hd⟩
  ·have z:∃ o,s.heap.get? p=some o/\o.ExactDict:=by
    rcases hk with ⟨kvs,hk⟩ | ⟨kvs,hk⟩
    ·obtain⟨_,_,_,_,o,_,_,e,ex,_⟩:=I.hok p _ hk
     exact⟨o,e,ex⟩
    ·obtain⟨_,_,_,_,o,_,_,e,ex,_⟩:=I.hok p _ hk
     exact⟨o,e,ex⟩
   obtain⟨o,e,ex⟩:=z;refine⟨⟨o,e,ex.1⟩,fun a e2=>?_⟩;cases e2;exact⟨o,e,ex.2.1⟩
  ·obtain⟨o,_,_,_,e,ex,_⟩:=I.hok p _ hk
   refine⟨⟨o,e,ex.1⟩,fun a e2=>?_⟩;cases e2;exact⟨o,e,ex.2.1⟩
 | _=>exact False.elim ty
def aFc (K:PySem.W.Frag) (T:String) (r:V->List V->Hp->VK->Prop) (to:TE):TE:=fun σ H Q=>to σ H fun x H1=>tyV K T x H1/\r x [] H1 Q
def tBM (K:PySem.W.Frag) (T:String) (r:V->List V->Hp->VK->Prop) (to:TE) (t:TA):TE:=fun σ H Q=>to σ H fun x H1=>tyV K T x H1/\t σ H1 fun xs H2=>r x xs H2 Q
variable {o e:Expr}{es:List Expr}{to:TE}{t:TA}{name:Str}{apos cpos:Pos}{T id:String}{r:V->List V->Hp->VK->Prop}
theorem KU (pa:PlainAttrs T) (slot:Slot T name id) (hty:typeOf (.builtin id)=pure (.type "method_descriptor")) (hm:MtR X id r) (ho:PE X o to)
  (hbase:attributeBase o name X.env (eval o X.env)=eval o X.env:=by rfl) (hline:(apos.endLine == cpos.line)=true:=by rfl):PE X (.Call (.Attribute o name apos) [] [] cpos) (aFc X.K T r to):=by
 intro pins s σ H Q I h;refine wpAny_Call_method0_late hbase hline (thn (ho pins s σ H _ I h) fun v s1 ⟨x,H1,I1,r1,ty,q1⟩=>?_);obtain⟨h1,h2⟩:=NR I1 r1 ty;exact⟨T,id,pa,slot,hty,h1,h2,Calls.callWith_builtin rfl (PySem.evalArgs_none (hm pins s1 σ H1 x [] v [] Q I1 r1 .nil q1))⟩
theorem uW (pa:PlainAttrs T) (slot:Slot T name id) (hty:typeOf (.builtin id)=pure (.type "method_descriptor")) (hm:MtR X id r) (ho:PE X o to) (ha:PA X (e::es) t)
  (hbase:attributeBase o name X.env (eval o X.env)=eval o X.env:=by rfl)
  (hfew:((backTo cpos (starEach (e::es) X.env)).all (fun x=>!x.1)&&(backToKw cpos (keywordEach [] X.env)).all (fun x=>x.1.isSome)
   && decide ((e::es).length+([]:List Keyword).length+(if ([]:List Keyword).isEmpty then 0 else 1)<30))=true:=by rfl)
  (hline:(apos.endLine == cpos.line)=true:=by rfl) (hs:starEach (e::es) X.env=(false,eval e X.env)::starEach es X.env:=by rfl) (hplain:(backTo cpos (starEach es X.env)).any (·.1)=false:=by rfl):
  PE X (.Call (.Attribute o name apos) (e::es) [] cpos) (tBM X.K T r to t):=by
 intro pins s σ H Q I h;refine wpAny_Call_method_late hbase hfew hline rfl (thn (ho pins s σ H _ I h) fun v s1 ⟨x,H1,I1,r1,ty,q1⟩=>?_);obtain⟨h1,h2⟩:=NR I1 r1 ty;refine⟨T,id,pa,slot,hty,h1,h2,?_⟩;have hA:=ha cpos pins s1 σ H1 _ I1 q1;rw[hs] at hA ⊢;refine Calls.callWith_builtin (by show (false||(backTo cpos (starEach es X.env)).any (·.1))=false;rw[hplain]<;>rfl) (Calls.evalArgs_plain ?_)
 exact thn hA fun us s2 ⟨vs,H2,I2,r2,q2⟩=>hm pins s2 σ H2 x vs v us Q I2 r1 r2 q2
end
def MtM (X:Cx) (id:String) (r:V->List V->Hp->VK->Prop):Prop:=
 ∀ (pins:List (Addr × Obj)) (s:Shared) (σ:St) (H:Hp) (x:V) (xs:List V) (v:Value) (us:List Value) (Q:VK),Inv X pins σ H s->bK x v->aU xs us->r x xs H Q ->
  wpAny (model X.prog X.w) X.A (call (.builtin id) (v::us)) (EP X pins σ Q) X.xe s
theorem aU.one:∀ {x:V}{us:List Value},aU [x] us->∃ u,us=[u]/\bK x u
 | _,_,.cons r .nil=>⟨_,rfl,r⟩
theorem aU.two:∀ {x y:V}{us:List Value},aU [x,y] us->∃ u v,us=[u,v]/\bK x u/\bK y v
 | _,_,_,.cons r (.cons q .nil)=>⟨_,_,rfl,r,q⟩
theorem aU.zero:∀ {us:List Value},aU [] us->us=[]
 | _,.nil=>rfl
theorem aU.eraseIdx:∀ {xs:List V}{us:List Value}(i:Nat),aU xs us->aU (xs.eraseIdx i) (us.eraseIdx i)
 | _,_,_,.nil=>.nil
 | _,_,0,.cons _ t=>t
 | _,_,i+1,.cons r t=>.cons r (aU.eraseIdx i t)
theorem aU.rep {xs:List V}{us:List Value}(h:aU xs us):∀ k:Nat,aU (List.replicate k xs).flatten (List.replicate k us).flatten
 | 0=>.nil
 | k+1=>by
  rw[aKp,aKp,List.flatten_cons,List.flatten_cons];exact aU.append h (aU.rep h k)
theorem JU {α:Type}:∀ (l:List α) (i:Nat),(l.eraseIdx i).length<=l.length
 | [],_=>aKv _
 | _::_,0=>Nat.le_succ _
 | _::r,i+1=>Nat.succ_le_succ (JU r i)
theorem IE (its:List Value):∀ (k:Nat) (acc:List Value),
  List.foldl (fun x1 x2=>x1++x2) acc.toArray (List.replicate k its.toArray)=(acc++(List.replicate k its).flatten).toArray
 | 0,acc=>by simp
 | k+1,acc=>by
  have e:acc.toArray++its.toArray=(acc++its).toArray:=by simp
  have e2:(acc++its)++(List.replicate k its).flatten=acc++(List.replicate (k+1) its).flatten:=by
   rw[aKp,List.flatten_cons,List.append_assoc]
  rw[<- e2,<- IE its k (acc++its),<- e,aKp,List.foldl_cons]
section
variable {X:Cx}{pins:List (Addr × Obj)}{σ:St}{H:Hp}{s:Shared}{l b:Addr}{xs ys zs:List V}
theorem Inv.lset {its its':List Value}{n:Nat}{f:Array Value->Array Value}{t':Nat}(I:Inv X pins σ H s) (hH:H l=some (.lst xs))
  (e:s.heap.get? l=some { cls:=.type "list",data:=.seq its.toArray n }) (hf:f its.toArray=its'.toArray) (hv:aU ys its') (hz:ys.length<=sizeLine):
  Inv X pins σ (upd H l (.lst ys)) { s with heap:=s.heap.update l (Obj.mapSeq f),toks:=t' }:=by
 have q:=PySem.IsL.update e f;rw[hf] at q;refine I.write (x:=l) (e:=l) (by rw[hH];exact trivial) (.inl rfl) (fun b' u hb hu=>(Heap.get?_update_other s.heap (Obj.mapSeq f) (Ne.symm hb)).trans hu) ⟨_,q⟩ ?_;exact⟨hz,its',_,hv,q⟩
theorem Inv.lnew {its:List Value}{t':Nat}(I:Inv X pins σ H s) (hv:aU ys its) (hz:ys.length<=sizeLine):
  Inv X pins σ (upd H s.heap.objs.size (.lst ys)) { s with heap:=s.heap.push { cls:=.type "list",data:=.seq its.toArray },toks:=t' }:=
 I.laid (fun _ _ q=>aIz _ q) (aKv _) ⟨hz,its,0,hv,aJ8 _ rfl⟩
theorem Inv.fresh (I:Inv X pins σ H s):H s.heap.objs.size=none:=I.hok.fresh (aKv _)
theorem Inv.lstM (I:Inv X pins σ H s) (hH:H l=some (.lst xs)):xs.length<=sizeLine/\∃ (its:List Value) (n:Nat),aU xs its/\xs.length=its.length/\s.heap.get? l=some { cls:=.type "list",data:=.seq its.toArray n }:=by
 obtain⟨z,its,n,r,e⟩:=I.hok l _ hH;exact⟨z,its,n,r,r.length,e⟩
theorem aA3 {n:Nat}(h:n<=sizeLine):Builtin.List.listTooLong n=false:=by
 unfold Builtin.List.listTooLong;exact decide_eq_false (by lia)
end
section
variable {X:Cx}
def aDq:V->List V->Hp->VK->Prop:=fun x vs H Q=>∃ l xs y,x=.ref l/\vs=[y]/\H l=some (.lst xs)/\xs.length<sizeLine/\Q .non (upd H l (.lst (xs++[y])))
theorem KC:MtM X "list.append" aDq:=by
 intro pins s σ H x vs v us Q I rx rv h;obtain⟨l,xs,y,rfl,rfl,hH,hz,q⟩:=h;cases rx;obtain⟨u,rfl,ru⟩:=rv.one;obtain⟨z,its,n,r,hl,e⟩:=I.lstM hH;refine call_meets F.slot_list_append ⟨_,e,rfl⟩ F.entry_list_append (F.args_list_append_2 _ _) (PySem.list_append l its.toArray n u (by rw[aIx];lia)) ⟨e,?_⟩;refine⟨.non,_,I.lset (its':=its++[u]) hH e (by simp) (r.append (.cons ru .nil)) ?_,rfl,q⟩;rw[aK2,List.length_singleton];lia
def aDv:V->List V->Hp->VK->Prop:=fun x vs H Q=>∃ l xs i k y,x=.ref l/\vs=[.int i]/\H l=some (.lst xs) /\ -(2^63)<=i/\i<2^63/\seqIndex? i xs.length=some k/\xs[k]?=some y/\Q y (upd H l (.lst (xs.eraseIdx k)))
theorem ZX:MtM X "list.pop" aDv:=by
 intro pins s σ H x vs v us Q I rx rv h;obtain⟨l,xs,i,k,y,rfl,rfl,hH,h1,h2,hk,hy,q⟩:=h;cases rx;obtain⟨u,rfl,ru⟩:=rv.one;obtain⟨t,rfl⟩:=ru;obtain⟨z,its,n,r,hl,e⟩:=I.lstM hH;obtain⟨w,hw,rw'⟩:=r.get hy;refine call_meets F.slot_list_pop ⟨_,e,rfl⟩ F.entry_list_pop (F.args_list_pop_2 _ _)
  (MeetsSeq.list_pop_at l its.toArray n i t k w (fitsIndex_both h1 h2) (by rw[aIx,<- hl];exact hk) (by rw[<- Array.getElem?_toList];exact hw) (by rw[aIx];lia)) ⟨e,?_⟩
 refine⟨y,_,I.lset (its':=its.eraseIdx k) hH e ?_ (r.eraseIdx k) ?_,rw',q⟩
 ·show its.toArray.eraseIdxIfInBounds k=(its.eraseIdx k).toArray
  rw[List.eraseIdxIfInBounds_toArray]
 ·have:=JU xs k
  lia
def aDs:V->List V->Hp->VK->Prop:=fun x vs H Q=>∃ l xs,x=.ref l/\vs=[]/\H l=some (.lst xs)/\Q .non (upd H l (.lst []))
theorem ZV:MtM X "list.clear" aDs:=by
 intro pins s σ H x vs v us Q I rx rv h;obtain⟨l,xs,rfl,rfl,hH,q⟩:=h;cases rx;have hus:=rv.zero;subst hus;obtain⟨z,its,n,r,hl,e⟩:=I.lstM hH;refine call_meets F.slot_list_clear ⟨_,e,rfl⟩ F.entry_list_clear (F.args_list_clear_1 _) (AutoSeq1.list_clear_list_0 l its.toArray n (by rw[aIx];lia)) ⟨e,?_⟩;exact⟨.non,_,I.lset (its':=[]) (ys:=[]) hH e rfl .nil (aLf _),rfl,q⟩
def aDw:R2:=fun x y H Q=>∃ l k xs,x=.ref l/\y=.int k/\H l=some (.lst xs) /\ -(2^63)<=k/\k<2^63/\xs.length*k.toNat<=sizeLine /\
 ∀ p,H p=none->Q (.ref p) (upd H p (.lst (List.replicate k.toNat xs).flatten))
theorem ZP {α:Type}(xs:List α) (k:Nat):(List.replicate k xs).flatten.length=k*xs.length:=by
 induction k with
 | zero=>simp
 | succ k ih=>rw[aKp,List.flatten_cons,aK2,ih,Nat.succ_mul,Nat.add_comm]
theorem aCf:OpR X (binaryOp .Mult) aDw:=by
 intro pins s σ H x y v u Q I rx ry h;obtain⟨l,k,xs,rfl,rfl,hH,h1,h2,hz,q⟩:=h;cases rx;obtain⟨t,rfl⟩:=ry;obtain⟨z,its,n,r,hl,e⟩:=I.lstM hH;have hlen:its.toArray.size*k.toNat<=sizeLine:=by rw[aIx,<- hl];exact hz
 have hcap:¬ its.toArray.size*k.toNat > (2^63-1) / 8:=by
  have:(sizeLine:Nat)<=(2^63-1) / 8:=by decide
  lia
 have hfit:¬ (!Builtin.List.listFitsIndex k)=true:=by
  rw[fitsIndex_both h1 h2];exact aJ5
 have hlong:¬ Builtin.List.listTooLong (its.toArray.size*k.toNat)=true:=by
  rw[aA3 hlen];exact aJ5
 have hnew:List.foldl (fun x1 x2=>x1++x2) #[] (List.replicate (if its.toArray.isEmpty=true then 0 else k.toNat) its.toArray)=(List.replicate k.toNat its).flatten.toArray:=by
  have f0:∀ m:Nat,List.foldl (fun x1 x2=>x1++x2) #[] (List.replicate m its.toArray)=(List.replicate m its).flatten.toArray:=fun m=>by
   have:=IE its m [];rw[List.nil_append] at this;exact this
  rw[f0];cases its with
  | nil=>simp
  | cons a r'=>rw[if_neg (by simp)]
 refine wpAny_binaryOp_repeat_ref (T := "list") (U := "int") (by decide) ⟨_,e,rfl⟩ (fun s'=>typeIs_int s' k t) noFill_list_mul F.fills_int_mul F.slot_int_rmul repeat_list F.slot_int_index.lookup
  (call_meets F.slot_int_rmul (typeIs_int s k t) F.entry_int_rmul (F.args_int_rmul_2 _ _) (int___rmul___int_list k t l its.toArray n)
   ⟨e,rfl,⟨_,e,rfl⟩,call_meets F.slot_list_mul ⟨_,e,rfl⟩ F.entry_list_mul (F.args_list_mul_2 _ _) (AutoListH.list___mul___list_int_3 l its.toArray n k t hfit hcap hlong) ⟨e,?_⟩⟩)
 rw[hnew];exact⟨.ref _,_,I.lnew (t':=s.toks) (r.rep k.toNat) (by rw[ZP,Nat.mul_comm];exact hz),rfl,q _ I.fresh⟩
end
section
variable {prog:Program}{w:World}{A:Around}{E:Value->Shared->Prop}{s:Shared}
set_option maxRecDepth 100000 in
end
section
variable {X:Cx}
end
end L2
namespace Att
open PySem PySem.W PySem.Calls PyProof.Rows
theorem YR {P:Params}{h:Heap}:∀ (ns:List Int) (vs:List Value),WellAll P h vs (ns.map WData.int)->IntsAre vs ns:=by
 intro ns
 induction ns with
 | nil=>
  intro vs w;rw[aKe] at w;cases w;exact .nil
 | cons n ns ih=>
  intro vs w;rw[aKc] at w;cases w with
  | cons a b=>
   cases a;exact .cons _ _ (ih _ b)
theorem aEw {l:OpenLaw}{n:Nat}(hn:l.most=some n) {P:Params}{h:Heap}{args:List WData}{vals:List Value}
  (hpre:l.row.toRowW.claim.pre args=true) (hwl:WellAll P h vals args):
  ∃ a vs ns,vals=[Value.ref a]/\args=[WData.list (ns.map WData.int)]/\h.get? a=some { cls:=.type "list",data:=.seq vs.toArray }/\IntsAre vs ns/\ns.length<=n:=by
 have hsh:WShape.hasAll [] args [.list .int]=true:=(pre_splitW hpre).1;have hc:l.pre.holds [] { args:=args }=true:=(pre_splitW hpre).2;obtain⟨d,r,rfl,h1,h2⟩:=hasAllW_cons hsh;obtain rfl:=hasAllW_nil h2;obtain⟨xs,rfl,h3⟩:=hasW_list h1;obtain⟨ns,rfl⟩:=items_int h3;have hlen:ns.length<=n:=by
  unfold OpenLaw.pre at hc;have h4:(WTm.not (.lt (.lit (.int (n:Int))) (.len (.arg 0)))).holds [] { args:=[.list (ns.map .int)] }=true:=by
   have h4:=(holds_andW hc).1;rw[hn] at h4;exact h4
  have h5:=condW_of h4 (w_not (w_lt w_lit (w_len_list (w_arg rfl))));rw[aK5] at h5;refine Nat.le_of_not_lt fun q=>?_;have q':(n:Int)<((ns.length:Nat):Int):=by lia
  first
   | (rw[decide_eq_true q'] at h5;exact absurd h5 (by decide))
   | (simp at h5;lia)
 cases hwl with
 | cons w1 w2=>
  cases w2;cases w1 with
  | list ho hall=>exact⟨_,_,ns,rfl,rfl,ho,YR ns _ hall,hlen⟩
theorem aDc (l:OpenLaw) (args:List WData):l.row.toRowW.claim.post args (.bool true) args=true:=
 postW_of (r:=l.row.toRowW) (X:=(true == true))
  (show WShape.has [] (.bool true) .bool=true by first | rfl | decide | simp[WShape.has,WShape.arms,WShape.armsAll])
  (show (WTm.eq .res (.lit (.bool true))).value [] { args:=args,res:=some (.bool true),after:=args }=some (.bool (true == true)) from w_eq_bool (w_res rfl) w_lit) rfl
theorem attach_call {l:OpenLaw}{n:Nat}{q:Program}{loose:List Str}{XP:(Str->Option Value)->Heap->Prop}{YP:World->Heap->Prop}{d:DefRec}
  (hn:l.most=some n) (hdf:d.params.defaults=[])
  (call:∀ (w:World) (s₀ s₁:Shared) (mg mb:Str->Option Value) (fa:Addr) (o:Obj) (pm cd doc:Value) (a:Addr) (vs:List Value) (ns:List Int),
   Ground q loose [] XP w s₀ mg mb s₁.heap->YP w s₁.heap ->
   s₁.heap.get? fa=some o->o.data=.func (docDef d.name d.params d.body d.scope pm cd doc)->s₁.heap.CodeRec cd d.name->mg d.name=some (.ref fa) ->
   s₁.heap.get? a=some { cls:=.type "list",data:=.seq vs.toArray }->IntsAre vs ns->ns.length<=n->s₁.gens=#[] ->
   codeAny (model l.prog w) callerA (.call (.ref fa) ⟨[.ref a],[]⟩) (fun r s'=>r=.ok (.ret (.bool true))/\OldK s₁.heap s'.heap/\s'.os=s₁.os/\AllBare s'.gens) s₁):
  WalkO q loose XP YP l.row.toRowW d [] (fun f vs=>PySem.call f vs):=by
 intro w s₀ s₁ mg mb G Y fa o pm cd doc dV kV ho hd hcd hD hmg hg args vals as hpre hlay hrd hwl hlo;obtain rfl:dV=.none:=Dflts.none hD hdf;obtain rfl:kV=.none:=Dflts.noKw hD;obtain⟨a,vs,ns,rfl,rfl,hobj,hints,hlen⟩:=aEw hn hpre hwl;refine enter_call (codeAny_mono (call w s₀ s₁ mg mb fa o pm cd doc a vs ns G Y ho (fd_plain hd) hcd hmg hobj hints hlen hg) fun r s' hq=>?_);obtain⟨rfl,h2,h3,h4⟩:=hq;exact⟨.inl ⟨.bool true,.bool true,[],rfl,fun _=>rfl,.bool true,aDc l _,fun _=>⟨List.Pairwise.nil,fun _ hm=>(nomatch hm)⟩⟩,h2,h3,h4⟩
section
variable {prog:Program}{w:World}{A:Around}{E:Value->Shared->Prop}{s:Shared}{K:Frag}
end
end Att
namespace L2
open PySem PySem.Spec PyProof.Rows
theorem NT:∀ {vs:List Value}{ns:List Int},IntsAre vs ns->aU (ns.map V.int) vs
 | _,_,.nil=>.nil
 | _,_,.cons n t h=>.cons ⟨t,rfl⟩ (NT h)
def AU (H:Hp):Prop:=∀ b,H b=none\/∃ o xs,H b=some (.frz o (.lst xs))
theorem ZL {P:Program}{w:World}{K:PySem.W.Frag}{mg mb:Str->Option Value}{CX:CXT}{k:Nat}{fa a:Addr}{fd:FuncData}{x:Str}{sp:Sp}{s₁:Shared}{vs:List Value}{ns:List Int}
  (KX:K.In s₁.heap) (hns:s₁.heap.Ns mainGlobals mg) (hb:s₁.heap.Ns builtinsNs mb) (hbb:∀ x:Str,x ≠ "__name__" -> mb x=bootBuiltins x) (hlim:s₁.heap.NoLimit) (hdig:s₁.heap.NoDigits) (hg:s₁.gens=#[])
  (ha:s₁.heap.get? a=some { cls:=.type "list",data:=.seq vs.toArray }) (hi:IntsAre vs ns) (hl:ns.length<=sizeLine) (hr:Room k callerA)
  (F:∀ base:Heap,K.In base->base.Ns mainGlobals mg->FnOk P w K mg base CX k fa fd [x] sp) (hbind:∀ (s:Shared) (u:Value),BindsTo s fd ⟨[u],[]⟩ [(x,u)])
  (hsp:∀ H:Hp,AU H->SqL K H a (ns.map V.int)->sp [.ref a] H (fun v _=>v=.bl true) fun _ _ _=>False)
  (hCX:∀ H e s',CX [] H s₁ (fun _ _ _=>False) e s'->False):
  codeAny (model P w) callerA (.call (.ref fa) ⟨[.ref a],[]⟩) (fun r s'=>r=.ok (.ret (.bool true))/\OldK s₁.heap s'.heap/\s'.os=s₁.os/\AllBare s'.gens) s₁:=by
 have rv:=NT hi;have lenV:=hi.length;have core:∀ H:Hp,AU H->SqL K H a (ns.map V.int)->HOk P w H s₁.heap->(∀ b,H b≠none->b=a)->(H a≠none->K.lookup a=none) ->
   codeAny (model P w) callerA (.call (.ref fa) ⟨[.ref a],[]⟩) (fun r s'=>r=.ok (.ret (.bool true))/\OldK s₁.heap s'.heap/\s'.os=s₁.os/\AllBare s'.gens) s₁:=by
  intro H hO hS hok hA hK;have base_of:∀ {b:Addr} {o:Obj},s₁.heap.get? b=some o->H b=none->(jN s₁.heap H).get? b=some o:=fun e n=>YH e n;have noA:∀ {b:Addr} {o:Obj} {es:Array DictEntry} {ep:Nat},s₁.heap.get? b=some o->o.data=.dict es ep->H b=none:=fun {b o es ep} e d=>by
   cases q:H b with
   | none=>rfl
   | some u=>
    have e':b=a:=hA b (by rw[q];simp);subst e';rw[ha] at e;cases e;have d':Data.seq vs.toArray _=Data.dict es ep:=d;cases d'
  have nsK:∀ {b:Addr} {m:Str->Option Value},s₁.heap.Ns b m->(jN s₁.heap H).Ns b m:=fun {b m} ⟨o,es,ep,e,d,r⟩=>⟨o,es,ep,base_of e (noA e d),d,r⟩;have hKb:K.In (jN s₁.heap H):=fun b o e=>base_of (KX b o e) (by
   cases q:H b with
   | none=>rfl
   | some u=>
    have e':b=a:=hA b (by rw[q];simp);subst e';rw[hK (by rw[q];simp)] at e;cases e)
  have hM:Mod K mg (jN s₁.heap H):=⟨hKb,nsK hns,⟨mb,nsK hb,hbb⟩,let ⟨mc,h1,h2⟩:=hlim;⟨mc,nsK h1,h2⟩,let ⟨mc,h1,h2⟩:=hdig;⟨mc,nsK h1,h2⟩⟩;have e0:Env0 P w K mg (jN s₁.heap H) callerA [] s₁ H:=⟨rfl,hM,fun b o e=>aAk e,Nat.le_of_eq (YI _ _),trivial,fun b hb=>absurd (show b∈([]:List Addr) from hb) (by simp),hok,.of_eq hg⟩;refine codeAny_mono ((F _ hKb (nsK hns)).run callerA [] s₁ H ⟨[.ref a],[]⟩ [.ref a] [.ref a] _ _ hr e0 (hbind s₁ (.ref a)) (.cons rfl .nil) (hsp H hO hS)) fun r s' h=>?_;cases r with
  | error e=>exact (hCX H e s' h).elim
  | ok fl=>
   cases fl with
   | next=>exact False.elim h
   | brk=>exact False.elim h
   | cont=>exact False.elim h
   | ret u=>
    obtain⟨v,H',os,bare,un,hok',r',q⟩:=h;have q':v=.bl true:=q;subst q';obtain rfl:u=Value.bool true:=r';refine⟨rfl,OldK.of_keep fun b o e=>?_,os,bare⟩;cases q:H b with
    | none=>exact un.keep b o e q (by intro z;exact absurd (show b∈([]:List Addr) from z) (by simp)) (by simp)
    | some u=>
     rcases hO b with z | ⟨ob,xs,z⟩
     ·rw[q] at z;cases z
     ·have z2:=un.frzs b ob _ z
      obtain⟨e1,_⟩:=hok b _ z;obtain⟨e2,_⟩:=hok' b _ z2;rw[e] at e1;cases e1;exact e2
 cases hk:K.lookup a with
 | some o=>
  have e:=KX a o hk;rw[ha] at e;cases e;refine core (fun _=>none) (fun _=>.inl rfl) (.inr ⟨_,vs.toArray,_,hk,rfl,rfl,rfl,by rw[aIx,lenV];exact hl,by simpa using rv⟩) (fun b u z=>by have z':(none:Option HO)=some u:=z;cases z') (fun b z=>absurd rfl z) fun z=>absurd rfl z
 | none=>
  refine core (fun b=>if b=a then some (.frz { cls:=.type "list",data:=.seq vs.toArray } (.lst (ns.map V.int))) else none) (fun b=>?_) (.inl (.inr ⟨{ cls:=.type "list",data:=.seq vs.toArray },if_pos rfl⟩)) (fun b u z=>?_) (fun b z=>?_) fun _=>hk
  ·by_cases hb:b=a
   ·exact .inr ⟨_,_,if_pos hb⟩
   ·exact .inl (if_neg hb)
  ·by_cases hb:b=a
   ·have z':=(if_pos hb).symm.trans z
    cases z';subst hb;exact⟨ha,by rw[aK5];exact hl,vs,_,rv,ha⟩
   ·have z':=(if_neg hb).symm.trans z
    cases z'
  ·by_cases hb:b=a
   ·exact hb
   ·exact absurd (if_neg hb) z
theorem walk_of {l:PySem.W.OpenLaw}{n k:Nat}{q:Program}{loose:List Str}{XP:(Str->Option Value)->Heap->Prop}{YP:World->Heap->Prop}{d:DefRec}{K:Params->PySem.W.Frag}{CX:World->CXT}{sp:World->Sp}{x:Str}
  (hn:l.most=some n) (hn2:n<=sizeLine) (hdf:d.params.defaults=[]) (hr:Room k callerA)
  (hY:∀ (w:World) (h:Heap),YP w h->(K w.params).In h)
  (F:∀ (w:World) (mg:Str->Option Value) (fa:Addr) (h:Heap),(K w.params).In h->h.Ns mainGlobals mg->mg d.name=some (.ref fa) ->
   ∃ fd:FuncData,(∀ (s:Shared) (u:Value),BindsTo s fd ⟨[u],[]⟩ [(x,u)]) /\
    ∀ base:Heap,(K w.params).In base->base.Ns mainGlobals mg->FnOk l.prog w (K w.params) mg base (CX w) k fa fd [x] (sp w))
  (hsp:∀ (w:World) (H:Hp) (a:Addr) (ns:List Int),ns.length<=n->AU H->SqL (K w.params) H a (ns.map V.int)->sp w [.ref a] H (fun v _=>v=.bl true) fun _ _ _=>False)
  (hCX:∀ (w:World) (H:Hp) (s:Shared) (e:Value) (s':Shared),CX w [] H s (fun _ _ _=>False) e s'->False):
  PySem.W.WalkO q loose XP YP l.row.toRowW d [] (fun f vs=>PySem.call f vs):=by
 refine Att.attach_call hn hdf fun w s₀ s₁ mg mb fa o pm cd doc a vs ns G Y ho hd hcd hmg hobj hints hlen hg=>?_;have KX:=hY w _ Y;obtain⟨fd,hb,hF⟩:=F w mg fa _ KX G.T.g hmg;exact ZL KX G.T.g G.T.b G.T.builtins G.T.nolimit G.T.nodigits hg hobj hints (aKw hlen hn2) hr hF hb (fun H hO hS=>hsp w H a ns hlen hO hS) fun H e s'=>hCX w H s₁ e s'
def defArgs (s:Stmt):Arguments:=match s with
 | .FunctionDef _ a _ _ _ _ _ _ _ _=>a
 | _=>{ posonlyargs:=[],args:=[],vararg:=none,kwonlyargs:=[],kw_defaults:=[],kwarg:=none,defaults:=[] }
def defBody (s:Stmt):List Stmt:=match s with
 | .FunctionDef _ _ b _ _ _ _ _ _ _=>b
 | _=>[]
def defScope (s:Stmt):Scope:=match s with
 | .FunctionDef _ _ _ _ _ _ sc _ _ _=>sc
 | _=>{ kind:=.function,names:=[],isGenerator:=false,isCoroutine:=false }
abbrev CX0:CXT:=fun _ _ _ _ _ _=>False
abbrev E0:XK:=fun _ _ _=>False
theorem KS {X:Cx}:AV CX0 X E0:=fun _ _ _ _ _ _ _ h=>h.elim
structure Fun (K:PySem.W.Frag) (x qual:Str) (st:Stmt) (f:Addr) (fd:FuncData):Prop where
 ex:∃ (oc:Value) (od:Option Addr) (kV doc pm:Value) (an:Option Addr) (cdv ct:Value) (osl:Array (Option Value)),
  fd=PySem.W.fnOf x qual (defArgs st) (defBody st) (defScope st) .none kV doc pm an cdv ct/\K.lookup f=some ⟨oc,od,.func fd,osl⟩/\PySem.W.codeIn K cdv qual=true
 kp:PySem.W.keepIn K (.ref f)=true
section
variable {P:Program}{w:World}{K:PySem.W.Frag}{mg:Str->Option Value}{base:Heap}
theorem Fun.ok {x qual:Str}{st:Stmt}{f:Addr}{fd:FuncData}{N ps:List Str}{k:Nat}{sp:Sp}(F:Fun K x qual st f fd) (S:FnScope N ps (defScope st)) (len:∀ vs H Q E,sp vs H Q E->vs.length=ps.length)
  (hbody:∀ (cdv:Value) (A:Around) (outer:List Env) (s:Shared) (H:Hp) (vs:List V) (Q:VK) (E:XK),Room k (A.deeper (envOfC qual (defScope st) s.heap.objs.size f cdv))->sp vs H Q E ->
   ∃ t,PSs (bA CX0 P w K mg base N qual (defScope st) f cdv A outer s H E).nox (defBody st) t/\t { nx:=fun _ H'=>Q .non H',rt:=Q } (start N vs) H):FnOk P w K mg base CX0 (k+1) f fd ps sp:=by
 obtain⟨oc,od,kV,doc,pm,an,cdv,ct,osl,rfl,lk,hcd⟩:=F.ex;refine WH lk hcd S len fun A outer s H vs Q E hr hsp=>?_;obtain⟨t,h,q⟩:=hbody cdv A outer s H vs Q E hr hsp;exact⟨t,h.nox,q⟩
theorem Fun.binds {x qual:Str}{st:Stmt}{f:Addr}{fd:FuncData}{ps:List Str}(F:Fun K x qual st f fd)
  (h:∀ (kV doc pm:Value) (an:Option Addr) (cdv ct:Value) (us:List Value),us.length=ps.length->bindArgs (PySem.W.fnOf x qual (defArgs st) (defBody st) (defScope st) .none kV doc pm an cdv ct) ⟨us,[]⟩=pure (ps.zip us)):mN K fd ps []:=by
 obtain⟨oc,od,kV,doc,pm,an,cdv,ct,osl,rfl,lk,hcd⟩:=F.ex;exact .all (h kV doc pm an cdv ct)
theorem bH {x qual:Str}{st:Stmt}{f:Addr}{oc:Value}{od an:Option Addr}{osl:Array (Option Value)}{kV doc pm cdv ct:Value}(l:K.lookup f=some ⟨oc,od,.func (PySem.W.fnOf x qual (defArgs st) (defBody st) (defScope st) .none kV doc pm an cdv ct),osl⟩)
  (c:PySem.W.codeIn K cdv qual=true) (k:PySem.W.keepIn K (.ref f)=true):Fun K x qual st f (PySem.W.fnOf x qual (defArgs st) (defBody st) (defScope st) .none kV doc pm an cdv ct):=⟨⟨oc,od,kV,doc,pm,an,cdv,ct,osl,rfl,l,c⟩,k⟩
end
section
variable {X:Cx}
theorem pv (i:Nat) {x:Str}{pos:Pos}(hN:X.N[i]?=some x:=by rfl) (hv:Vis X.env.scope x:=by first | exact Or.inl rfl | exact Or.inr (Or.inl rfl) | exact Or.inr (Or.inr rfl)) (hd:(x == ("__debug__" : Str))=false:=by decide)
  (hcd:(x == ("__classdict__" : Str))=false:=by decide):PE X (.Name x pos) (NH i):=aCz hN hv hd hcd
end
theorem hG {A B:Prop}(h:B):if false=true then A else B:=by
 rw[if_neg aJ5];exact h
theorem hU {A B:Prop}(h:A):if true=true then A else B:=by
 rw[if_pos rfl];exact h
def aZ (H H':Hp):Prop:=∀ b o,H b=some o->H' b=some o
theorem aZ.refl (H:Hp):aZ H H:=fun _ _ h=>h
theorem aZ.trans {H H1 H2:Hp}(a:aZ H H1) (b:aZ H1 H2):aZ H H2:=fun c o h=>b c o (a c o h)
theorem aZ.free {H H':Hp}(e:aZ H H') {l:Addr}(h:H' l=Option.none):H l=Option.none:=by
 cases q:H l with
 | none=>rfl
 | some o=>
  rw[e l o q] at h;cases h
section
variable {κ:Type} [DecidableEq κ]
end
abbrev KT (H:Hp):List (List Key × V)->List (List Key × Addr × Value)->Prop:=Paired fun p q=>p.1=q.1/\H q.2.1=some (.tup (p.1.map kV))/\bK p.2 q.2.2
section
variable {P:Program}{w:World}{H:Hp}{h:Heap}{a:Addr}
theorem aE1 {u:HO}(ok:HOk P w H h) (e:Rd H a u):dM P w H h a u:=e.ok ok
theorem WA {kvs:List (Key × V)}(ok:HOk P w H h) (e:Rd H a (.dK kvs)):kvs.length<=sizeLine/\(a == sysModules)=false/\∃ vs,KV kvs vs/\h.DictOf (uK P w) a vs:=
 show dM P w H h a (.dK kvs) from aE1 ok e
theorem VZ {kvs:List (Key × V)}(ok:HOk P w H h) (e:H a=some (.dK kvs)):kvs.length<=sizeLine/\(a == sysModules)=false/\∃ vs,KV kvs vs/\h.DictOf (uK P w) a vs:=WA ok (.inl e)
end
section
variable {X:Cx}{pins:List (Addr × Obj)}{σ:St}{H:Hp}{s:Shared}{a:Addr}{y v:V}{u r:Value}{o:Option V}{A:Around}{E:Value->Shared->Prop}
end
section
variable {X:Cx}{pins:List (Addr × Obj)}{σ:St}{H:Hp}{s:Shared}{a:Addr}{kvs:List (Key × V)}{k:Key}{u:Value}{A:Around}{E:Value->Shared->Prop}
end
section
variable {X:Cx}{o i e value:Expr}{pos pos' tpos:Pos}{td ty tv:TE}
end
section
variable {X:Cx}{pos:Pos}
end
structure M1 (X:Cx) (o:Expr) (m:Str) (apos:Pos) (e:Expr) (cpos:Pos):Prop where
 base:attributeBase o m X.env (eval o X.env)=eval o X.env
 few:((backTo cpos (starEach [e] X.env)).all (fun x=>!x.1)&&(backToKw cpos (keywordEach [] X.env)).all (fun x=>x.1.isSome)
  && decide (([e]:List Expr).length+([]:List Keyword).length+(if ([]:List Keyword).isEmpty then 0 else 1)<30))=true
 line:(apos.endLine == cpos.line)=true
 trees:backTo cpos (starEach [e] X.env)=[(false,eval e X.env)]
section
variable {X:Cx}{pins:List (Addr × Obj)}{σ:St}{H:Hp}{s:Shared}{a:Addr}{y d:V}{u r:Value}{o:Option V}{A:Around}{E:Value->Shared->Prop}
end
section
variable {X:Cx}{o e f:Expr}{apos cpos:Pos}{td ty tx:TE}
end
section
variable {X:Cx}{pins:List (Addr × Obj)}{σ:St}{H:Hp}{s:Shared}{a:Addr}{kvs:List (Key × V)}{A:Around}{E:Value->Shared->Prop}
end
section
variable {X:Cx}{pins:List (Addr × Obj)}{σ:St}{H:Hp}{s:Shared}{a:Addr}{y:V}{u:Value}{A:Around}{E:Value->Shared->Prop}
end
end L2
set_option maxHeartbeats 4000000
namespace L2
open PySem PySem.Spec PyProof.Rows
def BQ (a:Addr) (cls:Value):HO:=.ext fun h=>∃ oe vs,h.get? a=some oe/\oe.cls=cls/\oe.data=.fields vs
end L2
namespace G
open PySem PySem.Spec PyProof.Rows L2
abbrev St:=L2.St
inductive T where
 | non | bl (b : Bool) | int (i : Int) | str (x : Str) | lst (xs : List T) | tup (xs : List T)
 /-- an exception, by its class's name -/
 | exc (nm : Str)
 /-- a dict of ints, all of them to True -/
 | dct (ks : List Int)
 /-- a list that one name alone has, with all that lies in it (only in a slot that changes) -/
 | own (ts : List T)
abbrev Rho:=List (Option T)
def KL (K:PySem.W.Frag) (a:Addr) (xs:List V):Prop:=
 ∃ (o:Obj) (its:Array Value) (n:Nat),K.lookup a=some o/\o.cls=.type "list" /\ o.dict=none/\o.data=.seq its n/\its.size<=sizeLine/\aU xs its.toList
def KT (K:PySem.W.Frag) (a:Addr) (xs:List V):Prop:=
 ∃ (o:Obj) (its:Array Value) (n:Nat),K.lookup a=some o/\o.cls=.type "tuple" /\ o.data=.seq its n/\its.size<=sizeLine/\aU xs its.toList
def EQ (K:PySem.W.Frag) (nm:Str) (C:Addr):Prop:=
 PySem.W.nsIn K mainGlobals nm=some (some (.ref C))/\(∀ a:Addr,PySem.W.KitX K (.ref a) (.ref C) (fun h=>∃ oe,h.get? a=some oe/\oe.cls=.ref C)) /\
 ∀ c∈(["int","bool","list","tuple","str"]:List String),PySem.W.kitOne K (.ref C) (.type c)=some false
def dkv (ks:List Int):List (Key × V):=ks.map fun k=>(.inl k,.bl true)
mutual
def Rep (K:PySem.W.Frag) (H:Hp) (A:Addr->Prop):T->V->Prop
 | .non,v=>v=.non
 | .bl b,v=>v=.bl b
 | .int i,v=>v=.int i
 | .str x,v=>v=.str x
 | .lst ts,v=>∃ a xs,v=.ref a/\((A a/\Rd H a (.lst xs))\/KL K a xs)/\RepL K H A ts xs
 | .tup ts,v=>∃ a xs,v=.ref a/\(Rd H a (.tup xs)\/KT K a xs)/\RepL K H A ts xs
 | .exc nm,v=>∃ (a C:Addr),v=.ref a/\EQ K nm C/\Rd H a (BQ a (.ref C))
 | .dct ks,v=>∃ a,v=.ref a/\A a/\H a=some (.dK (dkv ks))
 | .own ts,v=>∃ a xs,v=.ref a/\A a/\H a=some (.lst xs)/\RepL K H A ts xs
def RepL (K:PySem.W.Frag) (H:Hp) (A:Addr->Prop):List T->List V->Prop
 | [],xs=>xs=[]
 | t::ts,xs=>∃ x r,xs=x::r/\Rep K H A t x/\RepL K H A ts r
end
theorem eQ {H H':Hp}{a:Addr}{u:HO}(k:∀ o,H a=some o->H' a=some o) (h:Rd H a u):Rd H' a u:=by
 rcases h with h | ⟨o,h⟩
 ·exact .inl (k _ h)
 ·exact .inr ⟨o,k _ h⟩
abbrev Fix:={ u:HO // (∀ ys,u≠.lst ys)/\∀ ys,u≠.dK ys }
theorem hZ {H:Hp}{a b:Addr}{xs ys:List V}{u:Fix}(ha:H a=some (.lst xs)) (h:Rd H b u.1):Rd (upd H a (.lst ys)) b u.1:=
 eQ (fun o q=>by
  have:b≠a:=fun z=>by
   subst z;rcases h with h | ⟨o',h⟩<;>rw[ha] at h
   ·exact u.2.1 xs (aIo h).symm
   ·cases h
  rw[bG this];exact q) h
theorem aE2 {H:Hp}{a:Addr}{u:HO}(h:Rd H a u):H a≠none:=by
 rcases h with h | ⟨o,h⟩<;>rw[h]<;>simp
section
variable {K:PySem.W.Frag}{H H':Hp}{A A':Addr->Prop}
mutual
theorem Rep.keep (kt:∀ b (u:Fix),Rd H b u.1->Rd H' b u.1) (k:∀ b o,A b->H b=some o->H' b=some o) (hA:∀ b,A b->H b≠none->A' b):∀ (t:T) {v:V},Rep K H A t v->Rep K H' A' t v
 | .non,_,h=>h
 | .bl _,_,h=>h
 | .int _,_,h=>h
 | .str _,_,h=>h
 | .lst ts,_,h=>by
  obtain⟨a,xs,e,c,r⟩:=h;refine⟨a,xs,e,?_,RepL.keep kt k hA ts r⟩;rcases c with ⟨c1,c2⟩ | c
  ·exact .inl ⟨hA a c1 (aE2 c2),eQ (fun o e=>k a o c1 e) c2⟩
  ·exact .inr c
 | .tup ts,_,h=>by
  obtain⟨a,xs,e,c,r⟩:=h;refine⟨a,xs,e,?_,RepL.keep kt k hA ts r⟩;rcases c with c | c
  ·exact .inl (kt a ⟨.tup xs,(fun _ z=>by cases z),fun _ z=>by cases z⟩ c)
  ·exact .inr c
 | .exc _,_,h=>by
  obtain⟨a,C,e,c,r⟩:=h;exact⟨a,C,e,c,kt a ⟨BQ a (.ref C),(fun _ z=>by cases z),fun _ z=>by cases z⟩ r⟩
 | .dct _,_,h=>by
  obtain⟨a,e,c,r⟩:=h;exact⟨a,e,hA a c (by rw[r];simp),k a _ c r⟩
 | .own ts,_,h=>by
  obtain⟨a,xs,e,c,r,q⟩:=h;exact⟨a,xs,e,hA a c (by rw[r];simp),k a _ c r,RepL.keep kt k hA ts q⟩
theorem RepL.keep (kt:∀ b (u:Fix),Rd H b u.1->Rd H' b u.1) (k:∀ b o,A b->H b=some o->H' b=some o) (hA:∀ b,A b->H b≠none->A' b):∀ (ts:List T) {xs:List V},RepL K H A ts xs->RepL K H' A' ts xs
 | [],_,h=>h
 | t::ts,_,h=>by
  obtain⟨x,r,e,h1,h2⟩:=h;exact⟨x,r,e,Rep.keep kt k hA t h1,RepL.keep kt k hA ts h2⟩
end
theorem Rep.grow {t:T}{v:V}(s:aZ H H') (h:Rep K H A t v):Rep K H' A t v:=Rep.keep (fun b _ e=>eQ (fun o q=>s b o q) e) (fun b o _ e=>s b o e) (fun _ x _=>x) t h
theorem RepL.grow {ts:List T}{xs:List V}(s:aZ H H') (h:RepL K H A ts xs):RepL K H' A ts xs:=RepL.keep (fun b _ e=>eQ (fun o q=>s b o q) e) (fun b o _ e=>s b o e) (fun _ x _=>x) ts h
theorem Rep.weak {t:T}{v:V}(f:∀ b,A b->A' b) (h:Rep K H A t v):Rep K H A' t v:=Rep.keep (fun _ _ e=>e) (fun _ _ _ e=>e) (fun b x _=>f b x) t h
theorem RepL.weak {ts:List T}{xs:List V}(f:∀ b,A b->A' b) (h:RepL K H A ts xs):RepL K H A' ts xs:=RepL.keep (fun _ _ e=>e) (fun _ _ _ e=>e) (fun b x _=>f b x) ts h
theorem RepL.avoid {ts:List T}{xs:List V}{a:Addr}(n:H a=none) (h:RepL K H A ts xs):RepL K H (fun b=>A b/\b≠a) ts xs:=
 RepL.keep (fun _ _ e=>e) (fun _ _ _ e=>e) (fun b x y=>⟨x,fun z=>y (z ▸ n)⟩) ts h
theorem RepL.length:∀ {ts:List T}{xs:List V},RepL K H A ts xs->ts.length=xs.length
 | [],_,h=>by cases (show _=[] from h);rfl
 | _::ts,_,h=>by
  obtain⟨x,r,e,_,h2⟩:=h;subst e;simp[RepL.length h2]
theorem RepL.get:∀ {ts:List T}{xs:List V}{i:Nat}{t:T},RepL K H A ts xs->ts[i]?=some t->∃ x,xs[i]?=some x/\Rep K H A t x
 | [],_,_,_,_,e=>by simp at e
 | _::ts,_,0,_,h,e=>by
  obtain⟨x,r,e1,h1,_⟩:=h;subst e1;simp at e;subst e;exact⟨x,rfl,h1⟩
 | _::ts,_,i+1,_,h,e=>by
  obtain⟨x,r,e1,_,h2⟩:=h;subst e1;obtain⟨y,q,h3⟩:=RepL.get (i:=i) h2 (by simpa using e);exact⟨y,by simpa using q,h3⟩
theorem RepL.app:∀ {ts us:List T}{xs ys:List V},RepL K H A ts xs->RepL K H A us ys->RepL K H A (ts++us) (xs++ys)
 | [],_,_,_,h,q=>by cases (show _=[] from h);exact q
 | _::ts,_,_,_,h,q=>by
  obtain⟨x,r,e,h1,h2⟩:=h;subst e;exact⟨x,r++_,rfl,h1,RepL.app h2 q⟩
theorem RepL.one {t:T}{x:V}(h:Rep K H A t x):RepL K H A [t] [x]:=⟨x,[],rfl,h,rfl⟩
theorem RepL.take:∀ {ts:List T}{xs:List V}(n:Nat),RepL K H A ts xs->RepL K H A (ts.take n) (xs.take n)
 | _,_,0,_=>by simp[RepL]
 | [],_,_+1,h=>by cases (show _=[] from h);simp[RepL]
 | _::ts,_,n+1,h=>by
  obtain⟨x,r,e,h1,h2⟩:=h;subst e;exact⟨x,r.take n,rfl,h1,RepL.take n h2⟩
theorem RepL.drop:∀ {ts:List T}{xs:List V}(n:Nat),RepL K H A ts xs->RepL K H A (ts.drop n) (xs.drop n)
 | _,_,0,h=>by simpa using h
 | [],_,_+1,h=>by cases (show _=[] from h);simp[RepL]
 | _::ts,_,n+1,h=>by
  obtain⟨x,r,e,h1,h2⟩:=h;subst e
  simpa using RepL.drop n h2
theorem RepL.set:∀ {ts:List T}{xs:List V}{t:T}{x:V}(n:Nat),Rep K H A t x->RepL K H A ts xs->RepL K H A (ts.set n t) (xs.set n x)
 | [],_,_,_,n,_,h=>by cases (show _=[] from h);simp[RepL]
 | _::ts,_,_,_,0,q,h=>by
  obtain⟨x,r,e,h1,h2⟩:=h;subst e;exact⟨_,r,rfl,q,h2⟩
 | _::ts,_,_,_,n+1,q,h=>by
  obtain⟨x,r,e,h1,h2⟩:=h;subst e;exact⟨x,_,rfl,h1,RepL.set n q h2⟩
theorem Rep.sqL {ts:List T}{v:V}(h:Rep K H A (.lst ts) v):∃ a xs,v=.ref a/\SqL K H a xs/\RepL K H A ts xs:=by
 obtain⟨a,xs,e,c,r⟩:=h;refine⟨a,xs,e,?_,r⟩;rcases c with ⟨_,c⟩ | c
 ·exact .inl c
 ·exact .inr c
theorem Rep.sqT {ts:List T}{v:V}(h:Rep K H A (.tup ts) v):∃ a xs,v=.ref a/\SqT K H a xs/\RepL K H A ts xs:=by
 obtain⟨a,xs,e,c,r⟩:=h;exact⟨a,xs,e,c,r⟩
end
def scal:T->Bool
 | .lst _=>false
 | .tup _=>false
 | .exc _=>false
 | .dct _=>false
 | .own _=>false
 | _=>true
def tv:T->V
 | .non=>.non
 | .bl b=>.bl b
 | .int i=>.int i
 | .str x=>.str x
 | _=>.non
theorem LZ {K:PySem.W.Frag}{H:Hp}{A:Addr->Prop}{t:T}{v:V}(h:scal t=true):Rep K H A t v ↔ v=tv t:=by
 cases t<;>first | exact Iff.rfl | (simp[scal] at h)
mutual
def im:T->Bool
 | .lst _=>false
 | .dct _=>false
 | .own _=>false
 | .tup ts=>imL ts
 | _=>true
def imL:List T->Bool
 | []=>true
 | t::ts=>im t&&imL ts
end
section
variable {K:PySem.W.Frag}{H H':Hp}{A A':Addr->Prop}
mutual
theorem zB (kt:∀ b (u:Fix),Rd H b u.1->Rd H' b u.1):∀ (t:T) {v:V},im t=true->Rep K H A t v->Rep K H' A' t v
 | .non,_,_,h=>h
 | .bl _,_,_,h=>h
 | .int _,_,_,h=>h
 | .str _,_,_,h=>h
 | .lst _,_,e,_=>by simp[im] at e
 | .tup ts,_,e,h=>by
  obtain⟨a,xs,e1,c,r⟩:=h;refine⟨a,xs,e1,?_,repL_imk kt ts (by simpa [im] using e) r⟩;rcases c with c | c
  ·exact .inl (kt a ⟨.tup xs,(fun _ z=>by cases z),fun _ z=>by cases z⟩ c)
  ·exact .inr c
 | .exc _,_,_,h=>by
  obtain⟨a,C,e,c,r⟩:=h;exact⟨a,C,e,c,kt a ⟨BQ a (.ref C),(fun _ z=>by cases z),fun _ z=>by cases z⟩ r⟩
 | .dct _,_,e,_=>by simp[im] at e
 | .own _,_,e,_=>by simp[im] at e
theorem repL_imk (kt:∀ b (u:Fix),Rd H b u.1->Rd H' b u.1):∀ (ts:List T) {xs:List V},imL ts=true->RepL K H A ts xs->RepL K H' A' ts xs
 | [],_,_,h=>h
 | t::ts,_,e,h=>by
  obtain⟨x,r,e1,h1,h2⟩:=h;have e':im t=true/\imL ts=true:=by simpa [imL] using e
  exact⟨x,r,e1,zB kt t e'.1 h1,repL_imk kt ts e'.2 h2⟩
end
theorem sM (t:T) {v:V}(h:im t=true) (r:Rep K H A t v):Rep K H A' t v:=zB (fun _ _ e=>e) t h r
end
def bF (ts:List T):Bool:=ts.all im
theorem jS {K:PySem.W.Frag}{H:Hp}{A A':Addr->Prop}:∀ {ts:List T}{xs:List V},bF ts=true->RepL K H A ts xs->RepL K H A' ts xs
 | [],_,_,h=>h
 | t::ts,_,f,h=>by
  obtain⟨x,r,e,h1,h2⟩:=h;have f':im t=true/\bF ts=true:=by simpa [bF] using f
  exact⟨x,r,e,sM t f'.1 h1,jS f'.2 h2⟩
theorem nM:∀ {ts:List T},bF ts=true->imL ts=true
 | [],_=>rfl
 | t::ts,f=>by
  have f':im t=true/\bF ts=true:=by simpa [bF] using f
  simp[imL,f'.1,nM f'.2]
def Ad (B H:Hp) (M:List Addr) (l:Nat) (a:Addr):Prop:=(1<=l->a ∉ M)/\(2<=l->B a=none)/\(3<=l->H a=none)
theorem Ad.le {B H:Hp}{M:List Addr}{l l':Nat}{a:Addr}(h:Ad B H M l a) (k:l'<=l):Ad B H M l' a:=
 ⟨fun z=>h.1 (by lia),fun z=>h.2.1 (by lia),fun z=>h.2.2 (by lia)⟩
theorem Ad.zero {B H:Hp}{M:List Addr}{a:Addr}:Ad B H M 0 a:=⟨fun z=>by lia,fun z=>by lia,fun z=>by lia⟩
def aX (K:PySem.W.Frag) (B H:Hp) (M:List Addr) (H':Hp):Bool->Nat->T->V->Prop
 | true,l,.lst ts,v=>∃ a xs,v=.ref a/\H a=none/\H' a=some (.lst xs)/\RepL K H' (fun b=>Ad B H M l b/\b≠a) ts xs
 | _,l,t,v=>Rep K H' (Ad B H M l) t v
def dU:T->Nat->List T->Prop
 | .lst ts,c,us=>c=0/\us=ts
 | .tup ts,c,us=>ts[c]?=some (.lst us)
 | .dct _,c,us=>c=0/\us=[]
 | .own ts,c,us=>us=[]/\c<=ts.length
 | _,_,_=>False
def kR:T->Bool
 | .own _=>true
 | _=>false
def gM (H:Hp):T->Addr->List V->Prop
 | .dct ks,a,_=>H a=some (.dK (dkv ks))
 | .own _,a,_=>H a≠none
 | _,a,xs=>H a=some (.lst xs)
theorem gM.keep {H H':Hp}{t:T}{a:Addr}{xs:List V}(k:∀ o,H a=some o->H' a=some o) (h:gM H t a xs):gM H' t a xs:=by
 cases t with
 | own ts=>
  cases e:H a with
  | none=>exact absurd e h
  | some o=>show H' a≠none;rw[k o e];simp
 | _=>exact k _ h
theorem gM.some {H:Hp}{t:T}{a:Addr}{xs:List V}(h:gM H t a xs):H a≠none:=by
 cases t with
 | own ts=>exact h
 | dct ks=>rw[show H a=Option.some (.dK (dkv ks)) from h];simp
 | _=>rw[show H a=Option.some (.lst xs) from h];simp
def fI (K:PySem.W.Frag) (H:Hp):T->V->(Nat->Addr)->Prop
 | .lst _,v,ga=>v=.ref (ga 0)
 | .dct _,v,ga=>v=.ref (ga 0)
 | .own ts,v,ga=>v=.ref (ga 0)/\∃ xs,H (ga 0)=some (.lst xs)/\ts.length=xs.length/\∀ (d:Nat) (t:T),ts[d]?=some t->ga (d+1)≠ga 0/\xs[d]?=some (.ref (ga (d+1)))/\∃ us ys,t=.lst us/\bF us=true/\H (ga (d+1))=some (.lst ys)/\RepL K H (fun _=>True) us ys
 | .tup ts,v,ga=>∃ p vs,v=.ref p/\Rd H p (.tup vs)/\ts.length=vs.length/\∀ (c:Nat) (t:T),ts[c]?=some t->(∃ us,t=.lst us/\vs[c]?=some (.ref (ga c)))\/(im t=true/\∃ w,vs[c]?=some w/\Rep K H (fun _=>True) t w)
 | _,_,_=>False
theorem fI.keep {K:PySem.W.Frag}{H H':Hp}{t:T}{v:V}{ga:Nat->Addr}(kt:∀ b (u:Fix),Rd H b u.1->Rd H' b u.1) (ko:kR t=true->∀ c o,dU t c []->H (ga c)=some o->H' (ga c)=some o) (h:fI K H t v ga):fI K H' t v ga:=by
 cases t with
 | tup ts=>
  obtain⟨p,vs,h1,h2,h3,h4⟩:=h;refine⟨p,vs,h1,kt p ⟨.tup _,(fun _ z=>by cases z),fun _ z=>by cases z⟩ h2,h3,fun c u e=>?_⟩;rcases h4 c u e with h | ⟨hi,w,e1,r⟩
  ·exact .inl h
  ·exact .inr ⟨hi,w,e1,zB kt u hi r⟩
 | own ts=>
  obtain⟨h1,xs,h2,h3,h4⟩:=h;refine⟨h1,xs,ko rfl 0 _ ⟨rfl,aLf _⟩ h2,h3,fun d t e=>?_⟩;obtain⟨k1,k2,us,ys,k3,k4,k5,k6⟩:=h4 d t e;refine⟨k1,k2,us,ys,k3,k4,ko rfl (d+1) _ ⟨rfl,(aIt.mp e).1⟩ k5,repL_imk kt us ?_ k6⟩;exact nM k4
 | _=>exact h
theorem fI.grow {K:PySem.W.Frag}{H H':Hp}{t:T}{v:V}{ga:Nat->Addr}(s:aZ H H') (h:fI K H t v ga):fI K H' t v ga:=h.keep (fun b _ e=>eQ (fun o q=>s b o q) e) fun _ c o _ e=>s _ o e
theorem DQ {K:PySem.W.Frag}{H:Hp}{A:Addr->Prop}:∀ {ts:List T}{vs:List V},ts.length=vs.length->(∀ (c:Nat) (t:T) (w:V),ts[c]?=some t->vs[c]?=some w->Rep K H A t w)->RepL K H A ts vs
 | [],[],_,_=>rfl
 | [],_::_,h,_=>by cases h
 | _::_,[],h,_=>by cases h
 | t::ts,v::vs,h,k=>⟨v,vs,rfl,k 0 t v rfl rfl,DQ (by simpa using h) fun c u w e e'=>k (c+1) u w (by simpa using e) (by simpa using e')⟩
theorem fI.rep {K:PySem.W.Frag}{H:Hp}{A:Addr->Prop}{t:T}{v:V}{ga:Nat->Addr}(hA:∀ b,A b) (h:fI K H t v ga) (r:∀ c us,dU t c us->∃ xs,gM H t (ga c) xs/\RepL K H A us xs):Rep K H A t v:=by
 cases t with
 | lst ts=>
  obtain⟨xs,e,r⟩:=r 0 ts ⟨rfl,rfl⟩;exact⟨ga 0,xs,h,.inl ⟨hA _,.inl e⟩,r⟩
 | tup ts=>
  obtain⟨p,vs,h1,h2,h3,h4⟩:=h;refine⟨p,vs,h1,.inl h2,DQ h3 fun c u w e e'=>?_⟩;rcases h4 c u e with ⟨us,rfl,e1⟩ | ⟨hi,w',e1,q⟩
  ·obtain⟨xs,e2,r⟩:=r c us e
   rw[e'] at e1;exact⟨ga c,xs,aIo e1,.inl ⟨hA _,.inl e2⟩,r⟩
  ·rw[e'] at e1
   cases (aIo e1);exact sM u hi q
 | non=>exact h.elim
 | bl _=>exact h.elim
 | int _=>exact h.elim
 | str _=>exact h.elim
 | exc _=>exact h.elim
 | dct ks=>
  obtain⟨xs,e,_⟩:=r 0 [] ⟨rfl,rfl⟩;exact⟨ga 0,h,hA _,e⟩
 | own ts=>
  obtain⟨h1,xs,h2,h3,h4⟩:=h;refine⟨ga 0,xs,h1,hA _,h2,DQ h3 fun d t w e e'=>?_⟩;obtain⟨_,k2,us,ys,rfl,k4,k5,k6⟩:=h4 d t e;rw[k2] at e';exact⟨ga (d+1),ys,(aIo e').symm,.inl ⟨hA _,.inl k5⟩,k6.weak fun b _=>hA b⟩
def lc (fl:List Nat):Nat:=if fl.contains 3 then 1 else 2
theorem hV (fl:List Nat):lc fl<=2:=by unfold lc;split<;>decide
theorem kS (fl:List Nat):1<=lc fl:=by unfold lc;split<;>decide
def FS (K:PySem.W.Frag) (B:Hp) (lv:Nat) (M:List Addr) (H:Hp) (t:T) (v:V) (ga:Nat->Addr):Prop:=
 fI K H t v ga/\∀ c us,dU t c us->∃ xs,gM H t (ga c) xs/\RepL K H (Ad B H M lv) us xs/\ga c∈M
theorem uJ {t:T}{c:Nat}{us:List T}(h:dU t c us):im t=false:=by
 cases t with
 | lst _=>rfl
 | dct _=>rfl
 | own _=>rfl
 | tup ts=>
  show imL ts=false;have:ts[c]?=some (.lst us):=h
  clear h
  induction ts generalizing c with
  | nil=>cases this
  | cons a r ih=>
   cases c with
   | zero=>cases (aIo (show some a=some (T.lst us) from this));simp[imL,im]
   | succ c=>simp[imL,ih (show r[c]?=some (T.lst us) from this)]
 | _=>exact h.elim
structure Sl (K:PySem.W.Frag) (B:Hp) (fl:List Nat) (Ex:List (T × V)) (σ:St) (ρ:Rho) (M:List Addr) (H:Hp):Prop where
 same:aZ B H
 slot:∀ i t,ρ[i]?=some (some t)->(1<=fl.getD i 1\/im t=true)->∃ v,σ[i]?=some (some v)/\Rep K H (Ad B H M (min (fl.getD i 1) 2)) t v
 mu:∃ g:Nat->Nat->Addr,(∀ i t,ρ[i]?=some (some t)->fl.getD i 1=0->im t=false->∃ v,σ[i]?=some (some v)/\FS K B (lc fl) M H t v (g i)) /\
  ∀ i j c d t u us ws,(i≠j\/c≠d/\kR t=false)->ρ[i]?=some (some t)->ρ[j]?=some (some u)->fl.getD i 1=0->fl.getD j 1=0->dU t c us->dU u d ws->g i c≠g j d
 ex:∀ p∈Ex,Rep K H (Ad B H M 1) p.1 p.2
 mB:∀ a∈M,B a=none/\H a≠none
 len:fl.length<=σ.length
section
variable {K:PySem.W.Frag}{B H H' H1:Hp}{fl:List Nat}{Ex:List (T × V)}{σ:St}{ρ:Rho}{M:List Addr}{n:Bool}{l l':Nat}{t:T}{v:V}
theorem Ad.any {a:Addr}(h:Ad B H M l a) (k:l<=2):Ad B H1 M l a:=⟨h.1,h.2.1,fun z=>by lia⟩
theorem Sl.grow (S:Sl K B fl Ex σ ρ M H) (s:aZ H H'):Sl K B fl Ex σ ρ M H' where
 same:=S.same.trans s
 slot:=fun i t e k=>by
  obtain⟨v,e1,r⟩:=S.slot i t e k;exact⟨v,e1,(r.grow s).weak fun b x=>x.any (by lia)⟩
 mu:=by
  obtain⟨g,hg,ap⟩:=S.mu;refine⟨g,fun i t e k hm=>?_,ap⟩;obtain⟨v,e1,e2,e3⟩:=hg i t e k hm;refine⟨v,e1,e2.grow s,fun c us h=>?_⟩;obtain⟨xs,q1,q2,q3⟩:=e3 c us h;exact⟨xs,q1.keep (s _),(q2.grow s).weak fun b x=>x.any (hV fl),q3⟩
 ex:=fun p hp=>((S.ex p hp).grow s).weak fun b x=>x.any (by lia)
 mB:=fun a ha=>⟨(S.mB a ha).1,fun z=>(S.mB a ha).2 (s.free z)⟩
 len:=S.len
theorem Sl.muL (S:Sl K B fl Ex σ ρ M H) (i:Nat) (us:List T) (e:ρ[i]?=some (some (.lst us))) (k:fl.getD i 1=0):∃ a ts xs,T.lst us=.lst ts/\σ[i]?=some (some (.ref a))/\H a=some (.lst xs)/\RepL K H (Ad B H M (lc fl)) ts xs/\a∈M:=by
 obtain⟨g,hg,_⟩:=S.mu;obtain⟨v,e1,e2,e3⟩:=hg i _ e k rfl;obtain⟨xs,q1,q2,q3⟩:=e3 0 us ⟨rfl,rfl⟩;cases (show v=.ref (g i 0) from e2);exact⟨g i 0,us,xs,rfl,e1,q1,q2,q3⟩
theorem aX.rep (S:Sl K B fl Ex σ ρ M H) (h:aX K B H M H' n l t v):Rep K H' (Ad B H M l) t v:=by
 cases n with
 | false=>cases t<;>exact h
 | true=>
  cases t with
  | lst ts=>
   obtain⟨a,xs,e,h1,h2,r⟩:=h;exact⟨a,xs,e,.inl ⟨⟨fun _ z=>(S.mB a z).2 h1,fun _=>S.same.free h1,fun _=>h1⟩,.inl h2⟩,r.weak fun b x=>x.1⟩
  | non=>exact h
  | bl _=>exact h
  | int _=>exact h
  | str _=>exact h
  | tup _=>exact h
  | exc _=>exact h
  | dct _=>exact h
  | own _=>exact h
theorem Ad.since {a:Addr}(s:aZ H H1) (h:Ad B H1 M l a):Ad B H M l a:=⟨h.1,h.2.1,fun z=>s.free (h.2.2 z)⟩
theorem aX.scal (h:scal t=true):aX K B H M H' n l t v ↔ v=tv t:=by
 cases n<;>cases t<;>first | exact Iff.rfl | (simp[G.scal] at h)
theorem aX.laid {ts:List T}{xs:List V}{p:Addr}(s:aZ H H1) (hp:H1 p=none) (r:RepL K H1 (Ad B H M l) ts xs):aX K B H M (upd H1 p (.lst xs)) true l (.lst ts) (.ref p):=by
 refine⟨p,xs,rfl,s.free hp,eJ,?_⟩;exact (r.avoid hp).keep (fun b ys e=>eQ (fun o q=>by rw[bG (fun z=>by rw[z,hp] at q;cases q)];exact q) e) (fun b o x e=>by rw[bG x.2];exact e) (fun b x _=>x) ts
end
theorem eY {H:Hp}{p:Addr}(h:H p=none) (o:HO):aZ H (upd H p o):=fun b u q=>by rw[bG (gE q h)];exact q
def tG (K:PySem.W.Frag) (B:Hp) (fl:List Nat) (f:Rho->Option T) (n:Bool) (l:Nat):TE:=fun σ H Q=>
 ∃ Ex ρ M t,Sl K B fl Ex σ ρ M H/\f ρ=some t/\∀ v H',aZ H H'->aX K B H M H' n l t v->Q v H'
def GE (X:Cx) (B:Hp) (fl:List Nat) (e:Expr) (f:Rho->Option T) (n:Bool) (l:Nat):Prop:=PE X e (tG X.K B fl f n l)
def tGT (K:PySem.W.Frag) (B:Hp) (fl:List Nat) (f:Rho->Option Bool):TT:=fun σ H Q=>
 ∃ Ex ρ M b,Sl K B fl Ex σ ρ M H/\f ρ=some b/\∀ H',aZ H H'->Q b H'
def GT (X:Cx) (B:Hp) (fl:List Nat) (e:Expr) (f:Rho->Option Bool):Prop:=PT X e (tGT X.K B fl f)
def GW (X:Cx) (B:Hp) (fl:List Nat) (e:Expr) (f:Rho->Option Bool):Prop:=PW X e (tGT X.K B fl f)
def tGA (K:PySem.W.Frag) (B:Hp) (fl:List Nat) (f:Rho->Option (List T)) (l:Nat):TA:=fun σ H Q=>
 ∃ Ex ρ M ts,Sl K B fl Ex σ ρ M H/\f ρ=some ts/\∀ vs H',aZ H H'->RepL K H' (Ad B H M l) ts vs->Q vs H'
def GA (X:Cx) (B:Hp) (fl:List Nat) (es:List Expr) (f:Rho->Option (List T)) (l:Nat):Prop:=PA X es (tGA X.K B fl f l)
theorem bQ {X:Cx}{e:Expr}{t t':TE}(h:PE X e t) (k:∀ σ H Q,t' σ H Q->t σ H Q):PE X e t':=fun pins s σ H Q I q=>h pins s σ H Q I (k σ H Q q)
theorem DM {X:Cx}{e:Expr}{t t':TT}(h:PT X e t) (k:∀ σ H Q,t' σ H Q->t σ H Q):PT X e t':=fun pins s σ H Q I q=>h pins s σ H Q I (k σ H Q q)
theorem LL {X:Cx}{e:Expr}{t t':TT}(h:PW X e t) (k:∀ σ H Q,t' σ H Q->t σ H Q):PW X e t':=fun wh pins s σ H Q I q=>h wh pins s σ H Q I (k σ H Q q)
theorem yU {X:Cx}{es:List Expr}{t t':TA}(h:PA X es t) (k:∀ σ H Q,t' σ H Q->t σ H Q):PA X es t':=fun pos pins s σ H Q I q=>h pos pins s σ H Q I (k σ H Q q)
theorem dS {X:Cx}{st:Stmt}{t t':TS}(h:PS X st t) (k:∀ D σ H,t' D σ H->t D σ H):PS X st t':=fun pins s σ H D I q=>h pins s σ H D I (k D σ H q)
theorem uZ {X:Cx}{st:List Stmt}{t t':TS}(h:PSs X st t) (k:∀ D σ H,t' D σ H->t D σ H):PSs X st t':=fun pins s σ H D I q=>h pins s σ H D I (k D σ H q)
def aA (i:Nat):Rho->Option T:=fun ρ=>(ρ[i]?).join
def fC (t:T):Rho->Option T:=fun _=>some t
def f1 (f:Rho->Option T) (F:T->Option T):Rho->Option T:=fun ρ=>(f ρ).bind F
def f2 (f g:Rho->Option T) (F:T->T->Option T):Rho->Option T:=fun ρ=>(f ρ).bind fun x=>(g ρ).bind fun y=>F x y
def aF:Rho->Option (List T):=fun _=>some []
def aC (f:Rho->Option T) (g:Rho->Option (List T)):Rho->Option (List T):=fun ρ=>(f ρ).bind fun x=>(g ρ).bind fun y=>some (x::y)
def aN:T->Option T:=fun t=>if im t then some t else none
def dB:T->Option T
 | .lst ts=>if bF ts then some (.lst ts) else none
 | .tup _=>none
 | .dct _=>none
 | .own _=>none
 | t=>some t
theorem bind_some {α β:Type}{o:Option α}{f:α->Option β}{y:β}(h:o.bind f=some y):∃ x,o=some x/\f x=some y:=by
 cases o with
 | none=>cases h
 | some x=>exact⟨x,rfl,h⟩
section
variable {X:Cx}{B:Hp}{fl:List Nat}{a b e:Expr}{f g:Rho->Option T}{n n':Bool}{l l':Nat}{pos:Pos}
theorem GE.sc (h:GE X B fl e f n l):GE X B fl e (f1 f aN) true 3:=by
 refine bQ h ?_;rintro σ H Q ⟨Ex,ρ,M,t,S,hf,q⟩;obtain⟨x,hx,hg⟩:=bind_some hf;unfold aN at hg;split at hg
 ·rename_i hs
  have e:=aIo hg;subst e;refine⟨Ex,ρ,M,x,S,hx,fun v H' s r=>q v H' s ?_⟩;have r':=sM (A':=Ad B H M 3) x hs (r.rep S);cases x<;>first | exact r' | (simp[im] at hs)
 ·cases hg
theorem GE.flt (h:GE X B fl e f true l):GE X B fl e (f1 f dB) true 3:=by
 refine bQ h ?_;rintro σ H Q ⟨Ex,ρ,M,t,S,hf,q⟩;obtain⟨x,hx,hg⟩:=bind_some hf;refine⟨Ex,ρ,M,x,S,hx,fun v H' s r=>q v H' s ?_⟩;cases x with
 | lst ts=>
  unfold dB at hg;dsimp only at hg;split at hg
  ·rename_i hs
   cases hg;obtain⟨a,xs,e,h1,h2,r⟩:=r;exact⟨a,xs,e,h1,h2,jS hs r⟩
  ·cases hg
 | tup ts=>cases hg
 | non=>cases hg;exact r
 | bl _=>cases hg;exact r
 | int _=>cases hg;exact r
 | str _=>cases hg;exact r
 | exc _=>cases hg;exact r
 | dct _=>cases hg
 | own _=>cases hg
theorem aB (i:Nat) {x:Str}(hN:X.N[i]?=some x:=by rfl) (hv:Vis X.env.scope x:=by first | exact Or.inl rfl | exact Or.inr (Or.inl rfl) | exact Or.inr (Or.inr rfl)) (hd:(x == ("__debug__" : Str))=false:=by decide)
  (hcd:(x == ("__classdict__" : Str))=false:=by decide):GE X B fl (.Name x pos) (aA i) false (min (fl.getD i 1) 2):=by
 refine bQ (pv (X:=X) i hN hv hd hcd) ?_;rintro σ H Q ⟨Ex,ρ,M,t,S,hf,q⟩;have e:ρ[i]?=some (some t):=by
  unfold aA at hf;cases h:ρ[i]? with
  | none=>rw[h] at hf;cases hf
  | some o=>rw[h] at hf;cases (show o=some t from hf);rfl
 by_cases k:1<=fl.getD i 1\/im t=true
 ·obtain⟨v,e1,r⟩:=S.slot i t e k
  exact⟨v,e1,q v H (aZ.refl H) (by cases t<;>exact r)⟩
 ·have k0:fl.getD i 1=0:=by lia
  have ki:im t=false:=by
   cases h:im t with
   | false=>rfl
   | true=>exact absurd (.inr h) k
  obtain⟨g,hg,_⟩:=S.mu;obtain⟨v,e1,e2,e3⟩:=hg i t e k0 ki;rw[k0] at q;exact⟨_,e1,q _ H (aZ.refl H) (by
   have:=e2.rep (A:=Ad B H M 0) (fun _=>Ad.zero) fun c us h=>(by
    obtain⟨xs,q1,q2,_⟩:=e3 c us h;exact⟨xs,q1,q2.weak fun b _=>Ad.zero⟩)
   cases t<;>exact this)⟩
theorem aE {i:Int}{j:Nat}:GE X B fl (.Constant (.int i) j pos) (fC (.int i)) true 3:=
 bQ aCt fun _ H _ ⟨_,_,_,_,_,hf,q⟩=>q _ H (aZ.refl H) (by cases (aIo hf);rfl)
theorem jL {i:Bool}{j:Nat}:GE X B fl (.Constant (.bool i) j pos) (fC (.bl i)) true 3:=
 bQ aCq fun _ H _ ⟨_,_,_,_,_,hf,q⟩=>q _ H (aZ.refl H) (by cases (aIo hf);rfl)
theorem CF {j:Nat}:GE X B fl (.Constant .none j pos) (fC .non) true 3:=
 bQ aCw fun _ H _ ⟨_,_,_,_,_,hf,q⟩=>q _ H (aZ.refl H) (by cases (aIo hf);rfl)
def SOp (r:R2) (F:T->T->Option T):Prop:=∀ x y t,F x y=some t->scal x=true/\scal y=true/\scal t=true/\∀ (H:Hp) (Q:VK),Q (tv t) H->r (tv x) (tv y) H Q
theorem fL {op:Operator}{r:R2}{F:T->T->Option T}(ho:OpR X (binaryOp op) r) (hF:SOp r F) (ha:GE X B fl a f n l) (hb:GE X B fl b g n' l'):GE X B fl (.BinOp a op b pos) (f2 f g F) true 3:=by
 refine bQ (DG ho ha hb) ?_;rintro σ H Q ⟨Ex,ρ,M,t,S,hf,q⟩;obtain⟨x,hx,hf⟩:=bind_some hf;obtain⟨y,hy,hf⟩:=bind_some hf;obtain⟨sx,sy,st,k⟩:=hF x y t hf;refine⟨Ex,ρ,M,x,S,hx,fun vx H1 s1 rx=>⟨Ex,ρ,M,y,S.grow s1,hy,fun vy H2 s2 ry=>?_⟩⟩;rw[aX.scal sx] at rx;rw[aX.scal sy] at ry;subst rx ry;exact k H2 Q (q _ H2 (s1.trans s2) ((aX.scal st).mpr rfl))
theorem WY {op:CmpOp}{r:R2}{F:T->T->Option T}(ho:OpR X (compareOp op) r) (hF:SOp r F) (ha:GE X B fl a f n l) (hb:GE X B fl b g n' l') (hm:behindInMarks op b=false:=by first | exact nX _ | rfl):GE X B fl (.Compare a [op] [b] pos) (f2 f g F) true 3:=by
 refine bQ (KZ ho ha hb hm) ?_;rintro σ H Q ⟨Ex,ρ,M,t,S,hf,q⟩;obtain⟨x,hx,hf⟩:=bind_some hf;obtain⟨y,hy,hf⟩:=bind_some hf;obtain⟨sx,sy,st,k⟩:=hF x y t hf;refine⟨Ex,ρ,M,x,S,hx,fun vx H1 s1 rx=>⟨Ex,ρ,M,y,S.grow s1,hy,fun vy H2 s2 ry=>?_⟩⟩;rw[aX.scal sx] at rx;rw[aX.scal sy] at ry;subst rx ry;exact k H2 Q (q _ H2 (s1.trans s2) ((aX.scal st).mpr rfl))
def oI (C:Int->Int->Bool) (h:Int->Int->T):T->T->Option T
 | .int i,.int j=>if C i j then some (h i j) else none
 | _,_=>none
theorem rF {C:Int->Int->Prop}{c:Int->Int->Bool}{gv:Int->Int->V}{h:Int->Int->T}(hc:∀ i j,c i j=true->C i j) (hs:∀ i j,scal (h i j)=true) (he:∀ i j,tv (h i j)=gv i j):SOp (rI C gv) (oI c h):=by
 intro x y t e;cases x<;>first | (cases e;done) | skip
 cases y<;>first | (cases e;done) | skip
 rename_i i j;unfold oI at e;dsimp only at e;split at e
 ·rename_i k
  cases e;exact⟨rfl,rfl,hs i j,fun H Q q=>⟨i,j,rfl,rfl,hc i j k,by rw[<- he i j];exact q⟩⟩
 ·cases e
theorem mI {gv:Int->Int->V}{h:Int->Int->T}(hs:∀ i j,scal (h i j)=true) (he:∀ i j,tv (h i j)=gv i j):SOp (rI0 gv) (oI (fun _ _=>true) h):=by
 intro x y t e;cases x<;>first | (cases e;done) | skip
 cases y<;>first | (cases e;done) | skip
 rename_i i j;cases (show some (h i j)=some t from e);exact⟨rfl,rfl,hs i j,fun H Q q=>⟨i,j,rfl,rfl,by rw[<- he i j];exact q⟩⟩
abbrev cT:Int->Int->Bool:=fun _ _=>true
def cA:T->T->Option T:=oI cT fun i j=>.int (i+j)
def cQ:T->T->Option T:=oI cT fun i j=>.int (i-j)
def fM (i j:Int):Bool:=decide (i.natAbs<2^64)||decide (j.natAbs<2^64)||(decide (Builtin.Int.intBits i<=2^20)&&decide (Builtin.Int.intBits j<=2^20))
def bD:T->T->Option T:=oI fM fun i j=>.int (i*j)
def aY:T->T->Option T:=oI (fun _ j=>decide (0<j)&&decide (j<2^200)) fun i j=>.int (i / j)
def aS:T->T->Option T:=oI (fun _ j=>decide (0<j)) fun i j=>.int (i%j)
def jQ:T->T->Option T:=oI (fun _ j=>decide (0<=j)) fun i j=>.int (i / 2^j.toNat)
def cX:T->T->Option T:=oI (fun i j=>decide (0<=j)&&decide (j<=1000000)&&decide (i.natAbs<2^64)) fun i j=>.int (i*2^j.toNat)
def eF:T->T->Option T:=oI (fun i j=>decide (0<=j)&&decide ((Builtin.Int.intBits i:Int)*j<=2^27)) fun i j=>.int (i^j.toNat)
def fN:T->T->Option T:=oI cT fun i j=>.int (Builtin.bitAnd i j)
def oOr:T->T->Option T:=oI cT fun i j=>.int (Builtin.bitOr i j)
def yR:T->T->Option T:=oI cT fun i j=>.int (Builtin.bitXor i j)
def oLt:T->T->Option T:=oI cT fun i j=>.bl (decide (i<j))
def oLe:T->T->Option T:=oI cT fun i j=>.bl (decide (i<=j))
def oGt:T->T->Option T:=oI cT fun i j=>.bl (decide (j<i))
def oGe:T->T->Option T:=oI cT fun i j=>.bl (decide (j<=i))
theorem ZZ {i j:Int}(h:fM i j=true):IntMulOk i j:=by
 unfold fM at h;rcases Bool.or_eq_true_iff.mp h with h | h
 ·rcases Bool.or_eq_true_iff.mp h with h | h
  ·have h:=of_decide_eq_true h
   exact .of_left (intBits_le_64 (by lia) (by lia))
  ·have h:=of_decide_eq_true h
   exact .of_right (intBits_le_64 (by lia) (by lia))
 ·have h:=aJ2.mp h
  exact .of_bits (of_decide_eq_true h.1) (of_decide_eq_true h.2)
theorem aC4:OpR X (binaryOp .Mult) (rI (fun i j=>fM i j=true) fun i j=>.int (i*j)):=opI fun _ _ _ _ _ _ _ hc q=>mul_int q (ZZ hc)
theorem aC5:OpR X (binaryOp .Pow) (rI (fun i j=>0<=j/\(Builtin.Int.intBits i:Int)*j<=2^27) fun i j=>.int (i^j.toNat)):=opI fun _ _ _ _ _ _ _ hc q=>pow_int hc.1 hc.2 q
theorem cI (ha:GE X B fl a f n l) (hb:GE X B fl b g n' l'):GE X B fl (.BinOp a .Add b pos) (f2 f g cA) true 3:=fL aC6 (mI (fun _ _=>rfl) fun _ _=>rfl) ha hb
theorem dH (ha:GE X B fl a f n l) (hb:GE X B fl b g n' l'):GE X B fl (.BinOp a .Sub b pos) (f2 f g cQ) true 3:=fL aCj (mI (fun _ _=>rfl) fun _ _=>rfl) ha hb
theorem cD (ha:GE X B fl a f n l) (hb:GE X B fl b g n' l'):GE X B fl (.BinOp a .Mult b pos) (f2 f g bD) true 3:=fL aC4 (rF (fun _ _ k=>k) (fun _ _=>rfl) fun _ _=>rfl) ha hb
theorem nQ (ha:GE X B fl a f n l) (hb:GE X B fl b g n' l'):GE X B fl (.BinOp a .Pow b pos) (f2 f g eF) true 3:=fL aC5 (rF (fun _ _ k=>by simpa using k) (fun _ _=>rfl) fun _ _=>rfl) ha hb
theorem bO (ha:GE X B fl a f n l) (hb:GE X B fl b g n' l'):GE X B fl (.BinOp a .Mod b pos) (f2 f g aS) true 3:=fL aCc (rF (fun _ _ k=>of_decide_eq_true k) (fun _ _=>rfl) fun _ _=>rfl) ha hb
theorem uD (ha:GE X B fl a f n l) (hb:GE X B fl b g n' l'):GE X B fl (.BinOp a .RShift b pos) (f2 f g jQ) true 3:=fL aCi (rF (fun _ _ k=>of_decide_eq_true k) (fun _ _=>rfl) fun _ _=>rfl) ha hb
theorem eM (ha:GE X B fl a f n l) (hb:GE X B fl b g n' l'):GE X B fl (.BinOp a .LShift b pos) (f2 f g cX) true 3:=fL aCh (rF (fun _ _ k=>by simpa [EN,and_assoc] using k) (fun _ _=>rfl) fun _ _=>rfl) ha hb
theorem jK (ha:GE X B fl a f n l) (hb:GE X B fl b g n' l'):GE X B fl (.BinOp a .BitAnd b pos) (f2 f g fN) true 3:=fL aC7 (mI (fun _ _=>rfl) fun _ _=>rfl) ha hb
theorem xX (ha:GE X B fl a f n l) (hb:GE X B fl b g n' l'):GE X B fl (.BinOp a .BitOr b pos) (f2 f g oOr) true 3:=fL aCe (mI (fun _ _=>rfl) fun _ _=>rfl) ha hb
theorem XG (ha:GE X B fl a f n l) (hb:GE X B fl b g n' l'):GE X B fl (.BinOp a .BitXor b pos) (f2 f g yR) true 3:=fL aCk (mI (fun _ _=>rfl) fun _ _=>rfl) ha hb
theorem IO (ha:GE X B fl a f n l) (hb:GE X B fl b g n' l'):GE X B fl (.Compare a [.Lt] [b] pos) (f2 f g oLt) true 3:=WY KQ (mI (fun _ _=>rfl) fun _ _=>rfl) ha hb
end
end G
namespace L2
open PySem PySem.Spec PyProof.Rows
def eK (cells:List (Str × Addr)):List (Str × NameKind)->List (Str × Addr)->Option (List (Str × Addr))
 | [],cs=>some cs
 | (n,k)::r,cs=>if k == .free then (match cells.lookup n with | some a=>eK cells r ((n,a)::cs) | none=>none) else eK cells r cs
theorem HM {scope:Scope}{env:Env}{cl:List (Str × Addr)}(h:eK env.cells scope.names []=some cl):closureFor scope env=pure cl:=by
 have key:∀ (ns:List (Str × NameKind)) (cs:List (Str × Addr)),eK env.cells ns cs=some cl ->
   (forIn ns cs (fun (x:Str × NameKind) (cs:List (Str × Addr))=>if x.2 == .free then (do let a <- cellOf env x.1;pure (ForInStep.yield ((x.1,a)::cs))) else pure (ForInStep.yield cs)):Sem (List (Str × Addr)))=pure cl:=by
  intro ns
  induction ns with
  | nil=>intro cs h;cases (aIo h);rfl
  | cons x r ih=>
   intro cs h;obtain⟨n,k⟩:=x;rw[List.forIn_cons];unfold eK at h;dsimp only at h ⊢
   by_cases hk:(k == NameKind.free)=true
   ·rw[if_pos hk] at h ⊢
    cases hl:env.cells.lookup n with
    | none=>rw[hl] at h;cases h
    | some a=>
     rw[hl] at h;have e:cellOf env n=pure a:=by unfold cellOf;rw[hl]
     rw[e];simp only[pure_bind];exact ih _ h
   ·rw[if_neg hk] at h ⊢
    simp only[pure_bind];exact ih _ h
 have q:=key scope.names [] h;unfold closureFor
 simpa using q
theorem BF {cells:List (Str × Addr)}:∀ {ns:List (Str × NameKind)}{cs cl:List (Str × Addr)},eK cells ns cs=some cl->(∀ x c,cs.lookup x=some c->cells.lookup x=some c)->∀ x c,cl.lookup x=some c->cells.lookup x=some c
 | [],cs,cl,h,k=>by cases (aIo h);exact k
 | (n,kd)::r,cs,cl,h,k=>by
  unfold eK at h
  by_cases hk:(kd == NameKind.free)=true
  ·rw[if_pos hk] at h
   cases hl:cells.lookup n with
   | none=>rw[hl] at h;cases h
   | some a=>
    rw[hl] at h;refine BF h fun x c e=>?_;rw[aKb] at e
    by_cases hx:(x == n)=true
    ·rw[hx] at e
     cases (aIo e);rw[eq_of_beq hx];exact hl
    ·have hx':(x == n)=false:=by simpa using hx
     rw[hx'] at e;exact k x c e
  ·rw[if_neg hk] at h
   exact BF h k
theorem xL {cells:List (Str × Addr)}{x:Str}:∀ {ns:List (Str × NameKind)}{cs cl:List (Str × Addr)},eK cells ns cs=some cl->((x,NameKind.free)∈ns\/∃ c,cs.lookup x=some c)->∃ c,cl.lookup x=some c
 | [],cs,cl,h,k=>by
  cases (aIo h);rcases k with k | k
  ·cases k
  ·exact k
 | (n,kd)::r,cs,cl,h,k=>by
  unfold eK at h;have old:∀ a,(∃ c,cs.lookup x=some c)->∃ c,((n,a)::cs).lookup x=some c:=fun a ⟨c,e⟩=>by
   rw[aKb]
   by_cases hx:(x == n)=true
   ·rw[hx];exact⟨_,rfl⟩
   ·have hx':(x == n)=false:=by simpa using hx
    rw[hx'];exact⟨c,e⟩
  by_cases hk:(kd == NameKind.free)=true
  ·rw[if_pos hk] at h
   cases hl:cells.lookup n with
   | none=>rw[hl] at h;cases h
   | some a=>
    rw[hl] at h;refine xL h ?_;rcases k with k | k
    ·rcases aJ0.mp k with e | k
     ·cases e
      exact .inr ⟨a,by rw[aKb];simp⟩
     ·exact .inl k
    ·exact .inr (old a k)
  ·rw[if_neg hk] at h
   refine xL h ?_;rcases k with k | k
   ·rcases aJ0.mp k with e | k
    ·cases e
     exact absurd rfl hk
    ·exact .inl k
   ·exact .inr k
theorem xM {cells:List (Str × Addr)}:∀ {ns:List (Str × NameKind)}{cs:List (Str × Addr)},(∀ n,(n,NameKind.free)∈ns->∃ c,cells.lookup n=some c)->∃ cl,eK cells ns cs=some cl
 | [],cs,_=>⟨cs,rfl⟩
 | (n,kd)::r,cs,k=>by
  unfold eK
  by_cases hk:(kd == NameKind.free)=true
  ·rw[if_pos hk]
   obtain⟨c,e⟩:=k n (by rw[eq_of_beq hk];exact aIs);rw[e];exact xM fun m hm=>k m (aIr _ hm)
  ·rw[if_neg hk]
   exact xM fun m hm=>k m (aIr _ hm)
def sC:Option NameKind->Bool
 | some .cell=>true
 | _=>false
theorem JP {o:Option NameKind}(h:sC o=true):o=some .cell:=by
 cases o with
 | none=>cases h
 | some k=>cases k<;>first | rfl | cases h
theorem kT {x y:Str}{n:Addr}{cs:List (Str × Addr)}:((y,n)::cs).lookup x=if (x == y)=true then some n else cs.lookup x:=by
 rw[aKb]
 by_cases h:(x == y)=true
 ·rw[h];rfl
 ·have h':(x == y)=false:=by simpa using h
  rw[h'];rfl
theorem yS {x:Str}:∀ {ns:List (Str × NameKind)}{n n0:Nat}{cs:List (Str × Addr)},n0<=n->(ns.lookup x=some .cell\/∃ c,cs.lookup x=some c/\n0<=c)->∃ c,(cellsFrom n ns cs).lookup x=some c/\n0<=c
 | [],n,n0,cs,_,h=>by
  rcases h with h | h
  ·cases h
  ·exact h
 | (y,k)::r,n,n0,cs,hn,h=>by
  unfold cellsFrom
  by_cases hk:(k == NameKind.cell)=true
  ·rw[if_pos hk]
   refine yS (Nat.le_succ_of_le hn) ?_
   by_cases hx:(x == y)=true
   ·exact .inr ⟨n,by rw[kT,if_pos hx],hn⟩
   ·rcases h with h | ⟨c,e,hc⟩
    ·have hx':(x == y)=false:=by simpa using hx
     rw[aKb,hx'] at h;exact .inl h
    ·exact .inr ⟨c,by rw[kT,if_neg hx];exact e,hc⟩
  ·rw[if_neg hk]
   refine yS hn ?_;rcases h with h | h
   ·rw[aKb] at h
    by_cases hx:(x == y)=true
    ·rw[hx] at h
     have h':k=NameKind.cell:=aIo h;rw[h'] at hk;exact absurd rfl hk
    ·have hx':(x == y)=false:=by simpa using hx
     rw[hx'] at h;exact .inl h
   ·exact .inr h
theorem DE {x:Str}{c:Addr}:∀ {ns:List (Str × NameKind)}{n:Nat}{cs:List (Str × Addr)},(x,NameKind.cell) ∉ ns->cs.lookup x=some c->(cellsFrom n ns cs).lookup x=some c
 | [],_,_,_,h=>h
 | (y,k)::r,n,cs,hx,h=>by
  unfold cellsFrom;have hr:(x,NameKind.cell) ∉ r:=fun z=>hx (aIr _ z)
  by_cases hk:(k == NameKind.cell)=true
  ·rw[if_pos hk]
   refine DE hr ?_;have:¬ (x == y)=true:=fun z=>hx (by rw[eq_of_beq z,eq_of_beq hk];exact aIs);rw[kT,if_neg this];exact h
  ·rw[if_neg hk]
   exact DE hr h
theorem yT {x:Str}{c:Addr}:∀ {ns:List (Str × NameKind)}{n:Nat}{cs:List (Str × Addr)},cs.lookup x=some c->∃ c',(cellsFrom n ns cs).lookup x=some c'
 | [],_,_,h=>⟨c,h⟩
 | (y,k)::r,n,cs,h=>by
  unfold cellsFrom
  by_cases hk:(k == NameKind.cell)=true
  ·rw[if_pos hk]
   by_cases hx:(x == y)=true
   ·exact yT (c:=n) (by rw[kT,if_pos hx])
   ·exact yT (c:=c) (by rw[kT,if_neg hx];exact h)
  ·rw[if_neg hk]
   exact yT h
theorem DF {x:Str}{c:Addr}:∀ {ns:List (Str × NameKind)}{h:Heap}{cs:List (Str × Addr)},(cellsFrom h.objs.size ns cs).lookup x=some c->cs.lookup x=some c\/(h.objs.size<=c/\(pushCells h ns).IsCell c none)
 | [],_,_,e=>.inl e
 | (y,k)::r,h,cs,e=>by
  unfold cellsFrom at e;unfold pushCells
  by_cases hk:(k == NameKind.cell)=true
  ·rw[if_pos hk] at e
   rw[if_pos hk];have e':(cellsFrom (h.push { cls:=.type "cell",data:=.cell none }).objs.size r ((y,h.objs.size)::cs)).lookup x=some c:=by rw[aJa];exact e
   rcases DF e' with q | ⟨q1,q2⟩
   ·rw[kT] at q
    by_cases hx:(x == y)=true
    ·rw[if_pos hx] at q
     cases q;exact .inr ⟨aKv _,_,pushCells_keeps r _ _ _ (aJ8 _ rfl),rfl⟩
    ·rw[if_neg hx] at q
     exact .inl q
   ·rw[aJa] at q1
    exact .inr ⟨Nat.le_of_succ_le q1,q2⟩
  ·rw[if_neg hk] at e
   rw[if_neg hk];exact DF e
theorem DD:∀ {ns:List (Str × NameKind)}{n:Nat}{cs:List (Str × Addr)},(∀ x c,cs.lookup x=some c->c<n)->(∀ x y c,cs.lookup x=some c->cs.lookup y=some c->x=y) ->
  ∀ x y c,(cellsFrom n ns cs).lookup x=some c->(cellsFrom n ns cs).lookup y=some c->x=y
 | [],_,_,_,h=>h
 | (z,k)::r,n,cs,hb,h=>by
  unfold cellsFrom
  by_cases hk:(k == NameKind.cell)=true
  ·rw[if_pos hk]
   refine DD (fun x c e=>?_) fun x y c e1 e2=>?_
   ·rw[kT] at e
    split at e
    ·cases e;exact aL0 _
    ·exact Nat.lt_succ_of_lt (hb x c e)
   ·rw[kT] at e1 e2
    split at e1
    ·rename_i hx
     cases e1;split at e2
     ·rename_i hy
      rw[eq_of_beq hx,eq_of_beq hy]
     ·exact absurd (hb y _ e2) (aKx _)
    ·split at e2
     ·cases e2
      exact absurd (hb x _ e1) (aKx _)
     ·exact h x y c e1 e2
  ·rw[if_neg hk]
   exact DD hb h
theorem aA1 {M:Model}{A:Around}{E:Value->Shared->Prop}{s:Shared}{scope:Scope}{globals:Addr}{closure:List (Str × Addr)}{qual:Str}{outer:Env}{builtins:Addr}{Q:Env->Shared->Prop}
  (hQ:Q (newEnv scope s.heap.objs.size globals (cellsFrom (s.heap.objs.size+1) scope.names closure) qual none .none (some outer) builtins) { s with heap:=pushCells (s.heap.push { cls:=.type "dict",data:=.dict #[] }) scope.names }):
  wpAny M A (newFunctionEnv scope globals closure [] qual none .none (some outer) builtins) Q E s:=by
 simp only[newFunctionEnv,Option.isSome_some,if_true];simp only[newEnv] at hQ;refine wpAny_bind (wpAny_alloc ?_);refine wpAny_bind (wpAny_layCells _ (fun name kind cells=>by cases hkc:kind == NameKind.cell<;>simp[hkc]) _ _ _ _ ?_)
 rw[show ({ s with heap:=s.heap.push { cls:=.type "dict",data:=.dict #[] } }:Shared).heap.objs.size=s.heap.objs.size+1 from aJa ..];refine wpAny_bind ?_;rw[List.forIn_nil];exact wpAny_pure (wpAny_pure hQ)
def cxB (X:Cx) (scope:Scope) (N':List Str) (cl:List (Str × Addr)) (C:Addr) (s:Shared) (H:Hp) (ex:List Addr):Cx where
 prog:=X.prog
 w:=X.w
 K:=X.K
 mg:=X.mg
 base:=X.base
 A:=X.A
 N:=N'
 s₀:=s
 H₀:=H
 env:=compEnvC scope cl C X.env
 outer:=X.stack
 stack:=X.stack
 ex:=ex
 fn:=fun x=>sC (scope.names.lookup x)
 calm:=X.calm
 pn:=[]
 xe:=fun _ _=>False
def cZ (src:List (Option Nat)) (σ:St):St:=src.map fun o=>o.bind fun i=>(σ[i]?).join
structure BlkOk (X:Cx) (scope:Scope) (N':List Str) (src:List (Option Nat)):Prop where
 kind:scope.kind=.function
 cells:∀ y∈scope.names,y.2=.cell->scope.names.lookup y.1=some .cell
 names:∀ y∈scope.names,y.2=.local->scope.names.lookup y.1=some .local
 frees:∀ y∈scope.names,y.2=.free->X.env.kindOf y.1=some .cell\/X.env.kindOf y.1=some .free
 srcN:∀ (j i:Nat),src[j]?=some (some i)->∃ x,N'[j]?=some x/\X.N[i]?=some x/\scope.names.lookup x≠some .local/\scope.names.lookup x≠some .cell
 len:src.length=N'.length
theorem yI {env:Env}:∀ {names:List (Str × NameKind)}{x:Str}{k:NameKind},
  (names.map fun (n,k)=>if (k == NameKind.free&&env.scope.kind == .function&&env.kindOf n == some .cell) then (n,NameKind.cell) else (n,k)).lookup x=some k->∃ k0,names.lookup x=some k0/\(x,k0)∈names/\(k0=k\/(k0=.free/\k=.cell))
 | [],_,_,h=>by simp at h
 | (n,kd)::r,x,k,h=>by
  have ih:=@yI env r x k
  by_cases hc:(kd == NameKind.free&&env.scope.kind == .function&&env.kindOf n == some .cell)=true
  ·have e:((n,kd)::r).map (fun (n,k)=>if (k == NameKind.free&&env.scope.kind == .function&&env.kindOf n == some .cell) then (n,NameKind.cell) else (n,k))=(n,NameKind.cell)::r.map (fun (n,k)=>if (k == NameKind.free&&env.scope.kind == .function&&env.kindOf n == some .cell) then (n,NameKind.cell) else (n,k)):=by
    rw[aKc];dsimp only;rw[if_pos hc]
   rw[e,aKb] at h;have hf:kd=.free:=by
    have:=(aJ2.mp (aJ2.mp hc).1).1;exact eq_of_beq this
   by_cases hx:(x == n)=true
   ·rw[hx] at h
    have h':NameKind.cell=k:=aIo h;refine⟨kd,by rw[aKb,hx],by rw[eq_of_beq hx];exact aIs,.inr ⟨hf,h'.symm⟩⟩
   ·have hx':(x == n)=false:=by simpa using hx
    rw[hx'] at h;obtain⟨k0,a,b,c⟩:=ih h;exact⟨k0,by rw[aKb,hx'];exact a,aIr _ b,c⟩
  ·have e:((n,kd)::r).map (fun (n,k)=>if (k == NameKind.free&&env.scope.kind == .function&&env.kindOf n == some .cell) then (n,NameKind.cell) else (n,k))=(n,kd)::r.map (fun (n,k)=>if (k == NameKind.free&&env.scope.kind == .function&&env.kindOf n == some .cell) then (n,NameKind.cell) else (n,k)):=by
    rw[aKc];dsimp only;rw[if_neg hc]
   rw[e,aKb] at h
   by_cases hx:(x == n)=true
   ·rw[hx] at h
    have h':kd=k:=aIo h;exact⟨kd,by rw[aKb,hx],by rw[eq_of_beq hx];exact aIs,.inl h'⟩
   ·have hx':(x == n)=false:=by simpa using hx
    rw[hx'] at h;obtain⟨k0,a,b,c⟩:=ih h;exact⟨k0,by rw[aKb,hx'];exact a,aIr _ b,c⟩
section
variable {X:Cx}{pins:List (Addr × Obj)}{σ:St}{H:Hp}{s2:Shared}
theorem YS {scope : Scope} {N' : List Str} {src : List (Option Nat)} {cl : List (Str × Addr)} {fp : List Addr} {h4 : Heap} {t4 : Nat} {C : Addr} {m : Str -> Option Value} (S : BlkOk X scope N' src) (I : Inv X pins σ H s2)
  (hcl : eK X.env.cells scope.names [] = some cl) (hf : ∀ b ∈ fp, fH X pins H b) (ho : ∀ b ∈ fp, ∃ o, s2.heap.get? b = some o) (hC : s2.heap.objs.size < C)
  (hk : ∀ b o, s2.heap.get? b = some o -> h4.get? b = some o) (hD : h4.get? s2.heap.objs.size = some { cls := .type "list", data := .seq ([] : List Value).toArray 0 }) (hns : h4.Ns C m)
  (hown : ∀ x c, (cellsFrom (C + 1) scope.names cl).lookup x = some c -> cl.lookup x = some c \/ (C < c /\ h4.IsCell c none)) :
  Inv (cxB X scope N' (cellsFrom (C + 1) scope.names cl) C s2 H fp) [] (cZ src σ) (upd H s2.heap.objs.size (.lst [])) { s2 with heap := h4, toks := t4 } := by
 have hH : H s2.heap.objs.size = none := I.hok.fresh (aKv _);have hHC : H C = none := I.hok.fresh (aKu hC);have sub := BF hcl (fun x c e => by simp at e);have clt : ∀ x c, cl.lookup x = some c -> c < s2.heap.objs.size := fun x c e => by
  obtain ⟨v, q⟩ := I.cell x c (sub x c e);exact q.lt
 have frKind : ∀ x, ((relabel scope X.env).names.lookup x = some .cell \/ (relabel scope X.env).names.lookup x = some .free) -> (x, NameKind.free) ∈ scope.names \/ scope.names.lookup x = some .cell := fun x hx => by
  rcases hx with hx | hx
  ·obtain ⟨k0, a, b, c⟩ := yI hx
   rcases c with rfl | ⟨rfl, _⟩
   ·exact .inr a
   ·exact .inl b
  ·obtain ⟨k0, _, b, c⟩ := yI hx
   rcases c with rfl | ⟨rfl, _⟩
   ·exact .inl b
   ·exact .inl b
 have noex : ∀ b o, X.base.get? b = some o -> b ∉ fp := fun b o e hb => by
  rcases (hf b hb).2.2.2.1 with z | z
  ·exact I.ok.noex b o e z
  ·exact absurd (aIw (aIw (aJ9 e) I.ok.bsz) z) (aKx _)
 have hasC : ∀ x, ((relabel scope X.env).names.lookup x = some .cell \/ (relabel scope X.env).names.lookup x = some .free) -> ∃ c, (cellsFrom (C + 1) scope.names cl).lookup x = some c := fun x hx => by
  rcases frKind x hx with q | q
  ·obtain ⟨c, e⟩ := xL hcl (.inl q)
   exact yT e
  ·obtain ⟨c, e, _⟩ := yS (n0 := C + 1) (cs := cl) (aKv (C + 1)) (.inl q)
   exact ⟨c, e⟩
 have cabC : ∀ x c, sC (scope.names.lookup x) = true -> (cellsFrom (C + 1) scope.names cl).lookup x = some c -> s2.heap.objs.size <= c := fun x c z e => by
  obtain ⟨c', e', h'⟩ := yS (n0 := C + 1) (cs := cl) (aKv (C + 1)) (.inl (JP z));rw [e] at e';cases e';exact aKu (aL1 hC h')
 have exC : ∀ b ∈ fp, ∀ x c, (cellsFrom (C + 1) scope.names cl).lookup x = some c -> c ≠ b := fun b hb x c e => by
  rcases hown x c e with q | ⟨q, _⟩
  ·exact (hf b hb).2.2.2.2.1 x c (sub x c q)
  ·rintro rfl
   obtain ⟨o, eo⟩ := ho c hb;exact absurd (aL1 (aJ9 eo) (aL1 hC q)) (aKx _)
 refine ⟨⟨I.ok.mod, S.kind, I.ok.glob, I.ok.blt, aKu hC, DD (fun x c e => Nat.lt_succ_of_lt (aL1 (clt x c e) hC)) (fun x y c e1 e2 => I.ok.inj x y c (sub x c e1) (sub y c e2)), fun x hx => hasC x hx, fun x c z e => cabC x c z e, I.ok.hd, I.ok.frames, .inl rfl, fun b hb => ⟨fun z => ?_, fun x c e => exC b hb x c e⟩,
   I.bs, aKw I.ok.bsz I.sz, noex, fun b hb z => ?_, I.stack, I.stkFree⟩,
  rfl, I.bare, Un.laid hk (aKv _) hH, ⟨m, hns, fun i x v e1 e2 e3 => ?_⟩, fun x c e => ?_, ?_, fun x c e => ?_, fun p hp => absurd (show p ∈ ([] : List (Addr × Obj)) from hp) (by simp), I.hok.laid hk (aKv _) ?_, ?_⟩
 ·obtain ⟨o, e⟩ := ho b hb
  have z' : b = C := z;subst z';exact absurd (aL1 (aJ9 e) hC) (aKx _)
 ·rcases aJ0.mp (I.stkSub b z) with e | z
  ·exact (hf b hb).2.1 e
  ·exact (hf b hb).2.2.1 z
 ·-- a captured name
  have e2' : (src.map fun o => o.bind fun i => (σ[i]?).join)[i]? = some (some v) := e2;rw [aJx] at e2';cases es : src[i]? with
  | none => rw [es] at e2'; cases e2'
  | some o =>
   rw [es] at e2';have e2'' : (o.bind fun i => (σ[i]?).join) = some v := aIo e2';cases o with
   | none => cases e2''
   | some j =>
    have ej : σ[j]? = some (some v) := by
     have z : (σ[j]?).join = some v := e2'';cases q : σ[j]? with
     | none => rw [q] at z; cases z
     | some w => rw [q] at z; cases (show w = some v from z); rfl
    obtain ⟨x', n1, n2, n3⟩ := S.srcN i j es;have ex : x' = x := by
     have z : N'[i]? = some x := e1;rw [n1] at z; exact aIo z
    subst ex;have hkd : (relabel scope X.env).names.lookup x' = some .cell \/ (relabel scope X.env).names.lookup x' = some .free := by
     have e3' : Vis (relabel scope X.env) x' := e3;rcases e3' with z | z | z
     ·obtain ⟨k0, a, _, c⟩ := yI z
      rcases c with rfl | ⟨_, q⟩
      ·exact absurd a n3.1
      ·cases q
     ·exact .inl z
     ·exact .inr z
    have hfr := (frKind x' hkd).resolve_right n3.2;have nown : (x', NameKind.cell) ∉ scope.names := fun z => n3.2 (S.cells _ z rfl);have ok := S.frees _ hfr rfl;obtain ⟨m0, hn0, hl0⟩ := I.loc;obtain ⟨u, ru, lu⟩ := hl0 j x' v n2 ej (ok.elim (fun z => .inr (.inl z)) (fun z => .inr (.inr z)));refine ⟨u, ru, .inr ⟨hkd, ?_⟩⟩;rcases lu with ⟨z, _⟩ | ⟨_, c, ec, ic⟩
    ·exfalso
     have z' : X.env.kindOf x' = some .local := z;rcases ok with w | w <;> (rw [z'] at w; cases w)
    ·obtain ⟨c', ec'⟩ := xL hcl (.inl hfr)
     have : c' = c := by
      have := sub x' c' ec';rw [ec] at this;exact (aIo this).symm
     subst this;obtain ⟨oc, g1, g2⟩ := ic;exact ⟨c', DE nown ec', oc, hk _ _ g1, g2⟩
 ·rcases hown x c e with q | ⟨_, q⟩
  ·obtain ⟨v, oc, g1, g2⟩ := I.cell x c (sub x c q)
   exact ⟨v, oc, hk _ _ g1, g2⟩
  ·exact ⟨none, q⟩
 ·show upd H s2.heap.objs.size (.lst []) C = none
  rw [bG (aL4 hC)];exact hHC
 ·show upd H s2.heap.objs.size (.lst []) c = none
  rcases hown x c e with q | ⟨q, _⟩
  ·rw [bG (aL5 (clt x c q))]
   exact I.freeC x c (sub x c q)
  ·rw [bG (aL4 (aL1 hC q))]
   exact I.hok.fresh (aKu (aL1 hC q))
 ·exact ⟨aLf _, [], 0, .nil, hD⟩
 ·show (cZ src σ).length = N'.length
  unfold cZ;rw [aK5];exact S.len
end
section
variable {prog:Program}{w:World}{A:Around}{E:Value->Shared->Prop}{R:Result->Shared->Prop}{s:Shared}
theorem TN {elt target iter : Expr} {ifs : List Expr} {scope : Scope} {pos : Pos} {it acc : Value} {env : Env} (I : Nat -> Shared -> Prop)
  (turn : ∀ n s, I n s -> wpAny (model prog w) A (pyNext it) (fun r s₁ => match r with
   | none => R (.ok .next) s₁
   | some v => wpAny (model prog w) A (letOwnedTupleGo target it v) (fun _ s₁' => wpAny (model prog w) A (assign target env v) (fun _ s₂ =>
     wpAny (model prog w) A (forIn ifs true fun c r => if r = true then do let ok <- isTrue c env (eval c env); pure (ForInStep.yield ok) else pure (ForInStep.yield r)) (fun ok s₃ =>
      if ok = true then wpAny (model prog w) A (eval elt env) (fun x s₄ =>
       wpAny (model prog w) A (call (.builtin "list.append") [acc, x]) (fun _ s₅ => ∃ m, m < n /\ I m s₅) (fun _ _ => False) s₄) (fun _ _ => False) s₃
      else ∃ m, m < n /\ I m s₃) (fun _ _ => False) s₂) (fun _ _ => False) s₁') (fun _ _ => False) s₁) (fun _ _ => False) s)
  (n : Nat) (h : I n s) :
  codeAny (model prog w) A (.compLoop (.ListComp elt [⟨target, iter, ifs, 0⟩] scope pos) 0 it acc env) R s := by
 refine codeAny_loop rfl I (fun n s hI => ?_) n h;show wpAny _ A ((compTurn (.ListComp elt [⟨target, iter, ifs, 0⟩] scope pos) 0 it acc env).onRaise (fun x => do noteFrame x env; theTreesLotGoes x)) _ _ s;refine wpAny_noted ?_;rw [compTurn_list];refine wpAny_bind (wpAny_standAt (wpAny_bind (wpAny_mono (turn n s hI) (fun r s₁ h₁ => ?_) fun _ _ h' => h'.elim)));cases r with
 | none => exact wpAny_pure h₁
 | some v =>
  refine wpAny_bind (wpAny_mono h₁ (fun _ s₁' h₁' => ?_) fun _ _ h' => h'.elim);refine wpAny_bind (wpAny_mono h₁' (fun _ s₂ h₂ => wpAny_bind (wpAny_mono h₂ (fun ok s₃ h₃ => ?_) fun _ _ h' => h'.elim)) fun _ _ h' => h'.elim);cases ok with
  | false => exact wpAny_pure ⟨rfl, h₃⟩
  | true =>
   exact wpAny_bind (wpAny_bind (wpAny_mono h₃ (fun x s₄ h₄ => wpAny_bind (wpAny_mono h₄ (fun _ s₅ h₅ => wpAny_pure (wpAny_pure ⟨rfl, h₅⟩)) fun _ _ h' => h'.elim)) fun _ _ h' => h'.elim))
end
def PIf (X:Cx) (ifs:List Expr) (t:TT):Prop:=
 ∀ (pins:List (Addr × Obj)) (s:Shared) (σ:St) (H:Hp) (Q:Bool->Hp->Prop),Inv X pins σ H s->t σ H Q ->
  wpAny (model X.prog X.w) X.A (forIn ifs true fun c r=>if r=true then do let ok <- isTrue c X.env (eval c X.env);pure (ForInStep.yield ok) else pure (ForInStep.yield r)) (TP X pins σ Q) X.xe s
def aFy:TT:=fun _ H Q=>Q true H
theorem aD8 {X:Cx}:PIf X [] aFy:=fun _ _ _ H _ I h=>wpAny_tests_nil ⟨H,I,h⟩
theorem aD9 {X:Cx}{c:Expr}{t:TT}(h:PT X c t):PIf X [c] t:=fun pins s σ H Q I hw=>wpAny_tests_one (h pins s σ H Q I hw)
def xE (wi:TI) (mk:St->St) (g:TG) (tc:TT) (te:TE):TE:=fun σ H Q=>wi σ H fun J H1=>∀ D,H1 D=none->∃ W:Nat->Nat->St->Hp->Prop,(∃ m,W 0 m (mk σ) (upd H1 D (.lst []))) /\
 ∀ i m σ1 H2,W i m σ1 H2->(J.stop i H2/\Q (.ref D) H2)\/(J.go i H2/\∀ x H3,J.yld i H2 x H3->g x σ1 H3 fun σ2 H4=>tc σ2 H4 fun b H5=>
  if b=true then te σ2 H5 fun v H6=>∃ xs,H6 D=some (.lst xs)/\xs.length<sizeLine/\∃ m',m'<m/\W (i+1) m' σ2 (upd H6 D (.lst (xs++[v]))) else ∃ m',m'<m/\W (i+1) m' σ2 H5)
section
variable {X:Cx}{elt tg iter:Expr}{ifs:List Expr}{scope:Scope}{pos:Pos}{N':List Str}{src:List (Option Nat)}{wi:TI}{g:TG}{tc:TT}{te:TE}
theorem GU {pins:List (Addr × Obj)}{σ:St}{H2:Hp}{s2:Shared}{E:Value->Shared->Prop}{cl:List (Str × Addr)}{it:Addr}{fp:List Addr}{tn:Nat->Heap->Prop}{J:It}{Q:VK}{RR:Value->Addr->Result->Shared->Prop}
  (S:BlkOk X scope N' src) (hc:X.calm=true) (hcl:eK X.env.cells scope.names []=some cl)
  (hb:∀ cl C s H ex,PG (cxB X scope N' cl C s H ex) tg g/\PIf (cxB X scope N' cl C s H ex) ifs tc/\PE (cxB X scope N' cl C s H ex) elt te)
  (I2:Inv X pins σ H2 s2) (Tn:Turn X.prog X.w X.K tg J fp it tn) (st2:tn 0 s2.heap) (f2:∀ b∈fp,fH X pins H2 b)
  (hw:∀ D,H2 D=none->∃ W:Nat->Nat->St->Hp->Prop,(∃ m,W 0 m (cZ src σ) (upd H2 D (.lst []))) /\
   ∀ i m σ1 H2,W i m σ1 H2->(J.stop i H2/\Q (.ref D) H2)\/(J.go i H2/\∀ x H3,J.yld i H2 x H3->g x σ1 H3 fun σ2 H4=>tc σ2 H4 fun b H5=>
    if b=true then te σ2 H5 fun v H6=>∃ xs,H6 D=some (.lst xs)/\xs.length<sizeLine/\∃ m',m'<m/\W (i+1) m' σ2 (upd H6 D (.lst (xs++[v]))) else ∃ m',m'<m/\W (i+1) m' σ2 H5))
  (hR:∀ D C H' s' m,s2.heap.objs.size<=D->s2.heap.objs.size<=C->s'.heap.Ns C m->H' C=none->Inv X pins σ H' s'->Q (.ref D) H'->RR (.ref D) C (.ok .next) s'):
  wpAny (model X.prog X.w) X.A (newList []) (fun acc s₃=>wpAny (model X.prog X.w) X.A (newFunctionEnv scope X.env.globals cl [] X.env.qual none .none (some X.env)) (fun cenv s₄=>
   codeAny (model X.prog X.w) X.A (.compStart (.ListComp elt [⟨tg,iter,ifs,0⟩] scope pos) 0 (.ref it) acc { cenv with scope:=relabel scope X.env }) (RR acc cenv.locals) s₄) E s₃) E s2:=by
 refine wpAny_newObj_type (aA1 ?_);dsimp only;generalize hH2:s2.heap.push { cls:=.type "list",dict:=none,data:=.seq ([]:List Value).toArray }=Hq;have hC:Hq.objs.size=s2.heap.objs.size+1:=by rw[<- hH2,aJa]
 have hCl:s2.heap.objs.size<Hq.objs.size:=by rw[hC];exact aL0 _
 have hns₁:(pushCells (Hq.push { cls:=.type "dict",data:=.dict #[] }) scope.names).Ns Hq.objs.size (fun _=>none):=(Heap.Ns.new Hq (.type "dict")).keeps (pushCells_keeps _ _);have old:∀ b o,s2.heap.get? b=some o->(pushCells (Hq.push { cls:=.type "dict",data:=.dict #[] }) scope.names).get? b=some o:=fun b o e=>pushCells_keeps _ _ b o (aIz _ (hH2 ▸ aIz _ e));have hacc:(pushCells (Hq.push { cls:=.type "dict",data:=.dict #[] }) scope.names).get? s2.heap.objs.size=some { cls:=.type "list",data:=.seq ([]:List Value).toArray 0 }:=pushCells_keeps _ _ _ _ (aIz _ (hH2 ▸ aJ8 _ rfl));have hown:∀ x c,(cellsFrom (Hq.objs.size+1) scope.names cl).lookup x=some c->cl.lookup x=some c\/(Hq.objs.size<c/\(pushCells (Hq.push { cls:=.type "dict",data:=.dict #[] }) scope.names).IsCell c none):=fun x c e=>by
  have e':(cellsFrom (Hq.push { cls:=.type "dict",data:=.dict #[] }).objs.size scope.names cl).lookup x=some c:=by rw[aJa];exact e
  rcases DF e' with q | ⟨q1,q2⟩
  ·exact .inl q
  ·rw[aJa] at q1
   exact .inr ⟨q1,q2⟩
 generalize pushCells (Hq.push { cls:=.type "dict",data:=.dict #[] }) scope.names=h₁ at hns₁ old hacc hown ⊢;have ho:∀ b∈fp,∃ o,s2.heap.get? b=some o:=fun b hb=>let ⟨o,e,_⟩:=Tn.obj 0 _ st2 b hb;⟨o,e⟩;obtain⟨W,⟨m0,w0⟩,turn⟩:=hw s2.heap.objs.size (I2.hok.fresh (aKv _));obtain⟨bg,bi,be⟩:=hb (cellsFrom (Hq.objs.size+1) scope.names cl) Hq.objs.size s2 H2 fp;have loop:∀ s₃:Shared,s₃={ s2 with heap:=h₁ } ->
   codeAny (model X.prog X.w) X.A (.compLoop (.ListComp elt [⟨tg,iter,ifs,0⟩] scope pos) 0 (.ref it) (.ref s2.heap.objs.size) (compEnvC scope (cellsFrom (Hq.objs.size+1) scope.names cl) Hq.objs.size X.env)) (RR (.ref s2.heap.objs.size) Hq.objs.size) s₃:=by
  rintro s₃ rfl;have I0:Inv (cxB X scope N' (cellsFrom (Hq.objs.size+1) scope.names cl) Hq.objs.size s2 H2 fp) [] (cZ src σ) (upd H2 s2.heap.objs.size (.lst [])) { s2 with heap:=h₁ }:=YS (t4:=s2.toks) S I2 hcl f2 ho hCl old hacc hns₁ hown;have fpOk:∀ {H':Hp},(∀ b∈fp,H' b=none)->∀ b∈fp,fH (cxB X scope N' (cellsFrom (Hq.objs.size+1) scope.names cl) Hq.objs.size s2 H2 fp) [] H' b:=fun hn b hb=>
   ⟨hn b hb,(I0.ok.exf b hb).1,I0.ok.exfs b hb,.inl hb,(I0.ok.exf b hb).2,fun p hp=>absurd (show p∈([]:List (Addr × Obj)) from hp) (by simp)⟩
  have fpOkP:∀ {H':Hp} ,(∀ b∈fp,H' b=none)->∀ b∈fp,fH (cxB X scope N' (cellsFrom (Hq.objs.size+1) scope.names cl) Hq.objs.size s2 H2 fp) [] H' b:=fun hn=>fpOk hn;refine TN (fun n s'=>∃ i σ' H',Inv (cxB X scope N' (cellsFrom (Hq.objs.size+1) scope.names cl) Hq.objs.size s2 H2 fp) [] σ' H' s'/\tn i s'.heap/\(∀ b∈fp,H' b=none)/\W i n σ' H') ?_ m0
   ⟨0,cZ src σ,_,I0,Tn.keep _ _ _ st2 (fun b _ o e=>old b o e),fun b hb=>?_,w0⟩
  rotate_left
  ·obtain⟨o,e⟩:=ho b hb
   rw[bG (aL5 (aJ9 e))];exact (f2 b hb).1
  rintro n s3 ⟨i,σ3,H3,I3,st3,fr3,w3⟩;rcases turn i n σ3 H3 w3 with ⟨stop,qn⟩ | ⟨go,step⟩
  ·refine thn (Tn.done (cxB X scope N' (cellsFrom (Hq.objs.size+1) scope.names cl) Hq.objs.size s2 H2 fp) rfl rfl rfl hc i [] s3 σ3 H3 _ I3 (fpOk fr3) st3 stop) fun r s4 ⟨hr,I4⟩=>?_
   subst hr;obtain⟨m,hm,_⟩:=I4.loc;refine hR _ _ H3 s4 m (aKv _) (aKu hCl) hm I4.free ?_ qn;exact I2.call' (ch:=fp) I4.os I4.base I4.hok I4.bare fun b hb=>⟨(f2 b hb).2.2.2.1,(f2 b hb).2.1,(f2 b hb).2.2.2.2.1,(f2 b hb).2.2.2.2.2⟩
  ·refine thn (Tn.item (cxB X scope N' (cellsFrom (Hq.objs.size+1) scope.names cl) Hq.objs.size s2 H2 fp) rfl rfl rfl hc i [] s3 σ3 H3 _ I3 (fpOk fr3) st3 go) fun r s4 ⟨u,hr,h4⟩=>?_
   subst hr;refine thn h4 fun _ s5 ⟨x,H5,I5,r5,y5,st5,fr5⟩=>?_;have I5':=I5.pinned (fpOk fr5) (Tn.obj _ _ st5);refine thn (bg _ s5 σ3 H5 x u _ I5' r5 (step x H5 y5)) fun _ s6 ⟨σ6,H6,I6,q6⟩=>?_;refine thn (bi _ s6 σ6 H6 _ I6 q6) fun ok s7 ⟨H7,I7,q7⟩=>?_;have again:∀ {σ8:St} {H8:Hp} {s8:Shared} {m':Nat},Inv (cxB X scope N' (cellsFrom (Hq.objs.size+1) scope.names cl) Hq.objs.size s2 H2 fp) ([]++uY fp s5.heap) σ8 H8 s8->m'<n->W (i+1) m' σ8 H8 ->
     ∃ m,m<n/\∃ i σ' H',Inv (cxB X scope N' (cellsFrom (Hq.objs.size+1) scope.names cl) Hq.objs.size s2 H2 fp) [] σ' H' s8/\tn i s8.heap/\(∀ b∈fp,H' b=none)/\W i m σ' H':=fun {σ8 H8 s8 m'} I8 hm w8=>by
    refine⟨m',hm,i+1,σ8,H8,I8.unpinned,Tn.keep _ _ _ st5 fun b hb o e=>(I8.pin (b,o) (aKh _ (aKh _ (yJ hb e)))).1,fun b hb=>?_,w8⟩;obtain⟨o,e,d⟩:=Tn.obj _ _ st5 b hb;exact (I8.pin (b,o) (aKh _ (aKh _ (yJ hb e)))).2.1
   cases ok with
   | false=>
    rw[if_neg aJ5] at q7;rw[if_neg aJ5];obtain⟨m',hm,w8⟩:=q7;exact again I7 hm w8
   | true=>
    rw[if_pos rfl] at q7;rw[if_pos rfl];refine thn (be _ s7 σ6 H7 _ I7 q7) fun xv s8 ⟨v,H8,I8,r8,q8⟩=>?_;obtain⟨xs,hx,hz,m',hm,w9⟩:=q8;refine thn (KC _ s8 σ6 H8 (.ref s2.heap.objs.size) [v] (.ref s2.heap.objs.size) [xv] (fun _ H9=>H9=upd H8 s2.heap.objs.size (.lst (xs++[v]))) I8 rfl (.cons r8 .nil) ⟨_,xs,v,rfl,rfl,hx,hz,rfl⟩) fun _ s9 ⟨_,H9,I9,_,e9⟩=>?_;subst e9;exact again I9 hm w9
 have hself:=Tn.self X.A 0 { s2 with heap:=h₁ };exact codeAny_compStart_list (loop _ rfl) (hself _ _ (Tn.keep _ _ _ st2 (fun b _ o e=>old b o e)) (loop _ rfl))
theorem LA (S:BlkOk X scope N' src) (hc:X.calm=true) (hi:PI X tg iter wi)
  (hb:∀ cl C s H ex,PG (cxB X scope N' cl C s H ex) tg g/\PIf (cxB X scope N' cl C s H ex) ifs tc/\PE (cxB X scope N' cl C s H ex) elt te)
  (hs:∀ x,foldedSetIterable iter X.env x=pure x:=by intro _;rfl):PE X (.ListComp elt [⟨tg,iter,ifs,0⟩] scope pos) (xE wi (cZ src) g tc te):=by
 intro pins s σ H Q I h;obtain⟨cl,hcl⟩:∃ cl,eK X.env.cells scope.names []=some cl:=xM fun n hn=>I.ok.has n (S.frees _ hn rfl);rw[eval_ListComp];refine wpAny_comprehension_free (use:=none) rfl hs (HM hcl) S.kind S.names (thn (hi pins s σ H _ I h) fun v s1 h1=>thn h1 fun itv s2 h2=>?_);obtain⟨it,fp,tn,J,H2,e,I2,Tn,st2,f2,hw⟩:=h2;subst e;refine GU (RR:=fun acc C=>compPost (model X.prog X.w) X.A X.xe none (EP X pins σ Q) acc C) S hc hcl hb I2 Tn st2 f2 hw ?_;intro D C H' s' m hD hC hm hCn I' q;refine⟨m,hm,fun h' hsb=>?_⟩;refine⟨.ref D,H',?_,rfl,q⟩;refine I'.turned (t':=s'.toks) (it:=C) (fun b o hb e=>hsb.extBut b o hb e) hCn (aL4 (aIw I2.lt hC)) (.inr (aKw I2.sz hC)) (fun x c e z=>?_) fun p hp z=>?_
 ·obtain⟨v,q⟩:=I2.cell x c e
  exact absurd (aIw q.lt (by rw[z];exact hC)) (aKx _)
 ·exact absurd (aIw (aJ9 (I2.pin p hp).1) (by rw[z];exact hC)) (aKx _)
theorem aDh {i:Nat}{x:Str}{pos' spos:Pos}(hN:X.N.Nodup) (hiN:X.N[i]?=some x) (hx:Loc X.env.scope x) (S:BlkOk X scope N' src) (hc:X.calm=true) (hi:PI X tg iter wi)
  (hb:∀ cl C s H ex,PG (cxB X scope N' cl C s H ex) tg g/\PIf (cxB X scope N' cl C s H ex) ifs tc/\PE (cxB X scope N' cl C s H ex) elt te)
  (hsw:swapsWith (.ListComp elt [⟨tg,iter,ifs,0⟩] scope pos) (some (.Name x pos')) spos.line X.env=pure true:=by rfl)
  (hs:∀ x,foldedSetIterable iter X.env x=pure x:=by intro _;rfl) (hf:X.fn x=true\/X.env.scope.names.lookup x=some .local:=by first | exact .inl rfl | exact .inr rfl | assumption):
  PS X (.Assign [.Name x pos'] (.ListComp elt [⟨tg,iter,ifs,0⟩] scope pos) spos) (AK (xE wi (cZ src) g tc te) (kJ i)):=by
 intro pins s σ H D I h;obtain⟨cl,hcl⟩:∃ cl,eK X.env.cells scope.names []=some cl:=xM fun n hn=>I.ok.has n (S.frees _ hn rfl);rw[exec_Assign_Name_used _ _ _ _ hsw];refine wpAny_bind (wpAny_standAt (wpAny_bind ?_));show wpAny _ X.A (do let _ <- comprehension (.ListComp elt [⟨tg,iter,ifs,0⟩] scope pos) scope X.env _ (newList []) false (eval iter X.env) (some (assign (.Name x pos') X.env))) _ _ s;refine wpAny_bind (wpAny_mono (wpAny_comprehension_free (use:=some (assign (.Name x pos') X.env)) (Q:=fun _ s'=>SP X pins D .next s') rfl hs (HM hcl) S.kind S.names
  (thn (hi pins s σ H _ I h) fun v s1 h1=>thn h1 fun itv s2 h2=>?_)) (fun _ s' hq=>wpAny_pure (wpAny_pure hq)) fun _ _ e=>e)
 obtain⟨it,fp,tn,J,H2,e,I2,Tn,st2,f2,hw⟩:=h2;subst e;refine GU (Q:=fun v H'=>D.nx (σ.set i (some v)) H') (RR:=fun acc C=>compPost (model X.prog X.w) X.A X.xe (some (assign (.Name x pos') X.env)) (fun _ s'=>SP X pins D .next s') acc C) S hc hcl hb I2 Tn st2 f2 hw ?_;intro D' C H' s' m hD hC hm hCn I' q;show wpAny _ X.A (assign (.Name x pos') X.env (.ref D')) _ _ _;refine wpAny_assign_Name (NC I' hN hiN hx (v:=.ref D') rfl (fun s'' I'' hsb=>?_) hf);have cl':∀ x c,X.env.cells.lookup x=some c->c≠C:=fun x c e z=>by
  obtain⟨v,q⟩:=I2.cell x c e;exact absurd (aIw q.lt (by rw[z];exact hC)) (aKx _)
 have hLC:X.env.locals≠C:=aL5 (aIw I2.lt hC);obtain⟨a,sb,ha⟩:=hsb;have haC:C≠a:=by
  rcases ha with rfl | ha
  ·exact Ne.symm hLC
  ·exact Ne.symm (cl' x a ha)
 refine⟨m,hm.sameBut sb haC,fun h' hsb=>⟨_,H',?_,q⟩⟩;refine I''.turned (t':=s''.toks) (it:=C) (fun b o hb e=>hsb.extBut b o hb e) hCn (Ne.symm hLC) (.inr (aKw I2.sz hC)) cl' fun p hp z=>?_;exact absurd (aIw (aJ9 (I2.pin p hp).1) (by rw[z];exact hC)) (aKx _)
end
end L2
namespace G
open PySem PySem.Spec PyProof.Rows L2
mutual
def eqT:T->T->Bool
 | .non,.non=>true
 | .bl a,.bl b=>a == b
 | .int a,.int b=>a == b
 | .str a,.str b=>a == b
 | .bl a,.int b=>(if a then 1 else 0) == b
 | .int a,.bl b=>a == (if b then 1 else 0)
 | .lst xs,.lst ys=>eqL xs ys
 | .tup xs,.tup ys=>eqL xs ys
 | .exc _,.exc _=>true
 | .dct _,.dct _=>true
 | .own _,.own _=>true
 | _,_=>false
def eqL:List T->List T->Bool
 | [],[]=>true
 | x::xs,y::ys=>eqT x y&&eqL xs ys
 | _,_=>false
end
mutual
def dep:T->Nat
 | .lst xs=>depL xs+1
 | .tup xs=>depL xs+1
 | .exc _=>61
 | .dct _=>61
 | .own _=>61
 | _=>0
def depL:List T->Nat
 | []=>0
 | x::xs=>max (dep x) (depL xs)
end
mutual
theorem BP:∀ t:T,eqT t t=true
 | .non=>by simp[eqT]
 | .bl _=>by simp[eqT]
 | .int _=>by simp[eqT]
 | .str _=>by simp[eqT]
 | .lst xs=>by simp[eqT,eqL_refl xs]
 | .tup xs=>by simp[eqT,eqL_refl xs]
 | .exc _=>by simp[eqT]
 | .dct _=>by simp[eqT]
 | .own _=>by simp[eqT]
theorem eqL_refl:∀ xs:List T,eqL xs xs=true
 | []=>by simp[eqL]
 | x::xs=>by simp[eqL,BP x,eqL_refl xs]
end
theorem BJ:∀ {xs:List T}{t:T}{i:Nat},xs[i]?=some t->dep t<=depL xs
 | [],_,_,e=>by simp at e
 | x::xs,t,0,e=>by simp at e;subst e;simp[depL];lia
 | x::xs,t,i+1,e=>by
  have:=BJ (xs:=xs) (i:=i) (t:=t) (by simpa using e);simp[depL];lia
theorem BN:∀ (xs ys:List T),xs.length=ys.length->eqL xs ys=(List.range xs.length).all fun j=>match xs[j]?,ys[j]? with | some a,some b=>eqT a b | _,_=>false
 | [],[],_=>by simp[eqL]
 | x::xs,y::ys,h=>by
  have ih:=BN xs ys (by simpa using h);rw[eqL,ih,aK3,List.range_succ_eq_map,aJm,List.all_map];simp[Function.comp_def]
 | [],_::_,h=>by simp at h
 | _::_,[],h=>by simp at h
theorem BM:∀ (xs ys:List T),xs.length≠ys.length->eqL xs ys=false
 | [],[],h=>by simp at h
 | x::xs,y::ys,h=>by rw[eqL,BM xs ys (by simpa using h),Bool.and_false]
 | [],_::_,_=>by simp[eqL]
 | _::_,[],_=>by simp[eqL]
section
variable {X:Cx}{pins:List (Addr × Obj)}{σ:St}{H:Hp}{s:Shared}
mutual
theorem zC (I:Inv X pins σ H s) {A A':Addr->Prop}:∀ (t u:T) {v:V},dep t<=60->dep u<=60->Rep X.K H A t v->Rep X.K H A' u v->eqT t u=true
 | .non,.non,_,hd,hd2,_,_=>by simp[eqT]
 | .bl _,.bl _,_,hd,hd2,h,q=>by cases (show _=_ from h);cases (show _=_ from q);simp[eqT]
 | .int _,.int _,_,hd,hd2,h,q=>by cases (show _=_ from h);cases (show _=_ from q);simp[eqT]
 | .str _,.str _,_,hd,hd2,h,q=>by cases (show _=_ from h);cases (show _=_ from q);simp[eqT]
 | .lst xs,.lst ys,_,hd,hd2,h,q=>by
  obtain⟨a,us,e,h1,h2⟩:=h.sqL;obtain⟨b,ws,e',q1,q2⟩:=q.sqL;subst e;cases e';have:=I.list_inj h1 q1;subst this;rw[eqT];exact repL_same I xs ys (by simp[dep] at hd;lia) (by simp[dep] at hd2;lia) h2 q2
 | .tup xs,.tup ys,_,hd,hd2,h,q=>by
  obtain⟨a,us,e,h1,h2⟩:=h.sqT;obtain⟨b,ws,e',q1,q2⟩:=q.sqT;subst e;cases e';have:=I.tuple_inj h1 q1;subst this;rw[eqT];exact repL_same I xs ys (by simp[dep] at hd;lia) (by simp[dep] at hd2;lia) h2 q2
 | .lst xs,.tup ys,_,hd,hd2,h,q=>by
  obtain⟨a,us,e,h1,h2⟩:=h.sqL;obtain⟨b,ws,e',q1,q2⟩:=q.sqT;subst e;cases e'
  exfalso
  obtain⟨_,_,p1,_⟩:=I.list h1;obtain⟨_,_,p2,_⟩:=I.tuple q1;exact SeqAt.ne_of_list_tuple p1.isList p2 rfl
 | .tup xs,.lst ys,_,hd,hd2,h,q=>by
  obtain⟨a,us,e,h1,h2⟩:=h.sqT;obtain⟨b,ws,e',q1,q2⟩:=q.sqL;subst e;cases e'
  exfalso
  obtain⟨_,_,p1,_⟩:=I.tuple h1;obtain⟨_,_,p2,_⟩:=I.list q1;exact SeqAt.ne_of_list_tuple p2.isList p1 rfl
 | .non,.bl _,_,hd,hd2,h,q=>by cases (show _=_ from h);cases (show _=_ from q)
 | .non,.int _,_,hd,hd2,h,q=>by cases (show _=_ from h);cases (show _=_ from q)
 | .non,.str _,_,hd,hd2,h,q=>by cases (show _=_ from h);cases (show _=_ from q)
 | .non,.lst _,_,hd,hd2,h,q=>by cases (show _=_ from h);obtain⟨_,_,e,_⟩:=q;cases e
 | .non,.tup _,_,hd,hd2,h,q=>by cases (show _=_ from h);obtain⟨_,_,e,_⟩:=q;cases e
 | .bl _,.non,_,hd,hd2,h,q=>by cases (show _=_ from h);cases (show _=_ from q)
 | .bl _,.int _,_,hd,hd2,h,q=>by cases (show _=_ from h);cases (show _=_ from q)
 | .bl _,.str _,_,hd,hd2,h,q=>by cases (show _=_ from h);cases (show _=_ from q)
 | .bl _,.lst _,_,hd,hd2,h,q=>by cases (show _=_ from h);obtain⟨_,_,e,_⟩:=q;cases e
 | .bl _,.tup _,_,hd,hd2,h,q=>by cases (show _=_ from h);obtain⟨_,_,e,_⟩:=q;cases e
 | .int _,.non,_,hd,hd2,h,q=>by cases (show _=_ from h);cases (show _=_ from q)
 | .int _,.bl _,_,hd,hd2,h,q=>by cases (show _=_ from h);cases (show _=_ from q)
 | .int _,.str _,_,hd,hd2,h,q=>by cases (show _=_ from h);cases (show _=_ from q)
 | .int _,.lst _,_,hd,hd2,h,q=>by cases (show _=_ from h);obtain⟨_,_,e,_⟩:=q;cases e
 | .int _,.tup _,_,hd,hd2,h,q=>by cases (show _=_ from h);obtain⟨_,_,e,_⟩:=q;cases e
 | .str _,.non,_,hd,hd2,h,q=>by cases (show _=_ from h);cases (show _=_ from q)
 | .str _,.bl _,_,hd,hd2,h,q=>by cases (show _=_ from h);cases (show _=_ from q)
 | .str _,.int _,_,hd,hd2,h,q=>by cases (show _=_ from h);cases (show _=_ from q)
 | .str _,.lst _,_,hd,hd2,h,q=>by cases (show _=_ from h);obtain⟨_,_,e,_⟩:=q;cases e
 | .str _,.tup _,_,hd,hd2,h,q=>by cases (show _=_ from h);obtain⟨_,_,e,_⟩:=q;cases e
 | .lst _,.non,_,hd,hd2,h,q=>by cases (show _=_ from q);obtain⟨_,_,e,_⟩:=h;cases e
 | .lst _,.bl _,_,hd,hd2,h,q=>by cases (show _=_ from q);obtain⟨_,_,e,_⟩:=h;cases e
 | .lst _,.int _,_,hd,hd2,h,q=>by cases (show _=_ from q);obtain⟨_,_,e,_⟩:=h;cases e
 | .lst _,.str _,_,hd,hd2,h,q=>by cases (show _=_ from q);obtain⟨_,_,e,_⟩:=h;cases e
 | .tup _,.non,_,hd,hd2,h,q=>by cases (show _=_ from q);obtain⟨_,_,e,_⟩:=h;cases e
 | .tup _,.bl _,_,hd,hd2,h,q=>by cases (show _=_ from q);obtain⟨_,_,e,_⟩:=h;cases e
 | .tup _,.int _,_,hd,hd2,h,q=>by cases (show _=_ from q);obtain⟨_,_,e,_⟩:=h;cases e
 | .tup _,.str _,_,hd,hd2,h,q=>by cases (show _=_ from q);obtain⟨_,_,e,_⟩:=h;cases e
 | .non,.exc _,_,_,hd2,_,_=>by simp[dep] at hd2
 | .non,.dct _,_,_,hd2,_,_=>by simp[dep] at hd2
 | .non,.own _,_,_,hd2,_,_=>by simp[dep] at hd2
 | .bl _,.exc _,_,_,hd2,_,_=>by simp[dep] at hd2
 | .bl _,.dct _,_,_,hd2,_,_=>by simp[dep] at hd2
 | .bl _,.own _,_,_,hd2,_,_=>by simp[dep] at hd2
 | .int _,.exc _,_,_,hd2,_,_=>by simp[dep] at hd2
 | .int _,.dct _,_,_,hd2,_,_=>by simp[dep] at hd2
 | .int _,.own _,_,_,hd2,_,_=>by simp[dep] at hd2
 | .str _,.exc _,_,_,hd2,_,_=>by simp[dep] at hd2
 | .str _,.dct _,_,_,hd2,_,_=>by simp[dep] at hd2
 | .str _,.own _,_,_,hd2,_,_=>by simp[dep] at hd2
 | .lst _,.exc _,_,_,hd2,_,_=>by simp[dep] at hd2
 | .lst _,.dct _,_,_,hd2,_,_=>by simp[dep] at hd2
 | .lst _,.own _,_,_,hd2,_,_=>by simp[dep] at hd2
 | .tup _,.exc _,_,_,hd2,_,_=>by simp[dep] at hd2
 | .tup _,.dct _,_,_,hd2,_,_=>by simp[dep] at hd2
 | .tup _,.own _,_,_,hd2,_,_=>by simp[dep] at hd2
 | .exc _,_,_,hd,_,_,_=>by simp[dep] at hd
 | .dct _,_,_,hd,_,_,_=>by simp[dep] at hd
 | .own _,_,_,hd,_,_,_=>by simp[dep] at hd
theorem repL_same (I:Inv X pins σ H s) {A A':Addr->Prop}:∀ (ts us:List T) {xs:List V},depL ts<=60->depL us<=60->RepL X.K H A ts xs->RepL X.K H A' us xs->eqL ts us=true
 | [],[],_,_,_,_,_=>by simp[eqL]
 | t::ts,u::us,_,hd,hd2,h,q=>by
  simp only[depL] at hd hd2;obtain⟨x,r,e,h1,h2⟩:=h;obtain⟨y,r',e',q1,q2⟩:=q;subst e;cases e';rw[eqL,zC I t u (by lia) (by lia) h1 q1,repL_same I ts us (by lia) (by lia) h2 q2]
  rfl
 | [],_::_,_,_,_,h,q=>by
  cases (show _=_ from h);obtain⟨_,_,e,_⟩:=q;cases e
 | _::_,[],_,_,_,h,q=>by
  cases (show _=_ from q);obtain⟨_,_,e,_⟩:=h;cases e
end
open SeqAt in
theorem IA (I:Inv X pins σ H s) {A A':Addr->Prop}:∀ (n:Nat) (Ar:Around) (t u:T) (v w:V) (x y:Value),n<=60->dep t<=n->dep u<=60->Ar.units+n<cLine->Rep X.K H A t v->Rep X.K H A' u w->bK v x->bK w y->EqAt Ar s x y (eqT t u)/\RcAt Ar s x y (eqT t u)/\RcNeAt Ar s x y (!eqT t u):=by
 intro n
 induction n with
 | zero=>
  intro Ar t u v w x y hn hd hdu hu h q r r';have hu':Ar.units<cLine:=by lia
  cases t with
  | lst _=>simp[dep] at hd
  | tup _=>simp[dep] at hd
  | exc _=>simp[dep] at hd
  | dct _=>simp[dep] at hd
  | own _=>simp[dep] at hd
  | non=>
   cases (show _=_ from h);cases (show _=_ from r);cases u with
   | exc _=>simp[dep] at hdu
   | dct _=>simp[dep] at hdu
   | own _=>simp[dep] at hdu
   | non=>cases (show _=_ from q);cases (show _=_ from r');exact⟨EqAt.same _,RcAt.none_none,RcNeAt.none_none⟩
   | bl b=>cases (show _=_ from q);cases (show _=_ from r');exact⟨EqAt.none_bool _,RcAt.none_bool _,RcNeAt.none_bool _⟩
   | int b=>cases (show _=_ from q);obtain⟨k,rfl⟩:=r';exact⟨EqAt.none_int _ _,RcAt.none_int _ _,RcNeAt.none_int _ _⟩
   | str b=>cases (show _=_ from q);obtain⟨k,rfl⟩:=r';exact⟨EqAt.none_str _ _,RcAt.none_str _ _,RcNeAt.none_str _ _⟩
   | lst b=>
    obtain⟨a,us,rfl,q1,q2⟩:=q.sqL;cases r';obtain⟨_,_,p1,_⟩:=I.list q1;exact⟨EqAt.none_list p1.isList hu',RcAt.none_list p1.isList hu',RcNeAt.none_list p1.isList hu'⟩
   | tup b=>
    obtain⟨a,us,rfl,q1,q2⟩:=q.sqT;cases r';obtain⟨_,_,p1,_⟩:=I.tuple q1;exact⟨EqAt.none_tuple p1 hu',RcAt.none_tuple p1 hu',RcNeAt.none_tuple p1 hu'⟩
  | bl c=>
   cases (show _=_ from h);cases (show _=_ from r);cases u with
   | exc _=>simp[dep] at hdu
   | dct _=>simp[dep] at hdu
   | own _=>simp[dep] at hdu
   | non=>cases (show _=_ from q);cases (show _=_ from r');exact⟨EqAt.bool_none _,RcAt.bool_none _,RcNeAt.bool_none _⟩
   | bl b=>cases (show _=_ from q);cases (show _=_ from r');exact⟨EqAt.bool_bool _ _,RcAt.bool_bool _ _,RcNeAt.bool_bool _ _⟩
   | int b=>cases (show _=_ from q);obtain⟨k,rfl⟩:=r';exact⟨EqAt.bool_int _ _ _,RcAt.bool_int _ _ _,RcNeAt.bool_int _ _ _⟩
   | str b=>cases (show _=_ from q);obtain⟨k,rfl⟩:=r';exact⟨EqAt.bool_str _ _ _,RcAt.bool_str _ _ _,RcNeAt.bool_str _ _ _⟩
   | lst b=>
    obtain⟨a,us,rfl,q1,q2⟩:=q.sqL;cases r';obtain⟨_,_,p1,_⟩:=I.list q1;exact⟨EqAt.bool_list _ p1.isList hu',RcAt.bool_list _ p1.isList hu',RcNeAt.bool_list _ p1.isList hu'⟩
   | tup b=>
    obtain⟨a,us,rfl,q1,q2⟩:=q.sqT;cases r';obtain⟨_,_,p1,_⟩:=I.tuple q1;exact⟨EqAt.bool_tuple _ p1 hu',RcAt.bool_tuple _ p1 hu',RcNeAt.bool_tuple _ p1 hu'⟩
  | int c=>
   cases (show _=_ from h);obtain⟨k',rfl⟩:=r;cases u with
   | exc _=>simp[dep] at hdu
   | dct _=>simp[dep] at hdu
   | own _=>simp[dep] at hdu
   | non=>cases (show _=_ from q);cases (show _=_ from r');exact⟨EqAt.int_none _ _,RcAt.int_none _ _,RcNeAt.int_none _ _⟩
   | bl b=>cases (show _=_ from q);cases (show _=_ from r');exact⟨EqAt.int_bool _ _ _,RcAt.int_bool _ _ _,RcNeAt.int_bool _ _ _⟩
   | int b=>cases (show _=_ from q);obtain⟨k,rfl⟩:=r';exact⟨EqAt.int_int _ _ _ _,RcAt.int_int _ _ _ _,RcNeAt.int_int _ _ _ _⟩
   | str b=>cases (show _=_ from q);obtain⟨k,rfl⟩:=r';exact⟨EqAt.int_str _ _ _ _,RcAt.int_str _ _ _ _,RcNeAt.int_str _ _ _ _⟩
   | lst b=>
    obtain⟨a,us,rfl,q1,q2⟩:=q.sqL;cases r';obtain⟨_,_,p1,_⟩:=I.list q1;exact⟨EqAt.int_list _ _ p1.isList hu',RcAt.int_list _ _ p1.isList hu',RcNeAt.int_list _ _ p1.isList hu'⟩
   | tup b=>
    obtain⟨a,us,rfl,q1,q2⟩:=q.sqT;cases r';obtain⟨_,_,p1,_⟩:=I.tuple q1;exact⟨EqAt.int_tuple _ _ p1 hu',RcAt.int_tuple _ _ p1 hu',RcNeAt.int_tuple _ _ p1 hu'⟩
  | str c=>
   cases (show _=_ from h);obtain⟨k',rfl⟩:=r;cases u with
   | exc _=>simp[dep] at hdu
   | dct _=>simp[dep] at hdu
   | own _=>simp[dep] at hdu
   | non=>cases (show _=_ from q);cases (show _=_ from r');exact⟨EqAt.str_none _ _,RcAt.str_none _ _,RcNeAt.str_none _ _⟩
   | bl b=>cases (show _=_ from q);cases (show _=_ from r');exact⟨EqAt.str_bool _ _ _,RcAt.str_bool _ _ _,RcNeAt.str_bool _ _ _⟩
   | int b=>cases (show _=_ from q);obtain⟨k,rfl⟩:=r';exact⟨EqAt.str_int _ _ _ _,RcAt.str_int _ _ _ _,RcNeAt.str_int _ _ _ _⟩
   | str b=>cases (show _=_ from q);obtain⟨k,rfl⟩:=r';exact⟨EqAt.str_str _ _ _ _,RcAt.str_str _ _ _ _,RcNeAt.str_str _ _ _ _⟩
   | lst b=>
    obtain⟨a,us,rfl,q1,q2⟩:=q.sqL;cases r';obtain⟨_,_,p1,_⟩:=I.list q1;exact⟨EqAt.str_list _ _ p1.isList hu',RcAt.str_list _ _ p1.isList hu',RcNeAt.str_list _ _ p1.isList hu'⟩
   | tup b=>
    obtain⟨a,us,rfl,q1,q2⟩:=q.sqT;cases r';obtain⟨_,_,p1,_⟩:=I.tuple q1;exact⟨EqAt.str_tuple _ _ p1 hu',RcAt.str_tuple _ _ p1 hu',RcNeAt.str_tuple _ _ p1 hu'⟩
 | succ n ih=>
  intro Ar t u v w x y hn hd hdu hu h q r r';have hu':Ar.units<cLine:=by lia
  have sc:G.scal t=true->EqAt Ar s x y (eqT t u)/\RcAt Ar s x y (eqT t u)/\RcNeAt Ar s x y (!eqT t u):=fun sc=>
   ih Ar t u v w x y (by lia) (by cases t<;>first | (simp[dep];done) | (simp[G.scal] at sc)) hdu (by lia) h q r r'
  have parts:∀ {ts us:List T} {xs ys:List V} {its its2:List Value},depL ts<=n->depL us<=60->RepL X.K H A ts xs->RepL X.K H A' us ys->aU xs its->aU ys its2 ->
    ∀ j (h1:j<its.toArray.size) (h2:j<its2.toArray.size),EqAt Ar.in1 s its.toArray[j] its2.toArray[j] (match ts[j]?,us[j]? with | some a,some b=>eqT a b | _,_=>false):=by
   intro ts us xs ys its its2 hdn hdm hr hq hv hv' j h1 h2;have l1:=hr.length;have l2:=hq.length;have l3:=hv.length;have l4:=hv'.length;simp only[aIx] at h1 h2;have e1:ts[j]?=some ts[j]:=aIq (by lia);have e2:us[j]?=some us[j]:=aIq (by lia);obtain⟨a,g1,ra⟩:=hr.get e1;obtain⟨b,g2,rb⟩:=hq.get e2;obtain⟨c,g3,rc⟩:=hv.get g1;obtain⟨d,g4,rd⟩:=hv'.get g2;have i1:its.toArray[j]=c:=by
    have:=(aIt.mp g3).2
    simpa using this
   have i2:its2.toArray[j]=d:=by
    have:=(aIt.mp g4).2
    simpa using this
   rw[i1,i2,e1,e2];exact (ih Ar.in1 _ _ a b c d (by lia) (aKw (BJ e1) hdn) (aKw (BJ e2) hdm) (by show Ar.units+1+n<cLine;lia) ra rb rc rd).1
  cases t with
  | non=>exact sc rfl
  | bl _=>exact sc rfl
  | int _=>exact sc rfl
  | str _=>exact sc rfl
  | exc _=>exfalso;simp[dep] at hd;lia
  | dct _=>exfalso;simp[dep] at hd;lia
  | own _=>exfalso;simp[dep] at hd;lia
  | lst ts=>
   have hd':depL ts<=n:=by simp[dep] at hd;lia
   obtain⟨a,xs,rfl,h1,h2⟩:=h.sqL;cases r;obtain⟨its,hv,p1,_⟩:=I.list h1;have l1:=h2.length;have l3:=hv.length;cases u with
   | exc _=>simp[dep] at hdu
   | dct _=>simp[dep] at hdu
   | own _=>simp[dep] at hdu
   | non=>cases (show _=_ from q);cases (show _=_ from r');exact⟨EqAt.list_none p1.isList hu',RcAt.list_none p1.isList hu',RcNeAt.list_none p1.isList hu'⟩
   | bl b=>cases (show _=_ from q);cases (show _=_ from r');exact⟨EqAt.list_bool _ p1.isList hu',RcAt.list_bool _ p1.isList hu',RcNeAt.list_bool _ p1.isList hu'⟩
   | int b=>cases (show _=_ from q);obtain⟨k,rfl⟩:=r';exact⟨EqAt.list_int _ _ p1.isList hu',RcAt.list_int _ _ p1.isList hu',RcNeAt.list_int _ _ p1.isList hu'⟩
   | str b=>cases (show _=_ from q);obtain⟨k,rfl⟩:=r';exact⟨EqAt.list_str _ _ p1.isList hu',RcAt.list_str _ _ p1.isList hu',RcNeAt.list_str _ _ p1.isList hu'⟩
   | lst us=>
    obtain⟨b,ys,rfl,q1,q2⟩:=q.sqL;cases r';obtain⟨its2,hv',p2,_⟩:=I.list q1;have l2:=q2.length;have l4:=hv'.length;have rc:RcAt Ar s (.ref a) (.ref b) (eqT (.lst ts) (.lst us))/\RcNeAt Ar s (.ref a) (.ref b) (!eqT (.lst ts) (.lst us)):=by
     rw[eqT]
     by_cases hl:ts.length=us.length
     ·have hz:its.toArray.size=its2.toArray.size:=by simp only[aIx];lia
      have e1:=RcAt.lists p1.isList p2.isList hz hu' (parts hd' (by simp[dep] at hdu;lia) h2 q2 hv hv');have e2:=RcNeAt.lists p1.isList p2.isList hz hu' (parts hd' (by simp[dep] at hdu;lia) h2 q2 hv hv');have el:its.toArray.size=ts.length:=by simp only[aIx];lia
      rw[el,<- BN ts us hl] at e1 e2;exact⟨e1,e2⟩
     ·have hz:(its.toArray.size != its2.toArray.size)=true:=by simp only[aIx];simp;lia
      rw[BM ts us hl];exact⟨RcAt.lists_lengths p1.isList p2.isList hz hu',RcNeAt.lists_lengths p1.isList p2.isList hz hu'⟩
    refine⟨?_,rc⟩
    by_cases hab:a=b
    ·subst hab
     rw[zC I (.lst ts) (.lst us) (by lia) hdu h q];exact EqAt.same _
    ·exact EqAt.of_refs hab rc.1
   | tup us=>
    obtain⟨b,ys,rfl,q1,q2⟩:=q.sqT;cases r';obtain⟨its2,hv',p2,_⟩:=I.tuple q1;exact⟨EqAt.list_tuple p1.isList p2 hu',RcAt.list_tuple p1.isList p2 hu',RcNeAt.list_tuple p1.isList p2 hu'⟩
  | tup ts=>
   have hd':depL ts<=n:=by simp[dep] at hd;lia
   obtain⟨a,xs,rfl,h1,h2⟩:=h.sqT;cases r;obtain⟨its,hv,p1,_⟩:=I.tuple h1;have l1:=h2.length;have l3:=hv.length;cases u with
   | exc _=>simp[dep] at hdu
   | dct _=>simp[dep] at hdu
   | own _=>simp[dep] at hdu
   | non=>cases (show _=_ from q);cases (show _=_ from r');exact⟨EqAt.tuple_none p1 hu',RcAt.tuple_none p1 hu',RcNeAt.tuple_none p1 hu'⟩
   | bl b=>cases (show _=_ from q);cases (show _=_ from r');exact⟨EqAt.tuple_bool _ p1 hu',RcAt.tuple_bool _ p1 hu',RcNeAt.tuple_bool _ p1 hu'⟩
   | int b=>cases (show _=_ from q);obtain⟨k,rfl⟩:=r';exact⟨EqAt.tuple_int _ _ p1 hu',RcAt.tuple_int _ _ p1 hu',RcNeAt.tuple_int _ _ p1 hu'⟩
   | str b=>cases (show _=_ from q);obtain⟨k,rfl⟩:=r';exact⟨EqAt.tuple_str _ _ p1 hu',RcAt.tuple_str _ _ p1 hu',RcNeAt.tuple_str _ _ p1 hu'⟩
   | lst us=>
    obtain⟨b,ys,rfl,q1,q2⟩:=q.sqL;cases r';obtain⟨its2,hv',p2,_⟩:=I.list q1;exact⟨EqAt.tuple_list p1 p2.isList hu',RcAt.tuple_list p1 p2.isList hu',RcNeAt.tuple_list p1 p2.isList hu'⟩
   | tup us=>
    obtain⟨b,ys,rfl,q1,q2⟩:=q.sqT;cases r';obtain⟨its2,hv',p2,_⟩:=I.tuple q1;have l2:=q2.length;have l4:=hv'.length;have el:its.toArray.size=ts.length:=by simp only[aIx];lia
    have el2:its2.toArray.size=us.length:=by simp only[aIx];lia
    have same:((List.range (min its.toArray.size its2.toArray.size)).all (fun j=>match ts[j]?,us[j]? with | some a,some b=>eqT a b | _,_=>false)&&its.toArray.size == its2.toArray.size)=eqL ts us:=by
     by_cases hl:ts.length=us.length
     ·rw[el,el2,<- hl,Nat.min_self,<- BN ts us hl,beq_self_eq_true,Bool.and_true]
     ·rw[BM ts us hl,el,el2,beq_false_of_ne hl,Bool.and_false]
    have e1:=RcAt.tuples p1 p2 hu' (parts hd' (by simp[dep] at hdu;lia) h2 q2 hv hv');have e2:=RcNeAt.tuples p1 p2 hu' (parts hd' (by simp[dep] at hdu;lia) h2 q2 hv hv');rw[same] at e1 e2;have rc:RcAt Ar s (.ref a) (.ref b) (eqT (.tup ts) (.tup us))/\RcNeAt Ar s (.ref a) (.ref b) (!eqT (.tup ts) (.tup us)):=by
     rw[eqT];exact⟨e1,e2⟩
    refine⟨?_,rc⟩
    by_cases hab:a=b
    ·subst hab
     rw[zC I (.tup ts) (.tup us) (by lia) hdu h q];exact EqAt.same _
    ·exact EqAt.of_refs hab rc.1
end
def GOp (K:PySem.W.Frag) (r:R2) (F:T->T->Option T):Prop:=∀ x y t,F x y=some t->scal t=true/\∀ (H:Hp) (A A':Addr->Prop) (vx vy:V),Rep K H A x vx->Rep K H A' y vy->∀ Q:VK,Q (tv t) H->r vx vy H Q
theorem SOp.gop {K:PySem.W.Frag}{r:R2}{F:T->T->Option T}(h:SOp r F):GOp K r F:=fun x y t e=>by
 obtain⟨sx,sy,st,k⟩:=h x y t e;refine⟨st,fun H A A' vx vy rx ry Q q=>?_⟩;rw[LZ sx] at rx;rw[LZ sy] at ry;subst rx ry;exact k H Q q
def isB:T->Option Bool
 | .bl b=>some b
 | _=>none
def fB (f:Rho->Option T):Rho->Option Bool:=fun ρ=>(f ρ).bind isB
theorem JN {t:T}{b:Bool}(h:isB t=some b):t=.bl b:=by
 cases t<;>first | (cases h;done) | skip
 cases (aIo h);rfl
section
variable {X:Cx}{B:Hp}{fl:List Nat}{a b c e:Expr}{es:List Expr}{f g:Rho->Option T}{fa:Rho->Option (List T)}{p q:Rho->Option Bool}{n n':Bool}{l l':Nat}{pos:Pos}{op:CmpOp}{r:R2}{F:T->T->Option T}
theorem WZ (ho:OpR X (compareOp op) r) (hF:GOp X.K r F) (ha:GE X B fl a f n l) (hb:GE X B fl b g n' l') (hm:behindInMarks op b=false):GE X B fl (.Compare a [op] [b] pos) (f2 f g F) true 3:=by
 refine bQ (KZ ho ha hb hm) ?_;rintro σ H Q ⟨Ex,ρ,M,t,S,hf,q⟩;obtain⟨x,hx,hf⟩:=bind_some hf;obtain⟨y,hy,hf⟩:=bind_some hf;obtain⟨st,k⟩:=hF x y t hf;refine⟨Ex,ρ,M,x,S,hx,fun vx H1 s1 rx=>⟨Ex,ρ,M,y,S.grow s1,hy,fun vy H2 s2 ry=>?_⟩⟩;exact k H2 _ _ vx vy ((rx.rep S).grow s2) (ry.rep (S.grow s1)) Q (q _ H2 (s1.trans s2) ((aX.scal st).mpr rfl))
theorem rY (ho:OpR X (compareOp op) r) (hF:GOp X.K r F) (ha:GE X B fl a f n l) (hb:GE X B fl b g n' l') (hm:behindInMarks op b=false):GT X B fl (.Compare a [op] [b] pos) (fB (f2 f g F)):=by
 refine DM (aDj ho ha hb hm) ?_;rintro σ H Q ⟨Ex,ρ,M,c,S,hf,q⟩;obtain⟨t,hf,hc⟩:=bind_some hf;cases JN hc;obtain⟨x,hx,hf⟩:=bind_some hf;obtain⟨y,hy,hf⟩:=bind_some hf;obtain⟨st,k⟩:=hF x y _ hf;refine⟨Ex,ρ,M,x,S,hx,fun vx H1 s1 rx=>⟨Ex,ρ,M,y,S.grow s1,hy,fun vy H2 s2 ry=>?_⟩⟩;exact k H2 _ _ vx vy ((rx.rep S).grow s2) (ry.rep (S.grow s1)) _ ⟨c,rfl,q H2 (s1.trans s2)⟩
def oEq:T->T->Option T:=fun x y=>if max (dep x) (dep y)<=60 then some (.bl (eqT x y)) else none
def oNe:T->T->Option T:=fun x y=>if max (dep x) (dep y)<=60 then some (.bl (!eqT x y)) else none
def yZ (K:PySem.W.Frag) (neg:Bool):R2:=fun x y H Q=>∃ t u A A',max (dep t) (dep u)<=60/\Rep K H A t x/\Rep K H A' u y/\Q (.bl (if neg then !eqT t u else eqT t u)) H
theorem KP (hu:X.A.units+64<cLine):OpR X (compareOp .Eq) (yZ X.K false):=by
 intro pins s σ H x y v u Q I rx ry h;obtain⟨t,u',A,A',hd,r1,r2,q⟩:=h;exact (IA I 60 X.A t u' x y v u (aKv _) (by lia) (by lia) (by lia) r1 r2 rx ry).2.1 _ _ _ _ ⟨.bl _,H,I,rfl,q⟩
theorem aCd (hu:X.A.units+64<cLine):OpR X (compareOp .NotEq) (yZ X.K true):=by
 intro pins s σ H x y v u Q I rx ry h;obtain⟨t,u',A,A',hd,r1,r2,q⟩:=h;exact (IA I 60 X.A t u' x y v u (aKv _) (by lia) (by lia) (by lia) r1 r2 rx ry).2.2 _ _ _ _ ⟨.bl _,H,I,rfl,q⟩
theorem IT {K:PySem.W.Frag}:GOp K (yZ K false) oEq:=by
 intro x y t h;unfold oEq at h;split at h
 ·rename_i hd
  cases h;exact⟨rfl,fun H A A' vx vy rx ry Q q=>⟨x,y,A,A',hd,rx,ry,q⟩⟩
 ·cases h
theorem XS {K:PySem.W.Frag}:GOp K (yZ K true) oNe:=by
 intro x y t h;unfold oNe at h;split at h
 ·rename_i hd
  cases h;exact⟨rfl,fun H A A' vx vy rx ry Q q=>⟨x,y,A,A',hd,rx,ry,q⟩⟩
 ·cases h
theorem fK (hu:X.A.units+64<cLine) (ha:GE X B fl a f n l) (hb:GE X B fl b g n' l'):GE X B fl (.Compare a [.Eq] [b] pos) (f2 f g oEq) true 3:=WZ (KP hu) IT ha hb (nX _)
theorem bX (hu:X.A.units+64<cLine) (ha:GE X B fl a f n l) (hb:GE X B fl b g n' l'):GT X B fl (.Compare a [.Eq] [b] pos) (fB (f2 f g oEq)):=rY (KP hu) IT ha hb (nX _)
theorem uH (hu:X.A.units+64<cLine) (ha:GE X B fl a f n l) (hb:GE X B fl b g n' l'):GT X B fl (.Compare a [.NotEq] [b] pos) (fB (f2 f g oNe)):=rY (aCd hu) XS ha hb (nX _)
theorem uG (ha:GE X B fl a f n l) (hb:GE X B fl b g n' l'):GT X B fl (.Compare a [.Lt] [b] pos) (fB (f2 f g oLt)):=rY KQ (SOp.gop (mI (fun _ _=>rfl) fun _ _=>rfl)) ha hb (nX _)
theorem rZ (ha:GE X B fl a f n l) (hb:GE X B fl b g n' l'):GT X B fl (.Compare a [.Gt] [b] pos) (fB (f2 f g oGt)):=rY aC9 (SOp.gop (mI (fun _ _=>rfl) fun _ _=>rfl)) ha hb (nX _)
def yH:T->Bool
 | .non=>true
 | _=>false
theorem aE5 {K:PySem.W.Frag}{H:Hp}{A:Addr->Prop}{t:T}{v:V}(h:Rep K H A t v):decide (v=.non)=yH t:=by
 cases t with
 | non=>cases (show _=_ from h);rfl
 | bl _=>cases (show _=_ from h);rfl
 | int _=>cases (show _=_ from h);rfl
 | str _=>cases (show _=_ from h);rfl
 | lst _=>obtain⟨a,xs,rfl,_⟩:=h;rfl
 | tup _=>obtain⟨a,xs,rfl,_⟩:=h;rfl
 | exc _=>obtain⟨a,C,rfl,_⟩:=h;rfl
 | dct _=>obtain⟨a,rfl,_⟩:=h;rfl
 | own _=>obtain⟨a,xs,rfl,_⟩:=h;rfl
def oIs:T->T->Option T:=fun x y=>if yH y then some (.bl (yH x)) else none
theorem YY {y:T}(h:yH y=true):y=.non:=by cases y<;>first | rfl | cases h
theorem XR {K:PySem.W.Frag}:GOp K (fun x y H Q=>y=.non/\Q (.bl (decide (x=.non))) H) oIs:=by
 intro x y t h;unfold oIs at h;split at h
 ·rename_i hy
  cases h;cases YY hy;exact⟨rfl,fun H A A' vx vy rx ry Q q=>⟨ry,by rw[aE5 rx];exact q⟩⟩
 ·cases h
theorem IY (ha:GE X B fl a f n l) (hb:GE X B fl b g n' l'):GT X B fl (.Compare a [.Is] [b] pos) (fB (f2 f g oIs)):=rY aCb XR ha hb (nX _)
def mJ:T->Option Bool
 | .non=>some false
 | .bl b=>some b
 | .int i=>some (i != 0)
 | .lst ts=>some (!ts.isEmpty)
 | .tup ts=>some (!ts.isEmpty)
 | .str _=>none
 | .exc _=>none
 | .dct _=>none
 | .own _=>none
theorem aE6 {K:PySem.W.Frag}{H:Hp}{A:Addr->Prop}{t:T}{v:V}{k:Bool}(h:Rep K H A t v) (e:mJ t=some k):AX K v H k:=by
 cases t with
 | non=>cases (show _=_ from h);exact (aIo e).symm
 | bl _=>cases (show _=_ from h);exact (aIo e).symm
 | int _=>cases (show _=_ from h);exact (aIo e).symm
 | str _=>cases e
 | exc _=>cases e
 | dct _=>cases e
 | own _=>cases e
 | lst ts=>
  obtain⟨a,xs,rfl,h1,h2⟩:=h.sqL;have hl:=h2.length;refine .inl ⟨xs,h1,(aIo e).symm.trans ?_⟩;cases ts<;>cases xs<;>simp at hl ⊢
 | tup ts=>
  obtain⟨a,xs,rfl,h1,h2⟩:=h.sqT;have hl:=h2.length;refine .inr (.inl ⟨xs,h1,(aIo e).symm.trans ?_⟩);cases ts<;>cases xs<;>simp at hl ⊢
def fT (f:Rho->Option T):Rho->Option Bool:=fun ρ=>(f ρ).bind mJ
theorem eE (h:GE X B fl e f n l) (he:∀ whole,isTrue e X.env whole=(do let v <- whole;standAt e.pos;holding [v] (truthy v)):=by intro _;rfl):GT X B fl e (fT f):=by
 refine DM (aDl h he) ?_;rintro σ H Q ⟨Ex,ρ,M,c,S,hf,q⟩;obtain⟨t,hf,hc⟩:=bind_some hf;exact⟨Ex,ρ,M,t,S,hf,fun v H1 s1 r1=>⟨c,aE6 (r1.rep S) hc,q H1 s1⟩⟩
def eG (p:Rho->Option Bool):Rho->Option Bool:=fun ρ=>(p ρ).map (!·)
def eO (p q:Rho->Option Bool):Rho->Option Bool:=fun ρ=>(p ρ).bind fun b=>if b then q ρ else some false
def pOr (p q:Rho->Option Bool):Rho->Option Bool:=fun ρ=>(p ρ).bind fun b=>if b then some true else q ρ
theorem gZ (h:GT X B fl a p):GT X B fl (.UnaryOp .Not a pos) (eG p):=by
 refine DM (aDk h) ?_;rintro σ H Q ⟨Ex,ρ,M,c,S,hf,q⟩;unfold eG at hf;cases e:p ρ with
 | none=>rw[e] at hf;cases hf
 | some d=>
  rw[e] at hf;cases (aIo hf);exact⟨Ex,ρ,M,d,S,e,fun H1 s1=>q H1 s1⟩
theorem sB (h:GT X B fl a p):GW X B fl (.BoolOp .And [a] pos) p:=aDn h
theorem kP (h:GT X B fl a p):GW X B fl (.BoolOp .Or [a] pos) p:=aDp h
theorem kN (h:GT X B fl a p) (k:GW X B fl (.BoolOp .And (b::es) pos) q):GW X B fl (.BoolOp .And (a::b::es) pos) (eO p q):=by
 refine LL (aDm h k) ?_;rintro σ H Q ⟨Ex,ρ,M,c,S,hf,q⟩;obtain⟨d,e,hf⟩:=bind_some hf;refine⟨Ex,ρ,M,d,S,e,fun H1 s1=>?_⟩;cases d with
 | true=>exact hU ⟨Ex,ρ,M,c,S.grow s1,hf,fun H2 s2=>q H2 (s1.trans s2)⟩
 | false=>
  cases (aIo hf);exact hG (q H1 s1)
theorem kO (h:GT X B fl a p) (k:GW X B fl (.BoolOp .Or (b::es) pos) q):GW X B fl (.BoolOp .Or (a::b::es) pos) (pOr p q):=by
 refine LL (aDo h k) ?_;rintro σ H Q ⟨Ex,ρ,M,c,S,hf,q⟩;obtain⟨d,e,hf⟩:=bind_some hf;refine⟨Ex,ρ,M,d,S,e,fun H1 s1=>?_⟩;cases d with
 | false=>exact hG ⟨Ex,ρ,M,c,S.grow s1,hf,fun H2 s2=>q H2 (s1.trans s2)⟩
 | true=>
  cases (aIo hf);exact hU (q H1 s1)
theorem GW.gt (h:GW X B fl e p):GT X B fl e p:=h.pt
def xH (f g:Rho->Option T):Rho->Option T:=fun ρ=>((f ρ).bind isB).bind fun b=>if b then g ρ else some (.bl false)
theorem CG {op:BoolOp}(h:GE X B fl a f n l):GE X B fl (.BoolOp op [a] pos) f n l:=aCx h
theorem CC (h:GE X B fl a f n l) (k:GE X B fl (.BoolOp .And (b::es) pos) g n' l'):GE X B fl (.BoolOp .And (a::b::es) pos) (xH f g) false l':=by
 refine bQ (aCp h k) ?_;rintro σ H Q ⟨Ex,ρ,M,t,S,hf,q⟩;obtain⟨d,e,hf⟩:=bind_some hf;obtain⟨u,hu,hd⟩:=bind_some e;cases JN hd;refine⟨Ex,ρ,M,_,S,hu,fun v H1 s1 r1=>⟨d,(aX.scal rfl).mp r1,?_⟩⟩;cases d with
 | true=>exact hU ⟨Ex,ρ,M,t,S.grow s1,hf,fun v H2 s2 r2=>q v H2 (s1.trans s2) (by have z:=(r2.rep (S.grow s1)).weak fun b x=>Ad.since s1 x;cases t<;>exact z)⟩
 | false=>
  cases (aIo hf);exact hG (q _ H1 s1 ((aX.scal rfl).mpr rfl))
def fIf (p:Rho->Option Bool) (f g:Rho->Option T):Rho->Option T:=fun ρ=>(p ρ).bind fun b=>if b then f ρ else g ρ
def dJ:T->Option T
 | .int i=>some (.int (-i))
 | _=>none
theorem gY (h:GE X B fl a f n l):GE X B fl (.UnaryOp .USub a pos) (f1 f dJ) true 3:=by
 refine bQ (aCy aGe h) ?_;rintro σ H Q ⟨Ex,ρ,M,t,S,hf,q⟩;obtain⟨x,hx,hg⟩:=bind_some hf;cases x<;>first | (cases hg;done) | skip
 cases (aIo hg);exact⟨Ex,ρ,M,_,S,hx,fun v H1 s1 r1=>⟨_,(aX.scal rfl).mp r1,q _ H1 s1 ((aX.scal rfl).mpr rfl)⟩⟩
theorem aG:GA X B fl [] aF 3:=yU jR fun σ H Q ⟨Ex,ρ,M,ts,S,hf,q⟩=>q _ H (aZ.refl H) (by cases (aIo hf);rfl)
theorem aD (ha:GE X B fl e f n l) (hr:GA X B fl es fa l') (hs:starEach (e::es) X.env=(false,eval e X.env)::starEach es X.env:=by rfl):GA X B fl (e::es) (aC f fa) (min l l'):=by
 refine yU (eP ha hr hs) ?_;rintro σ H Q ⟨Ex,ρ,M,ts,S,hf,q⟩;obtain⟨x,hx,hf⟩:=bind_some hf;obtain⟨xs,hxs,hf⟩:=bind_some hf;cases (aIo hf);refine⟨Ex,ρ,M,x,S,hx,fun v H1 s1 r1=>⟨Ex,ρ,M,xs,S.grow s1,hxs,fun vs H2 s2 r2=>q _ H2 (s1.trans s2) ⟨v,vs,rfl,?_,?_⟩⟩⟩
 ·exact ((r1.rep S).grow s2).weak fun b x=>x.le (Nat.min_le_left _ _)
 ·exact r2.weak fun b x=>(x.since s1).le (Nat.min_le_right _ _)
def cap:Nat:=1000000
theorem gU {n:Nat}(h:n<=cap):n<sizeLine:=by rw[sizeLine_eq];unfold cap at h;lia
def cO (fa:Rho->Option (List T)):Rho->Option T:=fun ρ=>(fa ρ).bind fun ts=>if ts.length<=cap then some (.lst ts) else none
def bP (fa:Rho->Option (List T)):Rho->Option T:=fun ρ=>(fa ρ).bind fun ts=>if ts.length<=cap then some (.tup ts) else none
theorem eB (ha:GA X B fl es fa l):GE X B fl (.List es pos) (cO fa) true l:=by
 refine bQ (aCv ha) ?_;rintro σ H Q ⟨Ex,ρ,M,t,S,hf,q⟩;obtain⟨ts,hts,hf⟩:=bind_some hf;split at hf
 ·rename_i hl
  cases (aIo hf);refine⟨Ex,ρ,M,ts,S,hts,fun vs H1 s1 r1=>⟨by rw[<- r1.length];exact aKu (gU hl),fun p hp=>q _ _ (s1.trans (eY hp _)) (aX.laid s1 hp r1)⟩⟩
 ·cases hf
theorem dQ {k:Nat}(ha:GA X B fl es fa l):GE X B fl (.Tuple es k pos) (bP fa) true l:=by
 refine bQ (LB ha) ?_;rintro σ H Q ⟨Ex,ρ,M,t,S,hf,q⟩;obtain⟨ts,hts,hf⟩:=bind_some hf;split at hf
 ·rename_i hl
  cases (aIo hf);refine⟨Ex,ρ,M,ts,S,hts,fun vs H1 s1 r1=>⟨by rw[<- r1.length];exact aKu (gU hl),fun p hp=>q _ _ (s1.trans (eY hp _)) ?_⟩⟩;have hp0:=s1.free hp;exact⟨p,vs,rfl,.inl (.inl eJ),r1.grow (eY hp _)⟩
 ·cases hf
def oIx:T->T->Option T
 | .lst ts,.int i=>atI ts i
 | .tup ts,.int i=>atI ts i
 | _,_=>none
theorem RepL.at {K:PySem.W.Frag}{H:Hp}{A:Addr->Prop}{ts:List T}{xs:List V}{i:Int}{t:T}(h:RepL K H A ts xs) (e:atI ts i=some t):∃ x,atI xs i=some x/\Rep K H A t x:=by
 unfold atI at e ⊢;rw[<- h.length];cases q:ixN ts.length i with
 | none=>rw[q] at e;cases e
 | some j=>rw[q] at e;exact h.get e
theorem aM (ha:GE X B fl a f n l) (hb:GE X B fl b g n' l') (hs:FU b:=by exact fun _ _=>rfl):GE X B fl (.Subscript a b pos) (f2 f g oIx) false l:=by
 refine bQ (aCu ZC ha hb hs) ?_;rintro σ H Q ⟨Ex,ρ,M,t,S,hf,q⟩;obtain⟨x,hx,hf⟩:=bind_some hf;obtain⟨y,hy,hf⟩:=bind_some hf;refine⟨Ex,ρ,M,x,S,hx,fun vx H1 s1 rx=>⟨Ex,ρ,M,y,S.grow s1,hy,fun vy H2 s2 ry=>?_⟩⟩;have rx':=(rx.rep S).grow s2;have ry':=ry.rep (S.grow s1);cases y<;>first | (cases x<;>cases hf;done) | skip
 rename_i i;cases (show _=_ from ry');cases x with
 | lst ts=>
  obtain⟨p,xs,rfl,h1,h2⟩:=rx'.sqL;obtain⟨z,hz,rz⟩:=h2.at hf;exact .inl ⟨p,xs,i,z,rfl,rfl,h1,hz,q _ _ (s1.trans s2) (by cases t<;>exact rz)⟩
 | tup ts=>
  obtain⟨p,xs,rfl,h1,h2⟩:=rx'.sqT;obtain⟨z,hz,rz⟩:=h2.at hf;exact .inr (.inl ⟨p,xs,i,z,rfl,rfl,h1,hz,q _ _ (s1.trans s2) (by cases t<;>exact rz)⟩)
 | non=>cases hf
 | bl _=>cases hf
 | int _=>cases hf
 | str _=>cases hf
 | exc _=>cases hf
 | dct _=>cases hf
 | own _=>cases hf
def bS:List T->Option T
 | [.lst ts]=>some (.int ts.length)
 | [.tup ts]=>some (.int ts.length)
 | _=>none
def aI (fa:Rho->Option (List T)) (F:List T->Option T):Rho->Option T:=fun ρ=>(fa ρ).bind F
theorem eH {K:PySem.W.Frag}{H:Hp}{A:Addr->Prop}{t:T}{xs:List V}(h:RepL K H A [t] xs):∃ x,xs=[x]/\Rep K H A t x:=by
 obtain⟨x,r,e,h1,h2⟩:=h;cases (show _=[] from h2);exact⟨x,e,h1⟩
theorem cJ {x:Str}{p':Pos}(hx:x = "len") (hg:Gl X x) (hm:X.mg x=none) (ha:GA X B fl (e::es) fa l)
  (he:starEach (e::es) X.env=(false,eval e X.env)::starEach es X.env:=by rfl) (hpl:(backTo pos (starEach es X.env)).any (·.1)=false:=by rfl):GE X B fl (.Call (.Name x p') (e::es) [] pos) (aI fa bS) true 3:=by
 subst hx;refine bQ (pB SI hg hm PySem.boot_len ha (by decide) (by decide) he hpl) ?_;rintro σ H Q ⟨Ex,ρ,M,t,S,hf,q⟩;obtain⟨ts,hts,hf⟩:=bind_some hf;refine⟨Ex,ρ,M,ts,S,hts,fun vs H1 s1 r1=>?_⟩
 match ts,hf with
 | [.lst us],hf=>
  cases (aIo hf);obtain⟨y,rfl,ry⟩:=eH r1;obtain⟨p,xs,rfl,h1,h2⟩:=ry.sqL;exact⟨p,xs,rfl,.inl h1,by rw[<- h2.length];exact q _ H1 s1 ((aX.scal rfl).mpr rfl)⟩
 | [.tup us],hf=>
  cases (aIo hf);obtain⟨y,rfl,ry⟩:=eH r1;obtain⟨p,xs,rfl,h1,h2⟩:=ry.sqT;exact⟨p,xs,rfl,.inr h1,by rw[<- h2.length];exact q _ H1 s1 ((aX.scal rfl).mpr rfl)⟩
def fE:List T->Option T
 | [.lst ts]=>some (.lst ts)
 | [.tup ts]=>some (.lst ts)
 | _=>none
theorem uC {x:Str}{p':Pos}(hx:x = "list") (hg:Gl X x) (hm:X.mg x=none) (ha:GA X B fl (e::es) fa l)
  (he:starEach (e::es) X.env=(false,eval e X.env)::starEach es X.env:=by rfl) (hpl:(backTo pos (starEach es X.env)).any (·.1)=false:=by rfl):GE X B fl (.Call (.Name x p') (e::es) [] pos) (aI fa fE) true l:=by
 subst hx;refine bQ (KY SJ hg hm PyProof.Rows.boot_list ha (by decide) (by decide) he hpl) ?_;rintro σ H Q ⟨Ex,ρ,M,t,S,hf,q⟩;obtain⟨ts,hts,hf⟩:=bind_some hf;refine⟨Ex,ρ,M,ts,S,hts,fun vs H1 s1 r1=>?_⟩
 match ts,hf with
 | [.lst us],hf=>
  cases (aIo hf);obtain⟨y,rfl,ry⟩:=eH r1;obtain⟨p,xs,rfl,h1,h2⟩:=ry.sqL;exact⟨p,xs,rfl,.inl h1,fun l hl=>q _ _ (s1.trans (eY hl _)) (aX.laid s1 hl h2)⟩
 | [.tup us],hf=>
  cases (aIo hf);obtain⟨y,rfl,ry⟩:=eH r1;obtain⟨p,xs,rfl,h1,h2⟩:=ry.sqT;exact⟨p,xs,rfl,.inr h1,fun l hl=>q _ _ (s1.trans (eY hl _)) (aX.laid s1 hl h2)⟩
end
section
variable {X:Cx}{B:Hp}{fl:List Nat}{a b c e tg iter elt:Expr}{es ifs:List Expr}{f g:Rho->Option T}{fa:Rho->Option (List T)}{p q:Rho->Option Bool}{n n':Bool}{l l':Nat}{pos:Pos}
def aDr (K:PySem.W.Frag):R2:=fun x y H Q=>∃ l b xs zs,x=.ref l/\y=.ref b/\SqL K H l xs/\SqL K H b zs/\xs.length+zs.length<=sizeLine/\∀ p,H p=none->Q (.ref p) (upd H p (.lst (xs++zs)))
theorem aC8:OpR X (binaryOp .Add) (aDr X.K):=by
 intro pins s σ H x y v u Q I rx ry h;obtain⟨l,b,xs,zs,rfl,rfl,hH,hB,hz,q⟩:=h;cases rx;cases ry;obtain⟨its,r,p1,z⟩:=I.list hH;obtain⟨its2,r2,p2,z2⟩:=I.list hB;have hl:=r.length;have hl2:=r2.length;obtain⟨⟨cls,dd,data,sl⟩,n,e,hc,hd,hq⟩:=p1;obtain⟨⟨cls2,dd2,data2,sl2⟩,n2,e2,hc2,hd2,hq2⟩:=p2;simp only at hc hd hq hc2 hd2 hq2;subst hc hd hq hc2 hd2 hq2;have ea:its.toArray++its2.toArray=(its++its2).toArray:=by simp
 refine concat_meets ⟨_,e,rfl⟩ ⟨_,e2,rfl⟩ noFill_list_add seq_list_add PySem.F.slot_list_add PySem.F.entry_list_add (PySem.F.args_list_add_2 _ _) (list_addW l b its.toArray its2.toArray n n2 none none sl sl2 (by simp only[aIx];omega)) ⟨e,e2,?_⟩;rw[ea];exact⟨.ref _,_,I.lnew (t':=s.toks) (r.append r2) (by rw[aK2];omega),rfl,q _ I.fresh⟩
def gF:T->T->Option T
 | .lst xs,.lst ys=>if xs.length+ys.length<=cap then some (.lst (xs++ys)) else none
 | _,_=>none
theorem CD (ha:GE X B fl a f n l) (hb:GE X B fl b g n' l'):GE X B fl (.BinOp a .Add b pos) (f2 f g gF) true (min l l'):=by
 refine bQ (DG aC8 ha hb) ?_;rintro σ H Q ⟨Ex,ρ,M,t,S,hf,q⟩;obtain⟨x,hx,hf⟩:=bind_some hf;obtain⟨y,hy,hf⟩:=bind_some hf;refine⟨Ex,ρ,M,x,S,hx,fun vx H1 s1 rx=>⟨Ex,ρ,M,y,S.grow s1,hy,fun vy H2 s2 ry=>?_⟩⟩;have rx':=(rx.rep S).grow s2;have ry':=ry.rep (S.grow s1);cases x<;>first | (cases hf;done) | skip
 cases y<;>first | (cases hf;done) | skip
 rename_i xs ys;unfold gF at hf;dsimp only at hf;split at hf
 ·rename_i hl
  cases (aIo hf);obtain⟨p1,us,rfl,h1,h2⟩:=rx'.sqL;obtain⟨p2,ws,rfl,k1,k2⟩:=ry'.sqL;refine⟨p1,p2,us,ws,rfl,rfl,h1,k1,?_,fun p hp=>q _ _ ((s1.trans s2).trans (eY hp _)) (aX.laid (s1.trans s2) hp (RepL.app (h2.weak fun b x=>x.le (Nat.min_le_left _ _)) (k2.weak fun b x=>(x.since s1).le (Nat.min_le_right _ _))))⟩;rw[<- h2.length,<- k2.length];exact aKu (gU hl)
 ·cases hf
def aDx:R2:=fun x y H Q=>∃ l k v,x=.ref l/\y=.int k/\H l=some (.lst [v]) /\ -(2^63)<=k/\k<2^63/\k.toNat<=sizeLine/\∀ p,H p=none->Q (.ref p) (upd H p (.lst (List.replicate k.toNat v)))
theorem LY {α:Type}(v:α):∀ k:Nat,(List.replicate k [v]).flatten=List.replicate k v
 | 0=>rfl
 | k+1=>by rw[aKp,List.flatten_cons,LY v k,aKp];rfl
theorem aCg:OpR X (binaryOp .Mult) aDx:=by
 intro pins s σ H x y v u Q I rx ry h;obtain⟨l,k,w,rfl,rfl,hH,h1,h2,hz,q⟩:=h;exact aCf pins s σ H _ _ _ _ Q I rx ry ⟨l,k,[w],rfl,rfl,hH,h1,h2,by simpa using hz,fun p hp=>by rw[LY];exact q p hp⟩
def sG:T->T->Option T
 | .lst [t],.int k=>if 0<=k/\k<=cap then some (.lst (List.replicate k.toNat t)) else none
 | _,_=>none
theorem LW {K:PySem.W.Frag}{H:Hp}{A:Addr->Prop}{t:T}{v:V}(h:Rep K H A t v):∀ k:Nat,RepL K H A (List.replicate k t) (List.replicate k v)
 | 0=>rfl
 | k+1=>⟨v,_,rfl,h,LW h k⟩
theorem IP (ha:GE X B fl a f true l) (hb:GE X B fl b g n' l'):GE X B fl (.BinOp a .Mult b pos) (f2 f g sG) true l:=by
 refine bQ (DG aCg ha hb) ?_;rintro σ H Q ⟨Ex,ρ,M,t,S,hf,q⟩;obtain⟨x,hx,hf⟩:=bind_some hf;obtain⟨y,hy,hf⟩:=bind_some hf;refine⟨Ex,ρ,M,x,S,hx,fun vx H1 s1 rx=>⟨Ex,ρ,M,y,S.grow s1,hy,fun vy H2 s2 ry=>?_⟩⟩
 match x,y,hf with
 | .lst [z],.int k,hf=>
  unfold sG at hf;dsimp only at hf;split at hf
  ·rename_i hk
   cases (aIo hf);obtain⟨p1,us,rfl,h0,h1,h2⟩:=rx;obtain⟨w,rfl,rw'⟩:=eH h2;cases (show vy=V.int k from (aX.scal rfl).mp ry);have hc:k.toNat<=cap:=by omega
   refine⟨p1,k,w,rfl,rfl,s2 _ _ h1,by omega,by have:=hk.2;unfold cap at this;omega,aKu (gU hc),fun p hp=>q _ _ ((s1.trans s2).trans (eY hp _)) (aX.laid (s1.trans s2) hp (LW ((rw'.grow s2).weak fun b x=>x.1) _))⟩
  ·cases hf
def eI {α:Type} (xs:List α) (lo hi st:Option Int):List α:=
 (sliceRange (sliceBounds lo hi st xs.length).1 (sliceBounds lo hi st xs.length).2.1 (sliceBounds lo hi st xs.length).2.2).filterMap (xs[·]?)
theorem LV {K:PySem.W.Frag}{H:Hp}{A:Addr->Prop}{ts:List T}{xs:List V}(h:RepL K H A ts xs):∀ is:List Nat,RepL K H A (is.filterMap (ts[·]?)) (is.filterMap (xs[·]?))
 | []=>rfl
 | i::is=>by
  have ih:=LV h is;have hl:=h.length;cases e:ts[i]? with
  | none=>
   have e':xs[i]?=none:=by
    rw[List.getElem?_eq_none_iff] at e ⊢;omega
   rw[aJp,aJp,e,e'];exact ih
  | some t=>
   obtain⟨x,ex,rx⟩:=h.get e;rw[aJp,aJp,e,ex];exact⟨x,_,rfl,rx,ih⟩
theorem aE3 {K:PySem.W.Frag}{H:Hp}{A:Addr->Prop}{ts:List T}{xs:List V}(h:RepL K H A ts xs) (lo hi st:Option Int):RepL K H A (eI ts lo hi st) (eI xs lo hi st):=by
 unfold eI;rw[h.length];exact LV h _
theorem NU {xs:List V}{us:List Value}(h:aU xs us):∀ is:List Nat,aU (is.filterMap (xs[·]?)) (is.filterMap (us[·]?))
 | []=>.nil
 | i::is=>by
  have ih:=NU h is;cases e:xs[i]? with
  | none=>
   rw[aJp,aJp,e,h.none_of e];exact ih
  | some t=>
   obtain⟨x,ex,rx⟩:=h.get e;rw[aJp,aJp,e,ex];exact .cons rx ih
def GO (X:Cx) (B:Hp) (fl:List Nat) (e:Option Expr) (f:Rho->Option (Option Int)):Prop:=
 PO X e (fun σ H Q=>∃ Ex ρ M o,Sl X.K B fl Ex σ ρ M H/\f ρ=some o/\∀ H',aZ H H'->Q o H')
def yP:Rho->Option (Option Int):=fun _=>some none
def isI:T->Option Int
 | .int i=>some i
 | _=>none
def yQ (f:Rho->Option T):Rho->Option (Option Int):=fun ρ=>((f ρ).bind isI).map some
theorem IR:GO X B fl none yP:=fun pins s σ H Q I ⟨_,_,_,o,_,hf,q⟩=>aDa pins s σ H Q I (by cases (aIo hf);exact q H (aZ.refl H))
theorem XO (h:GE X B fl e f n l):GO X B fl (some e) (yQ f):=by
 intro pins s σ H Q I hq;obtain⟨Ex,ρ,M,o,S,hf,q⟩:=hq;refine aDb h pins s σ H Q I ?_;unfold yQ at hf;cases e1:(f ρ).bind isI with
 | none=>rw[e1] at hf;cases hf
 | some i=>
  rw[e1] at hf;cases (aIo hf);obtain⟨t,ht,hi⟩:=bind_some e1;cases t<;>first | (cases hi;done) | skip
  cases (aIo hi);exact⟨Ex,ρ,M,_,S,ht,fun v H1 s1 r1=>⟨i,(aX.scal rfl).mp r1,q H1 s1⟩⟩
def BS (f:Rho->Option T) (lo hi st:Rho->Option (Option Int)):Rho->Option T:=fun ρ=>(f ρ).bind fun x=>(lo ρ).bind fun a=>(hi ρ).bind fun b=>(st ρ).bind fun c=>
 match x with
 | .lst ts=>if c=some 0 then none else some (.lst (eI ts a b c))
 | _=>none
theorem XE {lo hi st:Option Expr}{fl' fh fs:Rho->Option (Option Int)}{p2:Pos}(he:GE X B fl e f n l) (hl:GO X B fl lo fl') (hh:GO X B fl hi fh) (hst:GO X B fl st fs)
  (hsub:∀ (v sl:Value),∃ ops,subscripted (.Slice lo hi st p2) false v sl=operate ops (getItem v sl):=by intro _ _;first | exact⟨_,rfl⟩ | (refine⟨_,?_⟩;with_unfolding_all rfl)):
  GE X B fl (.Subscript e (.Slice lo hi st p2) pos) (BS f fl' fh fs) true l:=by
 intro pins s σ H Q I hq;obtain⟨Ex,ρ,M,t,S,hf,q⟩:=hq;obtain⟨x,hx,hf⟩:=bind_some hf;obtain⟨a,ha,hf⟩:=bind_some hf;obtain⟨b,hb,hf⟩:=bind_some hf;obtain⟨c,hc,hf⟩:=bind_some hf;have hx2:∃ ts,x=.lst ts:=by
  cases x<;>first | (cases hf;done) | exact⟨_,rfl⟩
 obtain⟨ts,rfl⟩:=hx2;dsimp only at hf;split at hf
 ·cases hf
 ·rename_i hc0
  cases (aIo hf);refine Subscript_ (thn (he pins s σ H (fun v H1=>aZ H H1/\aX X.K B H M H1 n l (.lst ts) v) I ⟨Ex,ρ,M,_,S,hx,fun v H1 s1 r1=>⟨s1,r1⟩⟩) fun v s1 ⟨x,H1,I1,r1,s01,rx⟩=>?_);refine wpAny_Slice (thn (hl pins s1 σ H1 (fun o H2=>o=a/\aZ H1 H2) I1 ⟨Ex,ρ,M,a,S.grow s01,ha,fun H2 s2=>⟨rfl,s2⟩⟩) fun vl s2 ⟨o,H2,I2,pl,e2,s12⟩=>?_);subst e2;refine thn (hh pins s2 σ H2 (fun o H3=>o=b/\aZ H2 H3) I2 ⟨Ex,ρ,M,b,S.grow (s01.trans s12),hb,fun H3 s3=>⟨rfl,s3⟩⟩) fun vu s3 ⟨o2,H3,I3,pu,e3,s23⟩=>?_;subst e3;refine thn (hst pins s3 σ H3 (fun o H4=>o=c/\aZ H3 H4) I3 ⟨Ex,ρ,M,c,S.grow ((s01.trans s12).trans s23),hc,fun H4 s4=>⟨rfl,s4⟩⟩) fun vs s4 ⟨o3,H4,I4,pst,e4,s34⟩=>?_;subst e4;have I5:Inv X pins σ H4 { s4 with heap:=s4.heap.push { cls:=.type "slice",data:=.fields #[vl,vu,vs] } }:=I4.kept (t':=s4.toks) fun b ob q=>aIz _ q;have rx':=(rx.rep S).grow ((s12.trans s23).trans s34);obtain⟨p1,us,rfl,h1,h2⟩:=rx'.sqL;cases r1;obtain⟨its,rv,pl',hz⟩:=I5.list h1;have hlen:=rv.length;show wpAny (model X.prog X.w) X.A (subscriptTail e (.Slice lo hi st p2) (.ref p1) (.ref s4.heap.objs.size)) (EP X pins σ Q) X.xe { s4 with heap:=s4.heap.push { cls:=.type "slice",data:=.fields #[vl,vu,vs] } };obtain⟨ops,hops⟩:=hsub (.ref p1) (.ref s4.heap.objs.size);refine tail_any (ops:=ops) (pl'.isList.typeIs) slot_list_getitem.lookup ?_ hops;refine wpAny_getItem_list_slice pl'.isList (Heap.IsSliceOf.new ..) pl pu pst hc0 ?_ (by rw[aIx];omega);have e0:slicePick its.toArray o o2 o3=(eI its o o2 o3).toArray:=by
   unfold slicePick eI;simp
  rw[e0];have e1:eI its o o2 o3=(sliceRange (sliceBounds o o2 o3 us.length).1 (sliceBounds o o2 o3 us.length).2.1 (sliceBounds o o2 o3 us.length).2.2).filterMap (its[·]?):=by
   unfold eI;rw[hlen]
  have hv:aU (eI us o o2 o3) (eI its o o2 o3):=by
   rw[e1];exact NU rv _
  have hzz:(eI us o o2 o3).length<=sizeLine:=by
   rw[hv.length];have:=slicePick_size_le its.toArray o o2 o3;rw[e0] at this;simp only[aIx] at this;omega
  have hnew:H4 (s4.heap.push { cls:=.type "slice",data:=.fields #[vl,vu,vs] }).objs.size=none:=I5.hok.fresh (aKv _);refine⟨.ref _,_,I5.lnew (t':=s4.toks) hv hzz,rfl,q _ _ (((s01.trans s12).trans (s23.trans s34)).trans (eY hnew _)) ?_⟩;exact aX.laid ((s01.trans s12).trans (s23.trans s34)) hnew (aE3 h2 _ _ _)
def Am (sc:Bool) (A:Addr->Prop) (H:Hp):Addr->Prop:=fun a=>sc=false/\(A a\/H a=none)
def tO (K:PySem.W.Frag) (J:It) (ps:List (T × V)) (ts:List T) (sc:Bool):Prop:=
 ∀ (H:Hp) (A:Addr->Prop),(∀ p∈ps,Rep K H A p.1 p.2)->∀ i:Nat,(∀ t,ts[i]?=some t->J.go i H/\∀ x H',J.yld i H x H'->aZ H H'/\Rep K H' (Am sc A H) t x)/\(ts.length<=i->J.stop i H)
def tGI (K:PySem.W.Frag) (B:Hp) (fl:List Nat) (f:Rho->Option (List T)) (l:Nat) (sc:Bool):TI:=fun σ H R=>
 ∃ Ex ρ M ts,Sl K B fl Ex σ ρ M H/\f ρ=some ts/\∀ J H' ps,aZ H H'->(∀ p∈ps,Rep K H' (Ad B H M l) p.1 p.2)->tO K J ps ts sc->R J H'
def GI (X:Cx) (B:Hp) (fl:List Nat) (tg e:Expr) (f:Rho->Option (List T)) (l:Nat) (sc:Bool):Prop:=PI X tg e (tGI X.K B fl f l sc)
theorem uX {t t':TI}(h:PI X tg e t) (k:∀ σ H R,t' σ H R->t σ H R):PI X tg e t':=fun pins s σ H R I q=>h pins s σ H R I (k σ H R q)
def isL:T->Option (List T)
 | .lst ts=>some ts
 | _=>none
def gD:T->Option (List T)
 | .lst ts=>if bF ts then some ts else none
 | _=>none
def fFL (f:Rho->Option T):Rho->Option (List T):=fun ρ=>(f ρ).bind gD
theorem ZQ {pins:List (Addr × Obj)}{s:Shared}{σ:St}{H:Hp}{R:It->Hp->Prop}{Ex:List (T × V)}{ρ:Rho}{M:List Addr}{ts:List T}{sc:Bool}(h:GE X B fl e f n l) (I:Inv X pins σ H s) (S:Sl X.K B fl Ex σ ρ M H) (ht:f ρ=some (.lst ts)) (hsc:sc=true->bF ts=true)
  (q:∀ J H' ps,aZ H H'->(∀ p∈ps,Rep X.K H' (Ad B H M l) p.1 p.2)->tO X.K J ps ts sc->R J H'):
  wpAny (model X.prog X.w) X.A (eval e X.env) (fun v s1=>wpAny (model X.prog X.w) X.A (pyIter v) (PIE X pins σ tg R) X.xe s1) X.xe s:=by
 refine thn (h pins s σ H (fun v H1=>aZ H H1/\aX X.K B H M H1 n l (.lst ts) v) I ⟨Ex,ρ,M,_,S,ht,fun v H1 s1 r1=>⟨s1,r1⟩⟩) fun v s1 ⟨x,H1,I1,r1,s01,rx⟩=>?_;have rx':=rx.rep S;obtain⟨a,xs,rfl,hs,hr⟩:=rx'.sqL;cases r1;obtain⟨its,rv,p,hz⟩:=I1.list hs;refine wpAny_pyIter_list p.isList ?_;refine⟨s1.heap.objs.size,[s1.heap.objs.size],_,_,H1,rfl,I1.kept (t':=s1.toks) fun b o e=>aIz _ e,aGa a _,⟨_,aJ8 _ rfl,rfl,rfl⟩,fun b hb=>?_,?_⟩
 ·have e:b=s1.heap.objs.size:=by simpa using hb
  subst e;exact I1.fpOk (aKv _) (I1.hok.fresh (aKv _))
 ·refine q (Itl X.K a) H1 [(.lst ts,.ref a)] s01 (fun p hp=>by cases aKm.mp hp;exact rx') ?_
  intro H2 A hA i;obtain⟨a',ys,e,hs2,hr2⟩:=(hA _ aIs).sqL;cases e;refine⟨fun t hti=>?_,fun hi=>⟨ys,hs2,by rw[<- hr2.length];exact hi⟩⟩;obtain⟨y,hy,ry⟩:=hr2.get hti;refine⟨⟨ys,y,hs2,hy⟩,fun z H3 hz=>?_⟩;obtain⟨rfl,hz⟩:=hz;have:=hz ys hs2;rw[hy] at this;cases (aIo this);refine⟨aZ.refl _,?_⟩;cases sc with
  | false=>exact ry.weak fun b x=>⟨rfl,.inl x⟩
  | true=>
   have hs:G.im t=true:=aIu.mp (hsc rfl) t (aKl hti);exact sM t hs ry
theorem eC (h:GE X B fl e f n l):GI X B fl tg e (fFL f) l true:=by
 intro pins s σ H R I hq;obtain⟨Ex,ρ,M,ts,S,hf,q⟩:=hq;obtain⟨t,ht,hl⟩:=bind_some hf;cases t<;>first | (cases hl;done) | skip
 unfold gD at hl;dsimp only at hl;split at hl
 ·rename_i hfl
  cases (aIo hl);exact ZQ h I S ht (fun _=>hfl) q
 ·cases hl
def rangeT (lo:Int) (n:Nat):List T:=(List.range n).map fun (i:Nat)=>T.int (lo+(i:Int))
def cK:List T->Option (List T)
 | [.int j]=>if j.natAbs<2^62 then some (rangeT 0 j.toNat) else none
 | _=>none
def sF:List T->Option (List T)
 | [.int i,.int j]=>if i.natAbs<2^62/\j.natAbs<2^62 then some (rangeT i (j-i).toNat) else none
 | _=>none
def cH (fa:Rho->Option (List T)) (o:List T->Option (List T)):Rho->Option (List T):=fun ρ=>(fa ρ).bind o
theorem NV {K:PySem.W.Frag}(lo:Int) (n:Nat):tO K (Itr lo n) [] (rangeT lo n) true:=by
 intro H A _ i;unfold rangeT;refine⟨fun t ht=>?_,fun hi=>by show n<=i;simpa using hi⟩;rw[aJx] at ht;cases e:(List.range n)[i]? with
 | none=>rw[e] at ht;cases ht
 | some k=>
  rw[e] at ht;cases (aIo ht);obtain⟨h1,h2⟩:=aIt.mp e;rw[List.getElem_range] at h2;subst h2;refine⟨by show i<n;simpa using h1,fun x H' hx=>?_⟩;obtain⟨rfl,rfl⟩:=hx;exact⟨aZ.refl _,rfl⟩
theorem dI {x:Str}{p':Pos}(hx:x = "range") (hg:Gl X "range") (hm:X.mg "range" = none) (ha:GA X B fl [a] fa l) (hs:starEach [a] X.env=[(false,eval a X.env)]:=by rfl):GI X B fl tg (.Call (.Name x p') [a] [] pos) (cH fa cK) 3 true:=by
 subst hx;refine uX (aD4 hg hm ha hs) ?_;rintro σ H R ⟨Ex,ρ,M,ts,S,hf,q⟩;obtain⟨us,hus,hf⟩:=bind_some hf;refine⟨Ex,ρ,M,us,S,hus,fun vs H1 s1 r1=>?_⟩
 match us,hf with
 | [.int j],hf=>
  unfold cK at hf;dsimp only at hf;split at hf
  ·rename_i hj
   cases (aIo hf);obtain⟨y,rfl,ry⟩:=eH r1;cases (show _=_ from ry);exact⟨j,rfl,by omega,by omega,q _ H1 [] s1 (fun _ z=>nomatch z) (NV 0 j.toNat)⟩
  ·cases hf
theorem XJ {x:Str}{p':Pos}(hx:x = "range") (hg:Gl X "range") (hm:X.mg "range" = none) (ha:GA X B fl [a,b] fa l) (hs:starEach [a,b] X.env=[(false,eval a X.env),(false,eval b X.env)]:=by rfl) (hs2:starEach [b] X.env=[(false,eval b X.env)]:=by rfl):GI X B fl tg (.Call (.Name x p') [a,b] [] pos) (cH fa sF) 3 true:=by
 subst hx;refine uX (aD5 hg hm ha hs hs2) ?_;rintro σ H R ⟨Ex,ρ,M,ts,S,hf,q⟩;obtain⟨us,hus,hf⟩:=bind_some hf;refine⟨Ex,ρ,M,us,S,hus,fun vs H1 s1 r1=>?_⟩
 match us,hf with
 | [.int i,.int j],hf=>
  unfold sF at hf;dsimp only at hf;split at hf
  ·rename_i hj
   cases (aIo hf);obtain⟨y,r,e,ry,h2⟩:=r1;obtain⟨y2,rfl,ry2⟩:=eH h2;subst e;cases (show _=_ from ry);cases (show _=_ from ry2);exact⟨i,j,rfl,by omega,q _ H1 [] s1 (fun _ z=>nomatch z) (NV i (j-i).toNat)⟩
  ·cases hf
end
def bR (src:List (Option Nat)) (ρ:Rho):Rho:=src.map fun o=>o.bind fun i=>(ρ[i]?).join
def bN (p:Rho->Option Bool) (f:Rho->Option T) (ρ:Rho):List T->Option (List T)
 | []=>some []
 | t::ts=>(p (ρ.set 0 (some t))).bind fun b=>if b then (f (ρ.set 0 (some t))).bind fun x=>(bN p f ρ ts).map (x :: ·) else bN p f ρ ts
def cE (fi:Rho->Option (List T)) (src:List (Option Nat)) (p:Rho->Option Bool) (f:Rho->Option T):Rho->Option T:=fun ρ=>
 (fi ρ).bind fun ts=>(bN p f (bR src ρ) ts).bind fun us=>if us.length<=cap then some (.lst us) else none
def bE:Rho->Option Bool:=fun _=>some true
def GIf (X:Cx) (B:Hp) (fl:List Nat) (ifs:List Expr) (p:Rho->Option Bool):Prop:=PIf X ifs (tGT X.K B fl p)
theorem dY {X:Cx}{B:Hp}{fl:List Nat}:GIf X B fl [] bE:=fun pins s σ H Q I ⟨_,_,_,b,_,hf,q⟩=>aD8 pins s σ H Q I (by cases (aIo hf);exact q H (aZ.refl H))
theorem xY {X:Cx}{B:Hp}{fl:List Nat}{c:Expr}{p:Rho->Option Bool}(h:GT X B fl c p):GIf X B fl [c] p:=aD9 h
theorem gC {α:Type}{l:List (Option α)}{i:Nat}{t:α}(h:(l[i]?).join=some t):l[i]?=some (some t):=by
 cases e:l[i]? with
 | none=>rw[e] at h;cases h
 | some o=>rw[e] at h;cases (show o=some t from h);rfl
theorem NL {src:List (Option Nat)}{ρ:Rho}{j:Nat}{t:T}(h:(bR src ρ)[j]?=some (some t)):∃ i,src[j]?=some (some i)/\ρ[i]?=some (some t):=by
 unfold bR at h;rw[aJx] at h;cases e:src[j]? with
 | none=>rw[e] at h;cases h
 | some o=>
  rw[e] at h;cases o with
  | none=>cases (aIo h)
  | some i=>exact⟨i,rfl,gC (aIo h)⟩
theorem NM {src:List (Option Nat)}{σ:St}{j i:Nat}{v:V}(h:src[j]?=some (some i)) (e:σ[i]?=some (some v)):(cZ src σ)[j]?=some (some v):=by
 unfold cZ;rw[aJx,h];show some ((σ[i]?).join)=_;rw[e];rfl
structure FlOk (X:Cx) (N':List Str) (src:List (Option Nat)) (fl fl':List Nat) (li:Nat) (sc:Bool):Prop where
 nd:N'.Nodup
 own:src[0]?=some none
 cap:∀ (j i:Nat),src[j]?=some (some i)->fl'.getD j 1=fl.getD i 1
 pos:1<=fl'.getD 0 1
 le:sc=false->fl'.getD 0 1<=li
 xN:∀ (j i:Nat),src[j]?=some (some i)->N'[j]?=X.N[i]?/\j<N'.length
 lf:fl'.length=src.length
 lcs:lc fl'<=lc fl\/∀ j,fl'.getD j 1≠0
section
variable {X:Cx}{K:PySem.W.Frag}{B H:Hp}{fl fl':List Nat}{src:List (Option Nat)}{N':List Str}{Ex:List (T × V)}{σ σ1:St}{ρ:Rho}{M:List Addr}{li:Nat}{sc:Bool}
theorem Sl.block {t:T}{x:V}(F:FlOk X N' src fl fl' li sc) (S:Sl K B fl Ex σ ρ M H) (h0:∀ j,j≠0->σ1[j]?=(cZ src σ)[j]?) (hl:σ1.length=src.length) (r:Rep K H (Ad B H M (min (fl'.getD 0 1) 2)) t x):
  Sl K B fl' Ex (σ1.set 0 (some x)) ((bR src ρ).set 0 (some t)) M H:=by
 have get:∀ j u,((bR src ρ).set 0 (some t))[j]?=some (some u)->(j=0/\u=t)\/(j≠0/\∃ i,src[j]?=some (some i)/\ρ[i]?=some (some u)):=fun j u e=>by
  by_cases hj:j=0
  ·subst hj
   left
   refine⟨rfl,?_⟩
   by_cases hz:0<(bR src ρ).length
   ·rw[aK0 hz] at e
    cases (aIo e);rfl
   ·have:((bR src ρ).set 0 (some t))=[]:=by
     have:(bR src ρ)=[]:=List.length_eq_zero_iff.mp (by omega);rw[this];rfl
    rw[this] at e;cases e
  ·right
   rw[aIy (Ne.symm hj)] at e;exact⟨hj,NL e⟩
 have put:∀ j i v,j≠0->src[j]?=some (some i)->σ[i]?=some (some v)->(σ1.set 0 (some x))[j]?=some (some v):=fun j i v hj e1 e2=>by
  rw[aIy (Ne.symm hj),h0 j hj];exact NM e1 e2
 have hl0:0<σ1.length:=by
  have:=(aIt.mp F.own).1;omega
 obtain⟨g,hg,ap⟩:=S.mu;refine⟨S.same,fun j u e k=>?_,⟨fun j=>g (((src[j]?).join).getD 0),fun j u e k hm=>?_,fun j j' c d u u' us ws hne e e' k k' hm hm'=>?_⟩,S.ex,S.mB,by rw[aK9,hl];exact Nat.le_of_eq F.lf⟩
 ·rcases get j u e with ⟨rfl,rfl⟩ | ⟨hj,i,e1,e2⟩
  ·exact⟨x,by rw[aK0 hl0],r⟩
  ·rw[F.cap j i e1] at k ⊢
   obtain⟨v,e3,r3⟩:=S.slot i u e2 k;exact⟨v,put j i v hj e1 e3,r3⟩
 ·rcases get j u e with ⟨rfl,rfl⟩ | ⟨hj,i,e1,e2⟩
  ·exact absurd k (by have:=F.pos;omega)
  ·rw[F.cap j i e1] at k
   obtain⟨v,e4,e5,e6⟩:=hg i u e2 k hm;simp only[show ((src[j]?).join).getD 0=i by rw[e1];rfl];refine⟨v,put j i _ hj e1 e4,e5,fun c us h=>?_⟩;obtain⟨xs,q1,q2,q3⟩:=e6 c us h;rcases F.lcs with lk | lk
   ·exact⟨xs,q1,q2.weak fun b x=>x.le lk,q3⟩
   ·exact absurd ((F.cap j i e1).trans k) (lk j)
 ·rcases get j u e with ⟨rfl,rfl⟩ | ⟨hj,i,e1,e2⟩
  ·exact absurd k (by have:=F.pos;omega)
  ·rcases get j' u' e' with ⟨rfl,rfl⟩ | ⟨hj',i',e1',e2'⟩
   ·exact absurd k' (by have:=F.pos;omega)
   ·rw[F.cap j i e1] at k
    rw[F.cap j' i' e1'] at k';have hii:j≠j'->i≠i':=fun hj z=>by
     subst z;have q1:=F.xN j i e1;have q2:=F.xN j' i e1';have:N'[j]?=N'[j']?:=q1.1.trans q2.1.symm;rw[aIq q1.2,aIq q2.2] at this;exact hj ((List.getElem_inj F.nd).mp (aIo this))
    simp only[show ((src[j]?).join).getD 0=i by rw[e1];rfl,show ((src[j']?).join).getD 0=i' by rw[e1'];rfl];exact ap i i' c d u u' us ws (hne.imp hii id) e2 e2' k k' hm hm'
end
theorem Sl.mores {K:PySem.W.Frag}{B H1 H':Hp}{fl:List Nat}{Ex:List (T × V)}{σ:St}{ρ:Rho}{M:List Addr}(Ds:List Addr) (S:Sl K B fl Ex σ ρ M H1) (hD:∀ D∈Ds,H1 D=none/\H' D≠none) (s:aZ H1 H'):Sl K B fl Ex σ ρ (Ds++M) H' where
 same:=S.same.trans s
 slot:=fun i t e k=>by
  obtain⟨v,e1,r⟩:=S.slot i t e k;refine⟨v,e1,Rep.keep (fun b _ e=>eQ (fun o q=>s b o q) e) (fun b o _ e=>s b o e) (fun b x y=>⟨fun z w=>?_,x.2.1,fun z=>by omega⟩) t r⟩;rcases aKf.mp w with w | w
  ·exact y (hD b w).1
  ·exact x.1 z w
 mu:=by
  obtain⟨g,hg,ap⟩:=S.mu;refine⟨g,fun i t e k hm=>?_,ap⟩;obtain⟨v,e1,e2,e3⟩:=hg i t e k hm;refine⟨v,e1,e2.grow s,fun c us h=>?_⟩;obtain⟨xs,q1,r,q3⟩:=e3 c us h;refine⟨xs,q1.keep (s _),RepL.keep (fun b _ e=>eQ (fun o q=>s b o q) e) (fun b o _ e=>s b o e) (fun b x y=>⟨fun z w=>?_,x.2.1,fun z=>by have:=hV fl;omega⟩) us r,aKh _ q3⟩;rcases aKf.mp w with w | w
  ·exact y (hD b w).1
  ·exact x.1 z w
 ex:=fun p hp=>by
  refine Rep.keep (fun b _ e=>eQ (fun o q=>s b o q) e) (fun b o _ e=>s b o e) (fun b x y=>⟨fun z w=>?_,x.2.1,fun z=>by omega⟩) p.1 (S.ex p hp);rcases aKf.mp w with w | w
  ·exact y (hD b w).1
  ·exact x.1 z w
 mB:=fun a ha=>by
  rcases aKf.mp ha with ha | ha
  ·exact⟨S.same.free (hD a ha).1,(hD a ha).2⟩
  ·exact⟨(S.mB a ha).1,fun z=>(S.mB a ha).2 (s.free z)⟩
 len:=S.len
theorem Sl.more {K:PySem.W.Frag}{B H1 H':Hp}{fl:List Nat}{Ex:List (T × V)}{σ:St}{ρ:Rho}{M:List Addr}{D:Addr}(S:Sl K B fl Ex σ ρ M H1) (hD:H1 D=none) (s:aZ H1 H') (hn:H' D≠none):Sl K B fl Ex σ ρ (D::M) H':=
 Sl.mores [D] S (fun _ h=>by cases aKm.mp h;exact⟨hD,hn⟩) s
theorem TR {p:Rho->Option Bool}{f:Rho->Option T}{ρ:Rho}{t:T}{ts us:List T}(h:bN p f ρ (t::ts)=some us):
  ∃ b,p (ρ.set 0 (some t))=some b/\((b=true/\∃ x r,f (ρ.set 0 (some t))=some x/\bN p f ρ ts=some r/\us=x::r)\/(b=false/\bN p f ρ ts=some us)):=by
 unfold bN at h;obtain⟨b,hb,h⟩:=bind_some h;refine⟨b,hb,?_⟩;cases b with
 | true=>
  left
  rw[if_pos rfl] at h;obtain⟨x,hx,h⟩:=bind_some h;cases e:bN p f ρ ts with
  | none=>rw[e] at h;cases h
  | some r=>rw[e] at h;cases (aIo h);exact⟨rfl,x,r,hx,rfl,rfl⟩
 | false=>
  right
  rw[if_neg aJ5] at h;exact⟨rfl,h⟩
section
variable {X:Cx}{B:Hp}{fl fl':List Nat}{elt iter:Expr}{x0:Str}{p0:Pos}{ifs:List Expr}{scope:Scope}{pos:Pos}{N':List Str}{src:List (Option Nat)}{fi:Rho->Option (List T)}{p:Rho->Option Bool}{f:Rho->Option T}{n sc:Bool}{l li:Nat}
theorem BG (F:FlOk X N' src fl fl' li sc) (hl1':1<=l) {σ:St}{H:Hp}{Q:VK}(h:tG X.K B fl (cE fi src p f) true l σ H Q):
  xE (tGI X.K B fl fi li sc) (cZ src) (kJ 0) (tGT X.K B fl' p) (tG X.K B fl' f n l) σ H Q:=by
 obtain⟨Ex,ρ,M,t,S,hf,q⟩:=h;obtain⟨ts,hts,hf⟩:=bind_some hf;obtain⟨fin,hfin,hf⟩:=bind_some hf;split at hf
 rotate_left
 ·cases hf
 rename_i hcap;cases (aIo hf);refine⟨Ex,ρ,M,ts,S,hts,fun J H1 ps s01 rp wk=>?_⟩;intro D hD;have hlen:0<src.length:=by
  have:=(aIt.mp F.own).1;exact this
 refine⟨fun i m σ1 H2=>m=ts.length-i/\i<=ts.length/\aZ H1 H2/\σ1.length=src.length/\(∀ j,j≠0->σ1[j]?=(cZ src σ)[j]?) /\
  ∃ us rest xs,us++rest=fin/\bN p f (bR src ρ) (ts.drop i)=some rest/\H2 D=some (.lst xs)/\RepL X.K H2 (fun b=>Ad B H M l b/\b≠D) us xs,?_,?_⟩
 ·refine⟨ts.length,by simp,aLf _,eY hD _,by unfold cZ;simp,fun _ _=>rfl,[],fin,[],rfl,by simpa using hfin,eJ,rfl⟩
 ·rintro i m σ1 H2 ⟨rfl,hi,s12,hl1,hσ,us,rest,xs,e1,e2,e3,e4⟩
  have hD2:H2 D≠none:=by rw[e3];simp
  have S2:=(S.grow s01).more hD s12 hD2;have rp1:∀ pv∈ps,Rep X.K H1 (fun b=>Ad B H M li b/\b≠D) pv.1 pv.2:=fun pv hpv=>Rep.keep (fun _ _ e=>e) (fun _ _ _ e=>e) (fun b x y=>⟨x,fun z=>y (z ▸ hD)⟩) pv.1 (rp pv hpv);have w:=wk H2 _ (fun pv hpv=>(rp1 pv hpv).grow s12) i
  by_cases hlt:i<ts.length
  ·refine .inr ?_
   have et:ts[i]?=some ts[i]:=aIq hlt;obtain⟨go,yl⟩:=w.1 _ et;refine⟨go,fun x H3 hy=>?_⟩;obtain⟨s23,rx⟩:=yl x H3 hy;rw[aJn hlt] at e2;obtain⟨b,hb,hcase⟩:=TR e2;have S3:=S2.grow s23;have rx':Rep X.K H3 (Ad B H3 (D::M) (min (fl'.getD 0 1) 2)) ts[i] x:=rx.weak fun c hc=>by
    obtain⟨h0,hc⟩:=hc;rcases hc with hc | hc
    ·refine⟨fun z w=>?_,fun z=>hc.1.2.1 (by have:=F.le h0;omega),fun z=>by omega⟩
     rcases aJ0.mp w with rfl | w
     ·exact hc.2 rfl
     ·exact hc.1.1 (by have:=F.le h0;omega) w
    ·exact⟨fun _ z=>(S2.mB c z).2 hc,fun _=>S2.same.free hc,fun z=>by omega⟩
   have Sb:=Sl.block (σ1:=σ1) F S3 hσ hl1 rx';show tGT X.K B fl' p (σ1.set 0 (some x)) H3 _;refine⟨Ex,_,D::M,b,Sb,hb,fun H5 s35=>?_⟩;have hσ':∀ j,j≠0->(σ1.set 0 (some x))[j]?=(cZ src σ)[j]?:=fun j hj=>by rw[aIy (Ne.symm hj)];exact hσ j hj
   rcases hcase with ⟨rfl,y,r,hy',hr,rfl⟩ | ⟨rfl,hr⟩
   ·refine hU ⟨Ex,_,D::M,y,Sb.grow s35,hy',fun v H6 s56 rv=>?_⟩
    have s26:=(s23.trans s35).trans s56;have e5:=s26 _ _ e3;have hl:xs.length<sizeLine:=by
     rw[<- e4.length];refine gU (aKw ?_ hcap);rw[<- e1];simp
    refine⟨xs,e5,hl,ts.length-(i+1),by omega,rfl,hlt,?_,by simpa using hl1,hσ',us++[y],r,xs++[v],by rw[<- e1];simp,hr,eJ,?_⟩
    ·intro c o hc
     have:c≠D:=fun z=>by rw[z,hD] at hc;cases hc
     rw[bG this];exact (s12.trans s26) c o hc
    ·have k1:RepL X.K H6 (fun b=>Ad B H M l b/\b≠D) us xs:=e4.grow s26
     have k2:Rep X.K H6 (fun b=>Ad B H M l b/\b≠D) y v:=by
      have z:=rv.rep (Sb.grow s35);exact z.weak fun c hc=>⟨⟨fun k w=>hc.1 k (aIr _ w),hc.2.1,fun k=>((s01.trans s12).trans (s23.trans s35)).free (hc.2.2 k)⟩,fun w=>hc.1 hl1' (by rw[w];exact aIs)⟩
     exact (RepL.app k1 (RepL.one k2)).keep (fun c _ e=>hZ e5 e) (fun c o hc e=>by rw[bG hc.2];exact e) (fun c hc _=>hc) _
   ·refine hG ⟨ts.length-(i+1),by omega,rfl,hlt,(s12.trans s23).trans s35,by simpa using hl1,hσ',us,rest,xs,e1,hr,(s23.trans s35) _ _ e3,e4.grow (s23.trans s35)⟩
  ·have ei:i=ts.length:=by omega
   subst ei;refine .inl ⟨w.2 (aKv _),?_⟩;rw[List.drop_eq_nil_of_le (aKv _)] at e2;cases (aIo (show some []=some rest from e2));rw[List.append_nil] at e1;subst e1;exact q _ H2 (s01.trans s12) ⟨D,xs,rfl,s01.free hD,e3,e4⟩
def uV:Option NameKind->Bool
 | some .local=>true
 | some .cell=>true
 | _=>false
theorem LS {env:Env}:∀ {names:List (Str × NameKind)}{x:Str},names.lookup x=some .cell ->
  (names.map fun (n,k)=>if (k == NameKind.free&&env.scope.kind == .function&&env.kindOf n == some .cell) then (n,NameKind.cell) else (n,k)).lookup x=some .cell
 | [],_,h=>by cases h
 | (n,k)::r,x,h=>by
  rw[aKb] at h;rw[aKc]
  by_cases hx:(x == n)=true
  ·rw[hx] at h
   have h':k=NameKind.cell:=aIo h;subst h';show ((n,NameKind.cell)::_).lookup x=_;rw[aKb,hx]
  ·have hx':(x == n)=false:=by simpa using hx
   rw[hx'] at h;have ih:=LS (env:=env) h;dsimp only
   split<;>(rw[aKb,hx'];exact ih)
theorem LC {X:Cx}{scope:Scope}{N':List Str}{cl:List (Str × Addr)}{C:Addr}{s:Shared}{H:Hp}{ex:List Addr}{i:Nat}{x:Str}{p:Pos}(hN:N'.Nodup) (hi:N'[i]?=some x) (hx:uV (scope.names.lookup x)=true):
  PG (cxB X scope N' cl C s H ex) (.Name x p) (kJ i):=by
 cases q:scope.names.lookup x with
 | none=>rw[q] at hx;cases hx
 | some k=>
  rw[q] at hx;cases k with
  | «local»=>exact yV hN hi (.inl (lookup_relabel_local q)) (.inr (lookup_relabel_local q))
  | cell=>exact yV hN hi (.inr (LS q)) (.inl (show sC (scope.names.lookup x)=true by rw[q];rfl))
  | _=>cases hx
theorem fJ (S:BlkOk X scope N' src) (F:FlOk X N' src fl fl' li sc) (hl1:1<=l) (hc:X.calm=true) (hi:GI X B fl (.Name x0 p0) iter fi li sc) (hN:N'[0]?=some x0) (hx:uV (scope.names.lookup x0)=true)
  (hb:∀ cl C s H ex,GIf (cxB X scope N' cl C s H ex) B fl' ifs p/\GE (cxB X scope N' cl C s H ex) B fl' elt f n l)
  (hs:∀ x,foldedSetIterable iter X.env x=pure x:=by intro _;rfl):GE X B fl (.ListComp elt [⟨.Name x0 p0,iter,ifs,0⟩] scope pos) (cE fi src p f) true l:=by
 refine bQ (LA (wi:=tGI X.K B fl fi li sc) (g:=kJ 0) (tc:=tGT X.K B fl' p) (te:=tG X.K B fl' f n l) S hc hi (fun cl C s H ex=>⟨?_,(hb cl C s H ex).1,(hb cl C s H ex).2⟩) hs) fun σ H Q h=>BG F hl1 h;exact LC F.nd hN hx
theorem IW {i:Nat}{x:Str}{pos' spos:Pos}(S:BlkOk X scope N' src) (hc:X.calm=true) (hi:GI X B fl (.Name x0 p0) iter fi li sc) (hnd:N'.Nodup) (hN0:N'[0]?=some x0) (hx0:uV (scope.names.lookup x0)=true)
  (hb:∀ cl C s H ex,GIf (cxB X scope N' cl C s H ex) B fl' ifs p/\GE (cxB X scope N' cl C s H ex) B fl' elt f n l) (hN:X.N.Nodup) (hiN:X.N[i]?=some x) (hx:Loc X.env.scope x)
  (hsw:swapsWith (.ListComp elt [⟨.Name x0 p0,iter,ifs,0⟩] scope pos) (some (.Name x pos')) spos.line X.env=pure true)
  (hs:∀ x,foldedSetIterable iter X.env x=pure x) (hf:X.fn x=true\/X.env.scope.names.lookup x=some .local):
  PS X (.Assign [.Name x pos'] (.ListComp elt [⟨.Name x0 p0,iter,ifs,0⟩] scope pos) spos) (AK (xE (tGI X.K B fl fi li sc) (cZ src) (kJ 0) (tGT X.K B fl' p) (tG X.K B fl' f n l)) (kJ i)):=by
 refine aDh hN hiN hx S hc hi (fun cl C s H ex=>⟨?_,(hb cl C s H ex).1,(hb cl C s H ex).2⟩) hsw hs hf;exact LC hnd hN0 hx0
end
inductive Out where
 | nx (ρ:Rho) | rt (t:T) | bk (ρ:Rho) | ct (ρ:Rho)
def okO:T->Bool
 | .lst _=>true
 | t=>im t
def FR (K:PySem.W.Frag) (B H:Hp) (M:List Addr) (H':Hp):List T->List V->Prop
 | [],xs=>xs=[]
 | t::ts,xs=>∃ x r,xs=x::r/\okO t=true/\aX K B H M H' true 3 t x/\FR K B H M H' ts r
def Dst (ts:List T) (xs:List V):Prop:=∀ (c d:Nat) (us ws:List T) (a:Addr),c≠d->ts[c]?=some (.lst us)->ts[d]?=some (.lst ws)->xs[c]?=some (.ref a)->xs[d]?=some (.ref a)->False
def RH (K:PySem.W.Frag) (B H:Hp) (M:List Addr) (H':Hp) (t:T) (v:V):Prop:=∃ p ts xs,t=.tup ts/\v=.ref p/\Rd H' p (.tup xs)/\FR K B H M H' ts xs/\Dst ts xs
def RtX (K:PySem.W.Frag) (B H:Hp) (n:Bool) (l:Nat) (t:T) (v:V):Prop:=if l=4 then RH K B B [] H t v else aX K B B [] H n l t v
theorem RtX.of {K:PySem.W.Frag}{B H:Hp}{n:Bool}{l:Nat}{t:T}{v:V}(hl:l≠4):RtX K B H n l t v ↔ aX K B B [] H n l t v:=by unfold RtX;rw[if_neg hl]
def EO (K:PySem.W.Frag) (B:Hp) (fl:List Nat) (n:Bool) (l:Nat) (Ex:List (T × V)) (D:Ends):Out->Prop
 | .nx ρ=>∀ σ M H,Sl K B fl Ex σ ρ M H->D.nx σ H
 | .bk ρ=>∀ σ M H,Sl K B fl Ex σ ρ M H->D.bk σ H
 | .ct ρ=>∀ σ M H,Sl K B fl Ex σ ρ M H->D.ct σ H
 | .rt t=>∀ v H,aZ B H->RtX K B H n l t v->D.rt v H
def tS (K:PySem.W.Frag) (B:Hp) (fl:List Nat) (n:Bool) (l:Nat) (run:Rho->Option Out):TS:=fun D σ H=>
 ∃ Ex ρ M o,Sl K B fl Ex σ ρ M H/\run ρ=some o/\EO K B fl n l Ex D o
def GS (X:Cx) (B:Hp) (fl:List Nat) (n:Bool) (l:Nat) (st:Stmt) (run:Rho->Option Out):Prop:=PS X st (tS X.K B fl n l run)
def GSs (X:Cx) (B:Hp) (fl:List Nat) (n:Bool) (l:Nat) (st:List Stmt) (run:Rho->Option Out):Prop:=PSs X st (tS X.K B fl n l run)
def aQ:Rho->Option Out:=fun ρ=>some (.nx ρ)
def aH (r1 r2:Rho->Option Out):Rho->Option Out:=fun ρ=>(r1 ρ).bind fun o=>match o with | .nx ρ'=>r2 ρ' | o=>some o
def aJ (i:Nat) (f:Rho->Option T):Rho->Option Out:=fun ρ=>(f ρ).map fun t=>.nx (ρ.set i (some t))
def okM:T->Bool
 | .lst _=>true
 | t=>im t
def fP (i:Nat) (f:Rho->Option T):Rho->Option Out:=fun ρ=>(f ρ).bind fun t=>if okM t then some (.nx (ρ.set i (some t))) else none
def rIf (p:Rho->Option Bool) (r1 r2:Rho->Option Out):Rho->Option Out:=fun ρ=>(p ρ).bind fun b=>if b then r1 ρ else r2 ρ
def aV (f:Rho->Option T):Rho->Option Out:=fun ρ=>(f ρ).map .rt
def sJ (i:Nat) (f:Rho->Option T):Rho->Option Out:=fun ρ=>(aA i ρ).bind fun t=>(f ρ).bind fun x=>match t with | .lst ts=>if ts.length<cap then some (.nx (ρ.set i (some (.lst (ts++[x]))))) else none | _=>none
def cY (i:Nat) (fi f:Rho->Option T):Rho->Option Out:=fun ρ=>(f ρ).bind fun x=>(aA i ρ).bind fun t=>(fi ρ).bind fun k=>match t,k with | .lst ts,.int j=>(ixN ts.length j).map fun j'=>.nx (ρ.set i (some (.lst (ts.set j' x)))) | _,_=>none
def cF (j:Nat) (body:Rho->Option Out):List T->Rho->Option Out
 | [],ρ=>some (.nx ρ)
 | t::ts,ρ=>(body (ρ.set j (some t))).bind fun o=>match o with | .nx ρ'=>cF j body ts ρ' | .ct ρ'=>cF j body ts ρ' | .bk ρ'=>some (.nx ρ') | .rt t=>some (.rt t)
def dL (j:Nat) (fi:Rho->Option (List T)) (body:Rho->Option Out):Rho->Option Out:=fun ρ=>(fi ρ).bind fun ts=>cF j body ts ρ
section
variable {K:PySem.W.Frag}{B H H':Hp}{fl:List Nat}{Ex:List (T × V)}{σ:St}{ρ:Rho}{M:List Addr}{n:Bool}{l:Nat}{t:T}{v:V}{i:Nat}
theorem fQ {ρ:Rho}{i j:Nat}{t u:T}(h:(ρ.set i (some t))[j]?=some (some u)):(j=i/\u=t/\i<ρ.length)\/(j≠i/\ρ[j]?=some (some u)):=by
 by_cases hj:j=i
 ·subst hj
  left
  by_cases hl:j<ρ.length
  ·rw[aK0 hl] at h
   cases (aIo h);exact⟨rfl,rfl,hl⟩
  ·rw[List.getElem?_eq_none_iff.mpr (by rw[aK9];omega)] at h
   cases h
 ·right
  rw[aIy (Ne.symm hj)] at h;exact⟨hj,h⟩
theorem Sl.set (S:Sl K B fl Ex σ ρ M H) (hi:i<fl.length) (h1:1<=fl.getD i 1\/im t=true) (r:Rep K H (Ad B H M (min (fl.getD i 1) 2)) t v):Sl K B fl Ex (σ.set i (some v)) (ρ.set i (some t)) M H where
 same:=S.same
 slot:=fun j u e k=>by
  rcases fQ e with ⟨rfl,rfl,_⟩ | ⟨hj,e⟩
  ·exact⟨v,by rw[aK0 (aIw hi S.len)],r⟩
  ·obtain⟨w,e1,r1⟩:=S.slot j u e k
   exact⟨w,by rw[aIy (Ne.symm hj)];exact e1,r1⟩
 mu:=by
  obtain⟨g,hg,ap⟩:=S.mu;refine⟨g,fun j u e k hm=>?_,fun j j' c d u u' us ws hne e e' k k' hm hm'=>?_⟩
  ·rcases fQ e with ⟨rfl,rfl,_⟩ | ⟨hj,e⟩
   ·rcases h1 with h1 | h1
    ·omega
    ·rw[hm] at h1;cases h1
   ·obtain⟨w,e2,e3⟩:=hg j u e k hm
    exact⟨w,by rw[aIy (Ne.symm hj)];exact e2,e3⟩
  ·rcases fQ e with ⟨rfl,rfl,_⟩ | ⟨hj,e⟩
   ·rcases h1 with h1 | h1
    ·omega
    ·rw[uJ hm] at h1;cases h1
   ·rcases fQ e' with ⟨rfl,rfl,_⟩ | ⟨hj',e'⟩
    ·rcases h1 with h1 | h1
     ·omega
     ·rw[uJ hm'] at h1;cases h1
    ·exact ap j j' c d u u' us ws hne e e' k k' hm hm'
 ex:=S.ex
 mB:=S.mB
 len:=by rw[aK9];exact S.len
theorem Sl.setC {ga:Nat->Addr}(Ds:List Addr) (S:Sl K B fl Ex σ ρ M H) (hi:i<fl.length) (h0:fl.getD i 1=0) (s:aZ H H') (hD:∀ D∈Ds,H D=none/\H' D≠none) (hm0:im t=false) (sh:fI K H' t v ga)
  (r:∀ c us,dU t c us->∃ xs,gM H' t (ga c) xs/\RepL K H' (fun b=>Ad B H M (lc fl) b/\b ∉ Ds) us xs/\ga c∈Ds) (dj:∀ c d us ws,c≠d->kR t=false->dU t c us->dU t d ws->ga c≠ga d):
  Sl K B fl Ex (σ.set i (some v)) (ρ.set i (some t)) (Ds++M) H':=by
 have lcl:=hV fl;have lcp:=kS fl;have S':=Sl.mores Ds S hD s;obtain⟨g,hg,ap⟩:=S.mu;have hold:∀ j c u us,ρ[j]?=some (some u)->fl.getD j 1=0->dU u c us->g j c ∉ Ds:=fun j c u us e k h z=>by
  obtain⟨_,_,_,e3⟩:=hg j u e k (uJ h);obtain⟨xs,q,_⟩:=e3 c us h;exact q.some (hD _ z).1
 have gmo:∀ j u,ρ[j]?=some (some u)->fl.getD j 1=0->im u=false->∃ v,σ[j]?=some (some v)/\FS K B (lc fl) (Ds++M) H' u v (g j):=fun j u e k hm=>by
  obtain⟨v,e1,e2,e3⟩:=hg j u e k hm;refine⟨v,e1,e2.grow s,fun c us h=>?_⟩;obtain⟨xs,q1,r,q3⟩:=e3 c us h;refine⟨xs,q1.keep (s _),RepL.keep (fun b _ e=>eQ (fun o q=>s b o q) e) (fun b o _ e=>s b o e) (fun b x y=>⟨fun z w=>?_,x.2.1,fun z=>by omega⟩) us r,aKh _ q3⟩;rcases aKf.mp w with w | w
  ·exact y (hD b w).1
  ·exact x.1 z w
 refine⟨S'.same,fun j u e k=>?_,⟨fun j=>if j=i then ga else g j,fun j u e k hm=>?_,fun j j' c d u u' us ws hne e e' k k' hm hm'=>?_⟩,S'.ex,S'.mB,by rw[aK9];exact S.len⟩
 ·rcases fQ e with ⟨rfl,rfl,_⟩ | ⟨hj,e⟩
  ·rcases k with k | k
   ·omega
   ·rw[hm0] at k;cases k
  ·obtain⟨w,e1,r1⟩:=S'.slot j u e k
   exact⟨w,by rw[aIy (Ne.symm hj)];exact e1,r1⟩
 ·rcases fQ e with ⟨rfl,rfl,_⟩ | ⟨hj,e⟩
  ·simp only[if_pos]
   refine⟨v,by rw[aK0 (aIw hi S.len)],sh,fun c us h=>?_⟩;obtain⟨xs,q1,q2,q3⟩:=r c us h;refine⟨xs,q1,q2.weak fun b x=>⟨fun z w=>?_,fun z=>x.1.2.1 z,fun z=>by omega⟩,aKg _ q3⟩;rcases aKf.mp w with w | w
   ·exact x.2 w
   ·exact x.1.1 z w
  ·simp only[if_neg hj]
   obtain⟨v1,e2,e3⟩:=gmo j u e k hm;exact⟨v1,by rw[aIy (Ne.symm hj)];exact e2,e3⟩
 ·rcases fQ e with ⟨z1,z2,_⟩ | ⟨hj,f⟩
  ·rcases fQ e' with ⟨z1',z2',_⟩ | ⟨hj',f'⟩
   ·have hcd:c≠d/\kR t=false:=by
     rcases hne with h | h
     ·exact absurd (z1.trans z1'.symm) h
     ·exact z2 ▸ h
    subst z2 z2';simp only[if_pos z1,if_pos z1'];exact dj c d us ws hcd.1 hcd.2 hm hm'
   ·simp only[if_pos z1,if_neg hj']
    subst z2;obtain⟨_,_,_,q3⟩:=r c us hm;exact fun z=>hold j' d u' ws f' k' hm' (by rw[<- z];exact q3)
  ·rcases fQ e' with ⟨z1',z2',_⟩ | ⟨hj',f'⟩
   ·simp only[if_pos z1',if_neg hj]
    subst z2';obtain⟨_,_,_,q3⟩:=r d ws hm';exact fun z=>hold j c u us f k hm (by rw[z];exact q3)
   ·simp only[if_neg hj,if_neg hj']
    exact ap j j' c d u u' us ws hne f f' k k' hm hm'
theorem Sl.setM {ts:List T}{xs:List V}{a:Addr}(S:Sl K B fl Ex σ ρ M H) (hi:i<fl.length) (h0:fl.getD i 1=0) (s:aZ H H') (hn:H a=none) (ha:H' a=some (.lst xs)) (r:RepL K H' (fun b=>Ad B H M (lc fl) b/\b≠a) ts xs):
  Sl K B fl Ex (σ.set i (some (.ref a))) (ρ.set i (some (.lst ts))) (a::M) H':=
 Sl.setC (ga:=fun _=>a) [a] S hi h0 s (fun D h=>by cases aKm.mp h;exact⟨hn,by rw[ha];simp⟩) rfl rfl (fun c us h=>by
  obtain⟨_,rfl⟩:=h;exact⟨xs,ha,r.weak fun b x=>⟨x.1,fun z=>x.2 (aKm.mp z)⟩,aKm.mpr rfl⟩) (fun c d us ws hne _ h h'=>by
  obtain⟨rfl,_⟩:=h;obtain⟨rfl,_⟩:=h';exact absurd rfl hne)
theorem Sl.writeC {t':T}{us:List T}{xs ys:List V}{a:Addr}{c:Nat}(no:kR t=false) (no':kR t'=false) (ot:∀ H a zs,gM H t a zs=(H a=some (.lst zs))) (ot':∀ H a zs,gM H t' a zs=(H a=some (.lst zs))) (S:Sl K B fl Ex σ ρ M H) (h0:fl.getD i 1=0) (e0:ρ[i]?=some (some t)) (hc:dU t c us) (hm1:im t'=false) (hm:a∈M) (ha:H a=some (.lst xs))
  (sh:∀ v ga,fI K H t v ga->σ[i]?=some (some v)->ga c=a/\fI K H t' v ga) {us':List T} (h1:∀ d ws,dU t' d ws->(d=c/\ws=us')\/(d≠c/\dU t d ws)) (r:RepL K H (Ad B H M (lc fl)) us' ys):
  Sl K B fl Ex σ (ρ.set i (some t')) M (upd H a (.lst ys)):=by
 have lcl:=hV fl;have lcp:=kS fl;have kp:∀ {l:Nat} (b:Addr) (o:HO),1<=l->Ad B H M l b->H b=some o->upd H a (.lst ys) b=some o:=fun b o hl hb e=>by
  rw[bG (fun z=>hb.1 hl (by rw[z];exact hm))];exact e
 obtain⟨g,hg,ap⟩:=S.mu;have gi:g i c=a:=by
  obtain⟨v1,s1,q1,_⟩:=hg i t e0 h0 (uJ hc);exact (sh v1 _ q1 s1).1
 have has:∀ d ws,dU t' d ws->∃ ws',dU t d ws':=fun d ws h=>by
  rcases h1 d ws h with ⟨rfl,_⟩ | ⟨_,h⟩
  ·exact⟨us,hc⟩
  ·exact⟨ws,h⟩
 refine⟨fun b o e=>?_,fun j u e k=>?_,⟨g,fun j u e k hM=>?_,fun j j' d d' u u' ws ws' hne e e' k k' hM hM'=>?_⟩,fun p hp=>?_,fun b hb=>⟨(S.mB b hb).1,?_⟩,S.len⟩
 ·rw[bG (fun z=>by rw[z,(S.mB a hm).1] at e;cases e)]
  exact S.same b o e
 ·rcases fQ e with ⟨rfl,rfl,_⟩ | ⟨hj,e⟩
  ·rcases k with k | k
   ·omega
   ·rw[hm1] at k;cases k
  ·obtain⟨w,e1,r1⟩:=S.slot j u e k
   rcases k with k | k
   ·exact⟨w,e1,Rep.keep (fun _ _ e=>hZ ha e) (fun b o x e=>kp b o (by omega) x e) (fun b x _=>x.any (by omega)) u r1⟩
   ·exact⟨w,e1,zB (fun _ _ e=>hZ ha e) u k r1⟩
 ·rcases fQ e with ⟨rfl,rfl,_⟩ | ⟨hj,e⟩
  ·obtain⟨v1,s1,q1,q2⟩:=hg j t e0 h0 (uJ hc)
   refine⟨v1,s1,(sh v1 _ q1 s1).2.keep (fun _ _ e=>hZ ha e) (fun z=>by rw[no'] at z;cases z),fun d ws h=>?_⟩;rcases h1 d ws h with ⟨rfl,rfl⟩ | ⟨hd,h'⟩
   ·rw[gi]
    exact⟨ys,by rw[ot' _ _ _];exact eJ,RepL.keep (fun _ _ e=>hZ ha e) (fun b o x e=>kp b o (by omega) x e) (fun b x _=>x.any (by omega)) _ r,hm⟩
   ·obtain⟨zs,f1,f2,f3⟩:=q2 d ws h'
    have hne:g j d≠a:=fun z=>ap j j d c t t ws us (.inr ⟨hd,no⟩) e0 e0 h0 h0 h' hc (z.trans gi.symm);exact⟨zs,by rw[ot' _ _ _,bG hne,<- ot _ _ _];exact f1,RepL.keep (fun _ _ e=>hZ ha e) (fun b o x e=>kp b o (by omega) x e) (fun b x _=>x.any (by omega)) ws f2,f3⟩
  ·obtain⟨v1,e1,e2,e3⟩:=hg j u e k hM
   refine⟨v1,e1,e2.keep (fun _ _ e=>hZ ha e) (fun zo d o hdo eo=>?_),fun d ws h=>?_⟩
   ·have hne:g j d≠a:=fun z=>ap j i d c u t [] us (.inl hj) e e0 k h0 hdo hc (z.trans gi.symm)
    rw[bG hne];exact eo
   obtain⟨zs,f1,f2,f3⟩:=e3 d ws h;have hne:g j d≠a:=fun z=>ap j i d c u t ws us (.inl hj) e e0 k h0 h hc (z.trans gi.symm);exact⟨zs,f1.keep (fun o eo=>by rw[bG hne];exact eo),RepL.keep (fun _ _ e=>hZ ha e) (fun b o x e=>kp b o (by omega) x e) (fun b x _=>x.any (by omega)) ws f2,f3⟩
 ·have lk:∀ j u d ws,(ρ.set i (some t'))[j]?=some (some u)->dU u d ws->∃ u' ws',ρ[j]?=some (some u')/\dU u' d ws'/\kR u'=kR u:=fun j u d ws e h=>by
   rcases fQ e with ⟨z1,z2,_⟩ | ⟨_,f⟩
   ·subst z2
    obtain⟨ws',h'⟩:=has d ws h;exact⟨t,ws',by rw[z1];exact e0,h',by rw[no,no']⟩
   ·exact⟨u,ws,f,h,rfl⟩
  obtain⟨w,x,ew,hw,ow⟩:=lk j u d ws e hM;obtain⟨w',x',ew',hw',_⟩:=lk j' u' d' ws' e' hM';exact ap j j' d d' w w' x x' (by rw[ow];exact hne) ew ew' k k' hw hw'
 ·exact Rep.keep (fun _ _ e=>hZ ha e) (fun b o x e=>kp b o (by omega) x e) (fun b x _=>x.any (by omega)) p.1 (S.ex p hp)
 ·by_cases hb':b=a
  ·rw[hb',eJ];simp
  ·rw[bG hb'];exact (S.mB b hb).2
theorem Sl.write {ts us:List T}{xs ys:List V}{a:Addr}(S:Sl K B fl Ex σ ρ M H) (h0:fl.getD i 1=0) (e0:ρ[i]?=some (some (.lst ts))) (ea:σ[i]?=some (some (.ref a))) (hm:a∈M) (ha:H a=some (.lst xs)) (r:RepL K H (Ad B H M (lc fl)) us ys):
  Sl K B fl Ex σ (ρ.set i (some (.lst us))) M (upd H a (.lst ys)):=
 Sl.writeC rfl rfl (fun _ _ _=>rfl) (fun _ _ _=>rfl) (c:=0) (us':=us) S h0 e0 ⟨rfl,rfl⟩ rfl hm ha (fun v ga q e=>by
  rw[ea] at e;have h1:V.ref a=v:=aIo (aIo e);have h2:v=V.ref (ga 0):=q;exact⟨(V.ref.inj (h1.trans h2)).symm,h2⟩) (fun d ws h=>.inl h) r
theorem Sl.fewer {ps:List (T × V)}(S:Sl K B fl (ps++Ex) σ ρ M H):Sl K B fl Ex σ ρ M H:=⟨S.same,S.slot,S.mu,fun q hq=>S.ex q (aKh _ hq),S.mB,S.len⟩
theorem Sl.plus {ps:List (T × V)}(S:Sl K B fl Ex σ ρ M H) (r:∀ p∈ps,Rep K H (Ad B H M 1) p.1 p.2):Sl K B fl (ps++Ex) σ ρ M H:=⟨S.same,S.slot,S.mu,fun q hq=>by
 rcases aKf.mp hq with hq | hq
 ·exact r q hq
 ·exact S.ex q hq,S.mB,S.len⟩
end
section
variable {X:Cx}{B:Hp}{fl:List Nat}{n n':Bool}{l l':Nat}{st:Stmt}{rest body els:List Stmt}{r r1 r2:Rho->Option Out}{e c:Expr}{f g:Rho->Option T}{p:Rho->Option Bool}{pos pos':Pos}{i:Nat}{x:Str}
theorem bW:GSs X B fl n l [] aQ:=uZ DL fun D σ H ⟨Ex,ρ,M,o,S,hr,q⟩=>by
 cases (aIo hr);exact q σ M H S
theorem aK (h1:GS X B fl n l st r1) (h2:GSs X B fl n l rest r2):GSs X B fl n l (st::rest) (aH r1 r2):=by
 refine uZ (yW h1 h2) ?_;rintro D σ H ⟨Ex,ρ,M,o,S,hr,q⟩;obtain⟨o1,h1,hr⟩:=bind_some hr;refine⟨Ex,ρ,M,o1,S,h1,?_⟩;cases o1 with
 | nx ρ'=>exact fun σ' M' H' S'=>⟨Ex,ρ',M',o,S',hr,q⟩
 | rt t=>cases (aIo hr);exact q
 | bk ρ'=>cases (aIo hr);exact q
 | ct ρ'=>cases (aIo hr);exact q
theorem aL (h1:GS X B fl n l st r1):GSs X B fl n l [st] r1:=LK h1
theorem aR (i:Nat) (he:GE X B fl e f n' l') (hN:X.N.Nodup) (hi:X.N[i]?=some x) (hx:Loc X.env.scope x) (hfl:(decide (i<fl.length)&&decide (1<=fl.getD i 1)&&decide (fl.getD i 1<=l'))=true)
  (hs:swapsWith e (some (.Name x pos')) pos.line X.env=pure false:=by rfl) (hf:X.fn x=true\/X.env.scope.names.lookup x=some .local:=by first | exact .inl rfl | exact .inr rfl | assumption):
  GS X B fl n l (.Assign [.Name x pos'] e pos) (aJ i f):=by
 refine dS (DK hN hi hx he hs hf) ?_;rintro D σ H ⟨Ex,ρ,M,o,S,hr,q⟩;simp only[aJ1,decide_eq_true_eq] at hfl;unfold aJ at hr;cases e1:f ρ with
 | none=>rw[e1] at hr;cases hr
 | some t=>
  rw[e1] at hr;cases (aIo hr);refine⟨Ex,ρ,M,t,S,e1,fun v H1 s1 rx=>q _ M H1 ((S.grow s1).set hfl.1.1 (.inl hfl.1.2) ?_)⟩;exact (rx.rep S).weak fun b x=>⟨fun z=>x.1 (by omega),fun z=>x.2.1 (by omega),fun z=>by omega⟩
theorem MN {ρ:Rho}{σ:St}{H H1:Hp}{M:List Addr}{Ex:List (T × V)}{t:T}{v:V}{o:Out}{D:Ends}(S:Sl X.K B fl Ex σ ρ M H) (hfl:i<fl.length/\fl.getD i 1=0/\lc fl<=l')
  (hr:(if okM t then some (Out.nx (ρ.set i (some t))) else none)=some o) (q:EO X.K B fl n l Ex D o) (s1:aZ H H1) (rx:aX X.K B H M H1 true l' t v):D.nx (σ.set i (some v)) H1:=by
 split at hr
 rotate_left
 ·cases hr
 rename_i hok;cases (aIo hr)
 by_cases hl:∃ ts,t=.lst ts
 ·obtain⟨ts,rfl⟩:=hl
  obtain⟨a,xs,rfl,h1,h2,h3⟩:=rx;exact q _ _ H1 (S.setM hfl.1 hfl.2.1 s1 h1 h2 (h3.weak fun b x=>⟨x.1.le hfl.2.2,x.2⟩))
 ·have him:im t=true:=by
   cases t with
   | lst ts=>exact absurd ⟨ts,rfl⟩ hl
   | non=>exact hok
   | bl _=>exact hok
   | int _=>exact hok
   | str _=>exact hok
   | tup _=>exact hok
   | exc _=>exact hok
   | dct _=>exact hok
   | own _=>exact hok
  exact q _ _ H1 ((S.grow s1).set hfl.1 (.inr him) (sM t him (rx.rep S)))
theorem rX (i:Nat) (he:GE X B fl e f true l') (hN:X.N.Nodup) (hi:X.N[i]?=some x) (hx:Loc X.env.scope x) (hfl:(decide (i<fl.length)&&decide (fl.getD i 1=0)&&decide (lc fl<=l'))=true)
  (hs:swapsWith e (some (.Name x pos')) pos.line X.env=pure false:=by rfl) (hf:X.fn x=true\/X.env.scope.names.lookup x=some .local:=by first | exact .inl rfl | exact .inr rfl | assumption):
  GS X B fl n l (.Assign [.Name x pos'] e pos) (fP i f):=by
 refine dS (DK hN hi hx he hs hf) ?_;rintro D σ H ⟨Ex,ρ,M,o,S,hr,q⟩;simp only[aJ1,decide_eq_true_eq,and_assoc] at hfl;obtain⟨t,e1,hr⟩:=bind_some hr;exact⟨Ex,ρ,M,t,S,e1,fun v H1 s1 rx=>MN S hfl hr q s1 rx⟩
section
variable {elt iter:Expr}{x0:Str}{p0 cpos:Pos}{ifs:List Expr}{scope:Scope}{N':List Str}{src:List (Option Nat)}{fl':List Nat}{fi:Rho->Option (List T)}{li:Nat}{sc:Bool}{spos:Pos}
theorem XW (i:Nat) (S:BlkOk X scope N' src) (F:FlOk X N' src fl fl' li sc) (hc:X.calm=true) (hi:GI X B fl (.Name x0 p0) iter fi li sc) (hN0:N'[0]?=some x0) (hx0:uV (scope.names.lookup x0)=true)
  (hb:∀ cl C s H ex,GIf (cxB X scope N' cl C s H ex) B fl' ifs p/\GE (cxB X scope N' cl C s H ex) B fl' elt f n' l') (hN:X.N.Nodup) (hiN:X.N[i]?=some x) (hx:Loc X.env.scope x) (hfl:(decide (i<fl.length)&&decide (1<=fl.getD i 1)&&decide (fl.getD i 1<=l')&&decide (1<=l'))=true)
  (hsw:swapsWith (.ListComp elt [⟨.Name x0 p0,iter,ifs,0⟩] scope cpos) (some (.Name x pos')) spos.line X.env=pure true:=by rfl)
  (hs:∀ x,foldedSetIterable iter X.env x=pure x:=by intro _;rfl) (hf:X.fn x=true\/X.env.scope.names.lookup x=some .local:=by first | exact .inl rfl | exact .inr rfl | assumption):
  GS X B fl n l (.Assign [.Name x pos'] (.ListComp elt [⟨.Name x0 p0,iter,ifs,0⟩] scope cpos) spos) (aJ i (cE fi src p f)):=by
 refine dS (IW S hc hi F.nd hN0 hx0 hb hN hiN hx hsw hs hf) ?_;rintro D σ H ⟨Ex,ρ,M,o,S,hr,q⟩;simp only[aJ1,decide_eq_true_eq] at hfl;unfold aJ at hr;cases e1:cE fi src p f ρ with
 | none=>rw[e1] at hr;cases hr
 | some t=>
  rw[e1] at hr;cases (aIo hr);refine BG F hfl.2 ⟨Ex,ρ,M,t,S,e1,fun v H1 s1 rx=>q _ M H1 ((S.grow s1).set hfl.1.1.1 (.inl hfl.1.1.2) ?_)⟩;exact (rx.rep S).weak fun b x=>⟨fun z=>x.1 (by omega),fun z=>x.2.1 (by omega),fun z=>by omega⟩
theorem CJ (i:Nat) (S:BlkOk X scope N' src) (F:FlOk X N' src fl fl' li sc) (hc:X.calm=true) (hi:GI X B fl (.Name x0 p0) iter fi li sc) (hN0:N'[0]?=some x0) (hx0:uV (scope.names.lookup x0)=true)
  (hb:∀ cl C s H ex,GIf (cxB X scope N' cl C s H ex) B fl' ifs p/\GE (cxB X scope N' cl C s H ex) B fl' elt f n' l') (hN:X.N.Nodup) (hiN:X.N[i]?=some x) (hx:Loc X.env.scope x) (hfl:(decide (i<fl.length)&&decide (fl.getD i 1=0)&&decide (lc fl<=l'))=true)
  (hsw:swapsWith (.ListComp elt [⟨.Name x0 p0,iter,ifs,0⟩] scope cpos) (some (.Name x pos')) spos.line X.env=pure true:=by rfl)
  (hs:∀ x,foldedSetIterable iter X.env x=pure x:=by intro _;rfl) (hf:X.fn x=true\/X.env.scope.names.lookup x=some .local:=by first | exact .inl rfl | exact .inr rfl | assumption):
  GS X B fl n l (.Assign [.Name x pos'] (.ListComp elt [⟨.Name x0 p0,iter,ifs,0⟩] scope cpos) spos) (fP i (cE fi src p f)):=by
 refine dS (IW S hc hi F.nd hN0 hx0 hb hN hiN hx hsw hs hf) ?_;rintro D σ H ⟨Ex,ρ,M,o,S,hr,q⟩;simp only[aJ1,decide_eq_true_eq,and_assoc] at hfl;obtain⟨t,e1,hr⟩:=bind_some hr;exact BG F (by have:=hfl.2.2;have:=kS fl;omega) ⟨Ex,ρ,M,t,S,e1,fun v H1 s1 rx=>MN S hfl hr q s1 rx⟩
end
theorem bV (hc:GT X B fl c p) (ha:GSs X B fl n l body r1) (hb:GSs X B fl n l els r2):GS X B fl n l (.If c body els pos) (rIf p r1 r2):=by
 refine dS (DJ hc ha hb) ?_;rintro D σ H ⟨Ex,ρ,M,o,S,hr,q⟩;obtain⟨b,hb,hr⟩:=bind_some hr;refine⟨Ex,ρ,M,b,S,hb,fun H1 s1=>?_⟩;cases b with
 | true=>exact hU ⟨Ex,ρ,M,o,S.grow s1,hr,q⟩
 | false=>exact hG ⟨Ex,ρ,M,o,S.grow s1,hr,q⟩
theorem aE7 {ρ:Rho}{σ:St}{H H1:Hp}{M:List Addr}{Ex:List (T × V)}{t:T}{v:V}(S:Sl X.K B fl Ex σ ρ M H) (h:(n=true->n'=true)/\(l=0\/2<=l')) (rx:aX X.K B H M H1 n' l' t v):aX X.K B B [] H1 n l t v:=by
 have ad:∀ b,Ad B H M l' b->Ad B B [] l b:=fun b x=>⟨fun _ z=>by simp at z,fun z=>x.2.1 (by omega),fun z=>x.2.1 (by omega)⟩;cases n with
 | false=>cases t<;>exact (rx.rep S).weak ad
 | true=>
  have e:=h.1 rfl;subst e;cases t with
  | lst ts=>
   obtain⟨a,xs,e,h1,h2,h3⟩:=rx;exact⟨a,xs,e,S.same.free h1,h2,h3.weak fun b x=>⟨ad b x.1,x.2⟩⟩
  | non=>exact rx
  | bl _=>exact rx
  | int _=>exact rx
  | str _=>exact rx
  | tup _=>exact Rep.weak ad rx
  | exc _=>exact rx
  | dct _=>exact Rep.weak ad rx
  | own _=>exact Rep.weak ad rx
theorem yD (i:Nat) {apos p2:Pos}(he:GE X B fl e f n' l') (h1:(decide (fl.getD i 1=0)&&decide (lc fl<=l'))=true) (hN:X.N[i]?=some x:=by rfl) (hv:Vis X.env.scope x:=by first | exact Or.inl rfl | exact Or.inr (Or.inl rfl) | exact Or.inr (Or.inr rfl))
  (hd:(x == ("__debug__" : Str))=false:=by decide) (hcd:(x == ("__classdict__" : Str))=false:=by decide)
  (hbase:attributeBase (.Name x p2) "append" X.env (eval (.Name x p2) X.env)=eval (.Name x p2) X.env:=by rfl)
  (hfew:((backTo pos' (starEach [e] X.env)).all (fun x=>!x.1)&&(backToKw pos' (keywordEach [] X.env)).all (fun x=>x.1.isSome)
   && decide (([e]:List Expr).length+([]:List Keyword).length+(if ([]:List Keyword).isEmpty then 0 else 1)<30))=true:=by rfl)
  (hline:(apos.endLine == pos'.line)=true:=by rfl) (hs:starEach [e] X.env=[(false,eval e X.env)]:=by rfl) (hsw:swapsWith (.Call (.Attribute (.Name x p2) "append" apos) [e] [] pos') none pos.line X.env=pure false:=by rfl):
  GS X B fl n l (.Expr (.Call (.Attribute (.Name x p2) "append" apos) [e] [] pos') pos) (sJ i f):=by
 simp only[aJ1,decide_eq_true_eq] at h1;have lcl:=hV fl;have lcp:=kS fl;refine dS (sI (uW PySem.F.plainAttrs_list PySem.F.slot_list_append PySem.F.type_list_append KC (pv (X:=X) i hN hv hd hcd) (eP he jR hs) hbase hfew hline hs rfl) hsw) ?_;rintro D σ H ⟨Ex,ρ,M,o,S,hr,q⟩;obtain⟨t,e1,hr⟩:=bind_some hr;obtain⟨y,e2,hr⟩:=bind_some hr;cases t<;>first | (cases hr;done) | skip
 dsimp only at hr;split at hr
 ·rename_i hl
  cases (aIo hr);have e1':=gC e1;obtain⟨a,ts,xs,e3,e4,e5,e6,e7⟩:=S.muL i _ e1' h1.1;cases e3;refine⟨_,e4,.inl ⟨rfl,xs,SqL.of e5⟩,?_⟩;refine⟨Ex,ρ,M,y,S,e2,fun v H1 s1 rx=>?_⟩;refine⟨a,xs,v,rfl,rfl,s1 _ _ e5,by rw[<- e6.length];exact gU (aKu hl),?_⟩;refine q σ M _ ((S.grow s1).write h1.1 e1' e4 e7 (s1 _ _ e5) (RepL.app ((e6.grow s1).weak fun b x=>x.any (by omega)) (RepL.one ((rx.rep S).weak fun b x=>?_))));exact⟨fun z=>x.1 (by omega),fun z=>x.2.1 (by omega),fun z=>by omega⟩
 ·cases hr
theorem rW (i:Nat) {k:Expr}{fk:Rho->Option T}{nk:Bool}{lk:Nat}{p2 p3:Pos}(he:GE X B fl e f n' l') (hk:GE X B fl k fk nk lk) (h1:(decide (fl.getD i 1=0)&&decide (lc fl<=l'))=true) (hN:X.N[i]?=some x:=by rfl)
  (hv:Vis X.env.scope x:=by first | exact Or.inl rfl | exact Or.inr (Or.inl rfl) | exact Or.inr (Or.inr rfl))
  (hd:(x == ("__debug__" : Str))=false:=by decide) (hcd:(x == ("__classdict__" : Str))=false:=by decide)
  (ha:∀ v,assign (.Subscript (.Name x p2) k p3) X.env v=(do
   let ov <- holding [v] (eval (.Name x p2) X.env)
   let iv <- holding [v,ov] (eval k X.env)
   standAt p3
   holding [v,ov,iv] (setItem ov iv v)
   release [v,ov,iv] []):=by intro _;rfl)
  (hs:swapsWithSole [.Subscript (.Name x p2) k p3] e pos.line X.env=pure false:=by rfl) (hw:swappedStores [.Subscript (.Name x p2) k p3] e X.env=pure none:=by rfl)
  (h2:(assignEach [.Subscript (.Name x p2) k p3] X.env).map (·.2)=[assign (.Subscript (.Name x p2) k p3) X.env]:=by rfl):
  GS X B fl n l (.Assign [.Subscript (.Name x p2) k p3] e pos) (cY i fk f):=by
 simp only[aJ1,decide_eq_true_eq] at h1;have lcl:=hV fl;have lcp:=kS fl;refine dS (DI he (LD (pv (X:=X) i hN hv hd hcd) hk MR ha) hs hw h2) ?_;rintro D σ H ⟨Ex,ρ,M,o,S,hr,q⟩;obtain⟨y,e2,hr⟩:=bind_some hr;obtain⟨t,e1,hr⟩:=bind_some hr;obtain⟨kk,ek,hr⟩:=bind_some hr;have ht2:∃ ts j,t=.lst ts/\kk=.int j:=by
  cases t<;>first | (cases hr;done) | skip
  cases kk<;>first | (cases hr;done) | exact⟨_,_,rfl,rfl⟩
 obtain⟨ts,j,rfl,rfl⟩:=ht2;dsimp only at hr;cases ej:ixN ts.length j with
 | none=>rw[ej] at hr;cases hr
 | some j'=>
  rw[ej] at hr;cases (aIo hr);have e1':=gC e1;refine⟨Ex,ρ,M,y,S,e2,fun v H1 s1 rx=>?_⟩;obtain⟨a,ts',xs,e3,e4,e5,e6,e7⟩:=S.muL i _ e1' h1.1;cases e3;refine⟨_,e4,?_⟩;refine⟨Ex,ρ,M,_,S.grow s1,ek,fun vk H2 s2 rk=>?_⟩;have S2:=S.grow (s1.trans s2);refine⟨a,xs,j,j',rfl,(aX.scal rfl).mp rk,(s1.trans s2) _ _ e5,by rw[<- e6.length];exact ej,?_⟩;refine q σ M _ (S2.write h1.1 e1' e4 e7 ((s1.trans s2) _ _ e5) (RepL.set j' ((rx.rep S).grow s2 |>.weak fun b x=>?_) ((e6.grow (s1.trans s2)).weak fun b x=>x.any (by omega))));exact⟨fun z=>x.1 (by omega),fun z=>x.2.1 (by omega),fun z=>by omega⟩
theorem dZ (j:Nat) {iter:Expr}{fi:Rho->Option (List T)}{li:Nat}{sc:Bool}{tpos:Pos}(hp:PassesOwn (model X.prog X.w) X.A X.env X.xe) (hc:X.calm=true) (hi:GI X B fl (.Name x tpos) iter fi li sc) (hN:X.N.Nodup) (hj:X.N[j]?=some x) (hx:Loc X.env.scope x)
  (hb:GSs X B fl n l body r) (hfl:(decide (j<fl.length)&&decide (fl.getD j 1=1)&&decide (1<=li))=true)
  (hs:∀ x,foldedSetIterable iter X.env x=pure x:=by intro _;rfl) (hf:X.fn x=true\/X.env.scope.names.lookup x=some .local:=by first | exact .inl rfl | exact .inr rfl | assumption):
  GS X B fl n l (.For (.Name x tpos) iter body [] pos) (dL j fi r):=by
 simp only[aJ1,decide_eq_true_eq,and_assoc] at hfl;refine dS (LJ hp hc hi (yV hN hj hx hf) hb hs) ?_;rintro D σ H ⟨Ex,ρ,M,o,S,hr,q⟩;obtain⟨ts,hts,hr⟩:=bind_some hr;refine⟨Ex,ρ,M,ts,S,hts,fun J H1 ps s1 rp wk=>?_⟩;refine⟨fun i m σ1 H2=>m=ts.length-i/\i<=ts.length/\∃ ρ1 M1,Sl X.K B fl (ps++Ex) σ1 ρ1 M1 H2/\cF j r (ts.drop i) ρ1=some o,⟨ts.length,by simp,aLf _,ρ,M,(S.grow s1).plus (fun p hp=>(rp p hp).weak fun b x=>⟨fun z=>x.1 (by omega),fun z=>by omega,fun z=>by omega⟩),hr⟩,?_⟩;rintro i m σ1 H2 ⟨rfl,hi,ρ1,M1,S1,e1⟩;have w:=wk H2 _ (fun p hp=>S1.ex p (aKg _ hp)) i
 by_cases hlt:i<ts.length
 ·have et:ts[i]?=some ts[i]:=aIq hlt
  obtain⟨go,yl⟩:=w.1 _ et;rw[aJn hlt] at e1;unfold cF at e1;obtain⟨o1,h1,e1⟩:=bind_some e1;refine .inr ⟨go,fun σ' H'=>∃ ρ1 M1,Sl X.K B fl (ps++Ex) σ' ρ1 M1 H'/\cF j r (ts.drop (i+1)) ρ1=some o,fun σ' H' ⟨ρ',M',S',e'⟩=>⟨ts.length-(i+1),by omega,rfl,hlt,ρ',M',S',e'⟩,fun y H3 hy=>?_⟩;obtain⟨s23,ry⟩:=yl y H3 hy;have ry':Rep X.K H3 (Ad B H3 M1 (min (fl.getD j 1) 2)) ts[i] y:=ry.weak fun c hc=>by
   obtain⟨_,hc⟩:=hc;rcases hc with hc | hc
   ·exact⟨fun z=>hc.1 (aKv _),fun z=>by omega,fun z=>by omega⟩
   ·exact⟨fun _ z=>(S1.mB c z).2 hc,fun z=>by omega,fun z=>by omega⟩
  refine⟨ps++Ex,_,M1,o1,(S1.grow s23).set hfl.1 (.inl (by omega)) ry',h1,?_⟩;cases o1 with
  | nx ρ'=>exact fun σ' M' H' S'=>⟨ρ',M',S',e1⟩
  | ct ρ'=>exact fun σ' M' H' S'=>⟨ρ',M',S',e1⟩
  | bk ρ'=>cases (aIo e1);exact fun σ' M' H' S'=>q σ' M' H' S'.fewer
  | rt t=>cases (aIo e1);exact q
 ·have ei:i=ts.length:=by omega
  subst ei;rw[List.drop_eq_nil_of_le (aKv _)] at e1;cases (aIo (show some (Out.nx ρ1)=some o from e1));exact .inl ⟨w.2 (aKv _),q σ1 M1 H2 S1.fewer⟩
end
def spT (K:PySem.W.Frag) (F:List T->Option T) (n:Bool) (l:Nat):Sp:=fun vs H Q _=>
 ∃ ts t,RepL K H (fun _=>True) ts vs/\F ts=some t/\∀ v H',aZ H H'->aX K H H [] H' n l t v->Q v H'
structure Cal (P:Program) (w:World) (K:PySem.W.Frag) (mg:Str->Option Value) (base:Heap) (x:Str) (k:Nat) (ps:List Str) (F:List T->Option T) (n:Bool) (l:Nat):Prop where
 ex:∃ f fd,FnOk P w K mg base CX0 k f fd ps (spT K F n l)/\mg x=some (.ref f)/\PySem.W.keepIn K (.ref f)=true/\mN K fd ps []
section
variable {X:Cx}{B:Hp}{fl:List Nat}{e:Expr}{es:List Expr}{f:Rho->Option T}{fa:Rho->Option (List T)}{n n':Bool}{l l' k:Nat}{pos p':Pos}{x:Str}{ps:List Str}{F:List T->Option T}
theorem aX.called {K:PySem.W.Frag}{H H1 H2:Hp}{Ex:List (T × V)}{σ:St}{ρ:Rho}{M:List Addr}{t:T}{v:V}(S:Sl K B fl Ex σ ρ M H) (s1:aZ H H1) (hl:l=0\/l=3) (r:aX K H1 H1 [] H2 n l t v):aX K B H M H2 n l t v:=by
 have S1:=S.grow s1;have ad:∀ b,Ad H1 H1 [] l b->Ad B H M l b:=fun b x=>by
  rcases hl with rfl | rfl
  ·exact Ad.zero
  ·have hn:=x.2.2 (by lia)
   exact⟨fun _ z=>(S1.mB b z).2 hn,fun _=>S1.same.free hn,fun _=>s1.free hn⟩
 cases n with
 | false=>cases t<;>exact Rep.weak ad r
 | true=>
  cases t with
  | lst ts=>
   obtain⟨a,xs,e,h1,h2,h3⟩:=r;exact⟨a,xs,e,s1.free h1,h2,h3.weak fun b x=>⟨ad b x.1,x.2⟩⟩
  | non=>exact r
  | bl _=>exact r
  | int _=>exact r
  | str _=>exact r
  | tup _=>exact Rep.weak ad r
  | exc _=>exact r
  | dct _=>exact Rep.weak ad r
  | own _=>exact Rep.weak ad r
theorem aO (C:Cal X.prog X.w X.K X.mg X.base x k ps F n l) (hr:Room k X.A) (hg:Gl X x) (ha:GA X B fl (e::es) fa l') (hl:(decide (l=0)||decide (l=3))=true:=by rfl) (hdb:(x == ("__debug__" : Str))=false:=by decide)
  (he:starEach (e::es) X.env=(false,eval e X.env)::starEach es X.env:=by rfl) (hpl:(backTo pos (starEach es X.env)).any (·.1)=false:=by rfl):GE X B fl (.Call (.Name x p') (e::es) [] pos) (aI fa F) n l:=by
 obtain⟨f,fd,FO,hm,hk,hb⟩:=C.ex;refine bQ (KW FO hr hg hm hk hb .nil KS ha hdb he hpl) ?_;rintro σ H Q ⟨Ex,ρ,M,t,S,hf,q⟩;obtain⟨ts,hts,hf⟩:=bind_some hf;simp only[Bool.or_eq_true,decide_eq_true_eq] at hl;refine⟨Ex,ρ,M,ts,S,hts,fun vs H1 s1 r1=>?_⟩;show spT X.K F n l (vs++[]) H1 Q E0;rw[List.append_nil];exact⟨ts,t,r1.weak fun _ _=>trivial,hf,fun v H2 s2 r2=>q v H2 (s1.trans s2) (r2.called S s1 hl)⟩
end
section
variable {P:Program}{w:World}{K:PySem.W.Frag}{mg:Str->Option Value}{base:Heap}
def FQ:Out->T->Prop
 | .rt t,u=>t=u
 | .nx _,u=>u=.non
 | _,_=>False
theorem aF0 {H:Hp}{fl:List Nat}{N ps:List Str}{ts:List T}{vs:List V}(hfl:fl.length=N.length) (hp:∀ i,i<ps.length->fl.getD i 1=1) (hl:ts.length=ps.length) (r:RepL K H (fun _=>True) ts vs) (hN:ps.length<=N.length):
  Sl K H fl [] (L2.start N vs) (ts.map some++List.replicate (N.length-ps.length) none) [] H:=by
 have hlv:=r.length;have get:∀ i t,(ts.map some++List.replicate (N.length-ps.length) none)[i]?=some (some t)->ts[i]?=some t/\i<ps.length:=fun i t e=>by
  by_cases hi:i<ts.length
  ·rw[aJt (by simpa using hi),aJx] at e
   rw[aIq hi] at e ⊢;exact⟨aIo e,by lia⟩
  ·rw[List.getElem?_append_right (by simpa using hi),aJz] at e
   split at e<;>cases e
 refine⟨aZ.refl H,fun i t e k=>?_,⟨fun _ _=>0,fun i t e k=>?_,fun i j c d t u us ws _ e _ k=>?_⟩,fun p hp=>by simp at hp,fun a ha=>by simp at ha,?_⟩
 ·obtain⟨e1,hi⟩:=get i t e
  obtain⟨v,e2,r2⟩:=r.get e1;refine⟨v,?_,r2.weak fun b _=>?_⟩
  ·unfold L2.start
   rw[aJt (by rw[aK5];lia),aJx,e2]
   rfl
  ·rw[hp i hi]
   exact⟨fun _ z=>by simp at z,fun z=>by lia,fun z=>by lia⟩
 ·obtain⟨_,hi⟩:=get i t e
  rw[hp i hi] at k;cases k
 ·obtain⟨_,hi⟩:=get i t e
  rw[hp i hi] at k;cases k
 ·unfold L2.start
  rw[hfl,aK2,aK5,aK8];lia
theorem gfn {x qual:Str}{st:Stmt}{f:Addr}{fd:FuncData}{N ps:List Str}{k:Nat}{fl:List Nat}{n:Bool}{l:Nat}{F:List T->Option T}{run:Rho->Option Out}(Fu:Fun K x qual st f fd) (S:FnScope N ps (defScope st))
  (hfl:fl.length=N.length) (hp:∀ i,i<ps.length->fl.getD i 1=1) (hlen:∀ ts t,F ts=some t->ts.length=ps.length)
  (hb:∀ (cdv:Value) (A:Around) (outer:List Env) (s:Shared) (H:Hp) (E:XK),Room k (A.deeper (envOfC qual (defScope st) s.heap.objs.size f cdv)) ->
   GSs (bA CX0 P w K mg base N qual (defScope st) f cdv A outer s H E).nox H fl n l (defBody st) run)
  (hrun:∀ ts t,F ts=some t->∃ o,run (ts.map some++List.replicate (N.length-ps.length) none)=some o/\FQ o t) (hl4:l≠4:=by decide):FnOk P w K mg base CX0 (k+1) f fd ps (spT K F n l):=by
 have hN:ps.length<=N.length:=by have:=congrArg List.length S.pre;rw[List.length_take] at this;lia
 refine Fu.ok S (fun vs H Q E h=>?_) (fun cdv A outer s H vs Q E hr h=>?_)
 ·obtain⟨ts,t,r,hf,_⟩:=h
  rw[<- r.length];exact hlen ts t hf
 ·obtain⟨ts,t,r,hf,q⟩:=h
  refine⟨_,hb cdv A outer s H E hr,?_⟩;obtain⟨o,ho,hi⟩:=hrun ts t hf;refine⟨[],_,[],o,aF0 hfl hp (hlen ts t hf) r hN,ho,?_⟩;cases o with
  | rt u=>
   cases (show u=t from hi);exact fun v H' s' r'=>q v H' s' ((RtX.of hl4).mp r')
  | nx ρ'=>
   cases (show t=.non from hi);exact fun σ' M' H' S'=>q _ H' S'.same ((aX.scal rfl).mpr rfl)
  | bk _=>exact False.elim hi
  | ct _=>exact False.elim hi
end
def NQ:T->String
 | .non => "NoneType"
 | .bl _ => "bool"
 | .int _ => "int"
 | .str _ => "str"
 | .lst _ => "list"
 | .tup _ => "tuple"
 | .exc _ => "NoneType"
 | .dct _ => "dict"
 | .own _ => "list"
def yF (c:String):T->Bool
 | .non=>c == "NoneType"
 | .bl _=>c == "bool" || c == "int"
 | .int _=>c == "int"
 | .str _=>c == "str"
 | .lst _=>c == "list"
 | .tup _=>c == "tuple"
 | .exc _=>c == "NoneType"
 | .dct _=>c == "dict"
 | .own _=>c == "list"
def FN (c:String):Prop:=(∀ (K:PySem.W.Frag) (t:T),PySem.W.kitOne K (.type (NQ t)) (.type c)=some (yF c t))/\c∈(["int","bool","list","tuple","str"]:List String)
theorem YO:FN "bool" := ⟨by intro K t;cases t<;>rfl,by simp⟩
section
variable {X:Cx}{B:Hp}{fl:List Nat}{e:Expr}{es:List Expr}{f:Rho->Option T}{fa:Rho->Option (List T)}{n n':Bool}{l l' k:Nat}{pos p' p2:Pos}{x:Str}{ps:List Str}{F:List T->Option T}
theorem YN {pins:List (Addr × Obj)}{σ:St}{H:Hp}{s:Shared}{A:Around}{E:Value->Shared->Prop}{Q:Value->Shared->Prop}{c:Value}{b:Bool}{Ad:Addr->Prop}{t:T}{v:V}{u:Value}(I:Inv X pins σ H s) (r:Rep X.K H Ad t v) (rx:bK v u)
  (e:PySem.W.kitOne X.K (.type (NQ t)) c=some b) (hx:∀ nm C,t=.exc nm->EQ X.K nm C->PySem.W.kitOne X.K (.ref C) c=some b) (h:∀ tk,Q (.bool b) { s with toks:=tk }):wpAny (model X.prog X.w) A (call (.builtin "isinstance") [u,c]) Q E s:=by
 cases t with
 | non=>cases (show _=_ from r);cases rx;exact aLk PySem.W.kitx_none I.kIn True.intro e (fun z=>nomatch z) h
 | bl y=>cases (show _=_ from r);cases rx;exact aLk PySem.W.kitx_bool I.kIn True.intro e (fun z=>nomatch z) h
 | int y=>cases (show _=_ from r);obtain⟨k,rfl⟩:=rx;exact aLk PySem.W.kitx_int I.kIn True.intro e (fun z=>nomatch z) h
 | str y=>cases (show _=_ from r);obtain⟨k,rfl⟩:=rx;exact aLk PySem.W.kitx_str I.kIn True.intro e (fun z=>nomatch z) h
 | lst ts=>
  obtain⟨a,xs,rfl,h1,h2⟩:=r.sqL;cases rx;obtain⟨its,_,⟨o,m,h3,h4,_,_⟩,_⟩:=I.list h1;exact aLk PySem.W.kitx_list I.kIn ⟨o,h3,h4⟩ e (fun z=>nomatch z) h
 | own ts=>
  obtain⟨a,xs,rfl,_,h1,h2⟩:=r;cases rx;obtain⟨its,_,⟨o,m,h3,h4,_,_⟩,_⟩:=I.list (SqL.of h1);exact aLk PySem.W.kitx_list I.kIn ⟨o,h3,h4⟩ e (fun z=>nomatch z) h
 | tup ts=>
  obtain⟨a,xs,rfl,h1,h2⟩:=r.sqT;cases rx;obtain⟨its,_,⟨o,h3,h4,_⟩,_⟩:=I.tuple h1;exact aLk PySem.W.kitx_tuple I.kIn ⟨o,h3,h4⟩ e (fun z=>nomatch z) h
 | exc nm=>
  obtain⟨a,C,rfl,k,h1⟩:=r;cases rx;have ho:∃ oe,s.heap.get? a=some oe/\oe.cls=.ref C:=by
   rcases h1 with h1 | ⟨o,h1⟩
   ·obtain⟨⟨oe,vs,g1,g2,_⟩,_⟩:=I.hok a _ h1
    exact⟨oe,g1,g2⟩
   ·obtain⟨_,⟨oe,vs,g1,g2,_⟩,_⟩:=I.hok a _ h1
    exact⟨oe,g1,g2⟩
  exact aLk (k.2.1 a) I.kIn ho (hx nm C rfl k) (fun z=>nomatch z) h
 | dct ks=>
  obtain⟨a,rfl,_,h1⟩:=r;cases rx;obtain⟨_,_,vs,_,ob,_,_,g1,g2,_⟩:=VZ I.hok h1;exact aLk PySem.W.kitx_dict I.kIn ⟨ob,g1,g2.1⟩ e (fun z=>nomatch z) h
def uQ (c:String):T->Option T:=fun t=>some (.bl (yF c t))
theorem XB {x y:Str}{c:String}(hx:x = "isinstance") (hc:FN c) (hg:Gl X x) (hm:X.mg x=none) (hg':Gl X y) (hm':X.mg y=none) (hv:bootBuiltins y=some (.type c)) (he:GE X B fl e f n l)
  (hn:y ≠ "__name__" := by decide) (hd:(y == ("__debug__" : Str))=false:=by decide)
  (h1:starEach [e,.Name y p2] X.env=(false,eval e X.env)::starEach [.Name y p2] X.env:=by rfl) (h2:starEach [.Name y p2] X.env=[(false,eval (.Name y p2) X.env)]:=by rfl) (hpl:(backTo pos (starEach [.Name y p2] X.env)).any (·.1)=false:=by rfl):
  GE X B fl (.Call (.Name x p') [e,.Name y p2] [] pos) (f1 f (uQ c)) true 3:=by
 subst hx;have cr:fS X (.builtin "isinstance") (fun xs H Q=>∃ v t A,xs=[v,.ty c]/\Rep X.K H A t v/\Q (.bl (yF c t)) H):=by
  intro pins s σ H xs us Q I r h;obtain⟨v,t,A,rfl,rt,q⟩:=h;obtain⟨u,w',rfl,r1,r2⟩:=NS r;cases r2;exact YN I rt r1 (hc.1 X.K t) (fun nm C e k=>by
   subst e;have:=k.2.2 c hc.2;rw[this];have hc2:=hc.2;simp only[aJ0,List.not_mem_nil,or_false] at hc2;rcases hc2 with rfl | rfl | rfl | rfl | rfl<;>rfl) fun tk=>⟨.bl _,H,I.tok tk,rfl,q⟩
 refine bQ (pB cr hg hm PyProof.Rows.boot_isinstance (eP he (eP (aCr (v:=.ty c) hg' hm' hv rfl hn hd) jR h2) h1) (by decide) (by decide) h1 hpl) ?_;rintro σ H Q ⟨Ex,ρ,M,t,S,hf,q⟩;obtain⟨u,hu,hf⟩:=bind_some hf;cases (aIo hf);exact⟨Ex,ρ,M,u,S,hu,fun v H1 s1 r1=>⟨v,u,_,rfl,r1.rep S,q _ H1 s1 ((aX.scal rfl).mpr rfl)⟩⟩
def yL:T->Option T
 | .int i=>some (.int (Builtin.Int.intBits i:Nat))
 | _=>none
theorem ZU:MtR X "int.bit_length" (fun x xs H Q=>∃ i,x=.int i/\xs=[]/\Q (.int ((Builtin.Int.intBits i:Nat):Int)) H):=by
 intro pins s σ H x xs v us Q I rx rs h;obtain⟨i,rfl,rfl,q⟩:=h;obtain⟨t,rfl⟩:=rx;cases rs;exact call_int_bit_length ⟨.int _,H,I.tok _,⟨_,rfl⟩,q⟩
theorem IN {apos:Pos}(he:GE X B fl e f n l) (hbase:attributeBase e "bit_length" X.env (eval e X.env)=eval e X.env:=by rfl) (hline:(apos.endLine == pos.line)=true:=by rfl):
  GE X B fl (.Call (.Attribute e "bit_length" apos) [] [] pos) (f1 f yL) true 3:=by
 refine bQ (KU PySem.F.plainAttrs_int slot_int_bit_length type_int_bit_length ZU he hbase hline) ?_;rintro σ H Q ⟨Ex,ρ,M,t,S,hf,q⟩;obtain⟨u,hu,hf⟩:=bind_some hf;have hi:∃ i,u=.int i:=by cases u<;>first | (cases hf;done) | exact⟨_,rfl⟩
 obtain⟨i,rfl⟩:=hi;cases (aIo hf);refine⟨Ex,ρ,M,_,S,hu,fun v H1 s1 r1=>?_⟩;cases (show v=V.int i from (aX.scal rfl).mp r1);exact⟨rfl,i,rfl,rfl,q _ H1 s1 ((aX.scal rfl).mpr rfl)⟩
theorem aC2:OpR X (binaryOp .FloorDiv) (rI (fun _ j=>0<j/\j<2^200) fun i j=>.int (i / j)):=opI fun i j _ _ _ _ _ hc q=>by
 refine floordiv_int (by omega) ?_ (.inl (PyProof.noPylong_of_log2 ?_))
 ·rw[Int.fdiv_eq_ediv_of_nonneg _ (by omega)]
  exact q
 ·have:j.natAbs.log2<200:=(Nat.log2_lt (by omega)).mpr (by omega)
  omega
end
section
variable {X:Cx}{B:Hp}{fl:List Nat}{a b:Expr}{f g:Rho->Option T}{n n':Bool}{l l':Nat}{pos:Pos}
theorem cC (ha:GE X B fl a f n l) (hb:GE X B fl b g n' l'):GE X B fl (.BinOp a .FloorDiv b pos) (f2 f g aY) true 3:=fL aC2 (rF (fun _ _ k=>by simpa using k) (fun _ _=>rfl) fun _ _=>rfl) ha hb
end
def CT:Option NameKind->Bool
 | some .local=>true
 | _=>false
def JO:Option NameKind->Bool
 | some .cell=>true
 | some .free=>true
 | _=>false
def HF (env:Env) (N N':List Str) (src:List (Option Nat)) (scope:Scope):Bool:=
 (match scope.kind with | .function=>true | _=>false) &&
 scope.names.all (fun y=>match y.2 with | .cell=>sC (scope.names.lookup y.1) | _=>true) &&
 scope.names.all (fun y=>match y.2 with | .local=>CT (scope.names.lookup y.1) | _=>true) &&
 scope.names.all (fun y=>match y.2 with | .free=>JO (env.kindOf y.1) | _=>true) &&
 (src.length == N'.length) &&
 (List.range src.length).all (fun j=>match src[j]? with | some (some i)=>(match N'[j]?,N[i]? with | some a,some b=>a == b && !CT (scope.names.lookup a) && !sC (scope.names.lookup a) | _,_=>false) | _=>true)
theorem cV {X:Cx}{scope:Scope}{N':List Str}{src:List (Option Nat)}(h:HF X.env X.N N' src scope=true):BlkOk X scope N' src:=by
 unfold HF at h;simp only[aJ1] at h;obtain⟨⟨⟨⟨⟨h1,h2⟩,h3⟩,h4⟩,h5⟩,h6⟩:=h;refine⟨?_,fun y hy e=>?_,fun y hy e=>?_,fun y hy e=>?_,fun j i e=>?_,eq_of_beq h5⟩
 ·cases q:scope.kind<;>rw[q] at h1<;>first | rfl | cases h1
 ·have:=aIu.mp h2 y hy
  rw[e] at this;exact JP this
 ·have:=aIu.mp h3 y hy
  rw[e] at this;have this:CT (scope.names.lookup y.1)=true:=this;cases q:scope.names.lookup y.1 with
  | none=>rw[q] at this;cases this
  | some k=>rw[q] at this;cases k<;>first | rfl | cases this
 ·have:=aIu.mp h4 y hy
  rw[e] at this;have this:JO (X.env.kindOf y.1)=true:=this;cases q:X.env.kindOf y.1 with
  | none=>rw[q] at this;cases this
  | some k=>rw[q] at this;cases k<;>first | exact .inl rfl | exact .inr rfl | cases this
 ·have hj:j<src.length:=(aIt.mp e).1
  have:=aIu.mp h6 j (aIv.mpr hj);rw[e] at this;dsimp only at this;cases q:N'[j]? with
  | none=>rw[q] at this;cases this
  | some a=>
   cases q2:X.N[i]? with
   | none=>rw[q,q2] at this;cases this
   | some b=>
    rw[q,q2] at this;simp only[aJ1] at this;have e1:=eq_of_beq this.1.1;subst e1;refine⟨a,rfl,rfl,fun z=>?_,fun z=>?_⟩
    ·have t2:=this.1.2
     rw[z] at t2;cases t2
    ·have t2:=this.2
     rw[z] at t2;cases t2
def uM:List Str->Bool
 | []=>true
 | x::r=>!(r.any (· == x))&&uM r
theorem fA:∀ {l:List Str},uM l=true->l.Nodup
 | [],_=>List.nodup_nil
 | x::r,h=>by
  unfold uM at h;simp only[aJ1] at h;refine aKn.mpr ⟨fun hx=>?_,fA h.2⟩;have h1:=h.1;rw[Bool.not_eq_true',List.any_eq_false] at h1;exact h1 x hx (beq_self_eq_true x)
def HG (N N':List Str) (src:List (Option Nat)) (fl fl':List Nat) (li:Nat) (sc:Bool):Bool:=
 uM N'&&(match src with | none::_=>true | _=>false)&&decide (1<=fl'.getD 0 1)&&(sc||decide (fl'.getD 0 1<=li))&&(fl'.length == src.length)&&(src.length == N'.length) &&
 (List.range src.length).all (fun j=>match src[j]? with | some (some i)=>(match N'[j]?,N[i]? with | some a,some b=>a == b | _,_=>false)&&(fl'.getD j 1 == fl.getD i 1) | _=>true)&&(decide (lc fl'<=lc fl) || !fl'.contains 0)
theorem JT {fl fl':List Nat}(h:(decide (lc fl'<=lc fl) || !fl'.contains 0)=true):lc fl'<=lc fl\/∀ j,fl'.getD j 1≠0:=by
 rcases Bool.or_eq_true_iff.mp h with h | h
 ·exact .inl (of_decide_eq_true h)
 ·refine .inr fun j z=>?_
  rw[aIp] at z;cases q:fl'[j]? with
  | none=>rw[q] at z;cases z
  | some m=>
   rw[q] at z;have z:m=0:=z;have:fl'.contains 0=true:=List.contains_iff_mem.mpr (aKl (z ▸ q));rw[this] at h;cases h
theorem eA {X:Cx}{N':List Str}{src:List (Option Nat)}{fl fl':List Nat}{li:Nat}{sc:Bool}(h:HG X.N N' src fl fl' li sc=true):FlOk X N' src fl fl' li sc:=by
 unfold HG at h;have h8:=JT (aJ2.mp h).2;simp only[aJ1,decide_eq_true_eq] at h;obtain⟨⟨⟨⟨⟨⟨⟨h1,h2⟩,h3⟩,h4⟩,h5⟩,h6⟩,h7⟩,_⟩:=h;have key:∀ j i,src[j]?=some (some i)->(∃ a,N'[j]?=some a/\X.N[i]?=some a)/\fl'.getD j 1=fl.getD i 1:=fun j i e=>by
  have hj:j<src.length:=(aIt.mp e).1;have:=aIu.mp h7 j (aIv.mpr hj);rw[e] at this;dsimp only at this;simp only[aJ1] at this;refine⟨?_,eq_of_beq this.2⟩;have t1:=this.1;cases q:N'[j]? with
  | none=>rw[q] at t1;cases t1
  | some a=>
   cases q2:X.N[i]? with
   | none=>rw[q,q2] at t1;cases t1
   | some b=>
    rw[q,q2] at t1;exact⟨a,rfl,by rw[eq_of_beq t1]⟩
 refine⟨fA h1,?_,fun j i e=>(key j i e).2,h3,fun z=>by simpa [z] using h4,fun j i e=>?_,eq_of_beq h5,h8⟩
 ·cases src with
  | nil=>cases h2
  | cons o r=>cases o<;>first | rfl | cases h2
 ·obtain⟨⟨a,e1,e2⟩,_⟩:=key j i e
  refine⟨e1.trans e2.symm,?_⟩;exact (aIt.mp e1).1
theorem ZM {l:PySem.W.OpenLaw}{q:Program}{loose:List Str}{XP:(Str->Option Value)->Heap->Prop}{YP:World->Heap->Prop}{d:DefRec}{K:Params->PySem.W.Frag}{k:Nat}{F0:List T->Option T}{n:Bool}{lv:Nat}(hr:Room k callerA) (hn:l.most=some 63) (hdf:d.params.defaults=[])
  (hY:∀ (w:World) (h:Heap),YP w h->(K w.params).In h)
  (F:∀ (w:World) (mg:Str->Option Value) (fa:Addr) (h:Heap),(K w.params).In h->h.Ns mainGlobals mg->mg d.name=some (.ref fa) ->
   ∃ fd:FuncData,(∀ (s:Shared) (u:Value),BindsTo s fd ⟨[u],[]⟩ [("script",u)])/\∀ base:Heap,(K w.params).In base->base.Ns mainGlobals mg->FnOk l.prog w (K w.params) mg base CX0 k fa fd ["script"] (spT (K w.params) F0 n lv))
  (ht:∀ ns:List Int,ns.length<=63->F0 [.lst (ns.map T.int)]=some (.bl true)):
  PySem.W.WalkO q loose XP YP l.row.toRowW d [] (fun f vs=>PySem.call f vs):=by
 refine L2.walk_of (n:=63) (k:=k) (x := "script") (CX:=fun _=>CX0) (sp:=fun w=>spT (K w.params) F0 n lv) hn (by decide) hdf hr hY F (fun w H a ns hl _ hS=>?_) fun _ _ _ _ _ z=>z;have ri:∀ ns:List Int,RepL (K w.params) H (fun _=>True) (ns.map T.int) (ns.map V.int):=fun ns=>by
  induction ns with
  | nil=>exact rfl
  | cons a r ih=>exact⟨_,_,rfl,rfl,ih⟩
 refine⟨[.lst (ns.map T.int)],.bl true,⟨.ref a,[],rfl,⟨a,ns.map V.int,rfl,?_,ri ns⟩,rfl⟩,ht ns hl,fun v H' _ r=>(aX.scal rfl).mp r⟩;rcases hS with hS | hS
 ·exact .inl ⟨trivial,hS⟩
 ·exact .inr hS
@[simp] theorem jn {α:Type} (x:Option α):(some x).join=x:=by cases x<;>rfl
@[simp] theorem fVar_at (i:Nat) (ρ:Rho):aA i ρ=(ρ[i]?).join:=id rfl
@[simp] theorem fC_at (t:T) (ρ:Rho):fC t ρ=some t:=id rfl
@[simp] theorem f1_at (f:Rho->Option T) (F:T->Option T) (ρ:Rho):f1 f F ρ=(f ρ).bind F:=id rfl
@[simp] theorem f2_at (f g:Rho->Option T) (F:T->T->Option T) (ρ:Rho):f2 f g F ρ=(f ρ).bind fun x=>(g ρ).bind fun y=>F x y:=id rfl
@[simp] theorem aNil_at (ρ:Rho):aF ρ=some []:=id rfl
@[simp] theorem aCons_at (f:Rho->Option T) (g:Rho->Option (List T)) (ρ:Rho):aC f g ρ=(f ρ).bind fun x=>(g ρ).bind fun y=>some (x::y):=id rfl
@[simp] theorem fCall_at (fa:Rho->Option (List T)) (F:List T->Option T) (ρ:Rho):aI fa F ρ=(fa ρ).bind F:=id rfl
@[simp] theorem fB_at (f:Rho->Option T) (ρ:Rho):fB f ρ=(f ρ).bind isB:=id rfl
@[simp] theorem fT_at (f:Rho->Option T) (ρ:Rho):fT f ρ=(f ρ).bind mJ:=id rfl
@[simp] theorem fFL_at (f:Rho->Option T) (ρ:Rho):fFL f ρ=(f ρ).bind gD:=id rfl
@[simp] theorem pNot_at (p:Rho->Option Bool) (ρ:Rho):eG p ρ=(p ρ).map (!·):=id rfl
@[simp] theorem pAnd_at (p q:Rho->Option Bool) (ρ:Rho):eO p q ρ=(p ρ).bind fun b=>if b then q ρ else some false:=id rfl
@[simp] theorem pOr_at (p q:Rho->Option Bool) (ρ:Rho):pOr p q ρ=(p ρ).bind fun b=>if b then some true else q ρ:=id rfl
@[simp] theorem pYes_at (ρ:Rho):bE ρ=some true:=id rfl
@[simp] theorem vAnd_at (f g:Rho->Option T) (ρ:Rho):xH f g ρ=((f ρ).bind isB).bind fun b=>if b then g ρ else some (.bl false):=id rfl
@[simp] theorem fIf_at (p:Rho->Option Bool) (f g:Rho->Option T) (ρ:Rho):fIf p f g ρ=(p ρ).bind fun b=>if b then f ρ else g ρ:=id rfl
@[simp] theorem fLst_at (fa:Rho->Option (List T)) (ρ:Rho):cO fa ρ=(fa ρ).bind fun ts=>if ts.length<=cap then some (.lst ts) else none:=id rfl
@[simp] theorem fTup_at (fa:Rho->Option (List T)) (ρ:Rho):bP fa ρ=(fa ρ).bind fun ts=>if ts.length<=cap then some (.tup ts) else none:=id rfl
@[simp] theorem fRange_at (fa:Rho->Option (List T)) (o:List T->Option (List T)) (ρ:Rho):cH fa o ρ=(fa ρ).bind o:=id rfl
@[simp] theorem fComp_at (fi:Rho->Option (List T)) (src:List (Option Nat)) (p:Rho->Option Bool) (f:Rho->Option T) (ρ:Rho):cE fi src p f ρ =
 (fi ρ).bind fun ts=>(bN p f (bR src ρ) ts).bind fun us=>if us.length<=cap then some (.lst us) else none:=id rfl
@[simp] theorem oNone_at (ρ:Rho):yP ρ=some none:=id rfl
@[simp] theorem oSome_at (f:Rho->Option T) (ρ:Rho):yQ f ρ=((f ρ).bind isI).map some:=id rfl
@[simp] theorem fSlice_at (f:Rho->Option T) (lo hi st:Rho->Option (Option Int)) (ρ:Rho):BS f lo hi st ρ=(f ρ).bind fun x=>(lo ρ).bind fun a=>(hi ρ).bind fun b=>(st ρ).bind fun c=>
 match x with
 | .lst ts=>if c=some 0 then none else some (.lst (eI ts a b c))
 | _=>none:=id rfl
@[simp] theorem rNext_at (ρ:Rho):aQ ρ=some (.nx ρ):=id rfl
@[simp] theorem rSeq_at (r1 r2:Rho->Option Out) (ρ:Rho):aH r1 r2 ρ=(r1 ρ).bind fun o=>match o with | .nx ρ'=>r2 ρ' | o=>some o:=id rfl
@[simp] theorem rSet_at (i:Nat) (f:Rho->Option T) (ρ:Rho):aJ i f ρ=(f ρ).map fun t=>.nx (ρ.set i (some t)):=id rfl
@[simp] theorem rSetM_at (i:Nat) (f:Rho->Option T) (ρ:Rho):fP i f ρ=(f ρ).bind fun t=>if okM t then some (.nx (ρ.set i (some t))) else none:=id rfl
@[simp] theorem okM_lst (ts:List T):okM (.lst ts)=true:=rfl
@[simp] theorem okM_non:okM .non=true:=rfl
@[simp] theorem rIf_at (p:Rho->Option Bool) (r1 r2:Rho->Option Out) (ρ:Rho):rIf p r1 r2 ρ=(p ρ).bind fun b=>if b then r1 ρ else r2 ρ:=id rfl
@[simp] theorem rRet_at (f:Rho->Option T) (ρ:Rho):aV f ρ=(f ρ).map .rt:=id rfl
@[simp] theorem rApp_at (i:Nat) (f:Rho->Option T) (ρ:Rho):sJ i f ρ=(aA i ρ).bind fun t=>(f ρ).bind fun x=>match t with | .lst ts=>if ts.length<cap then some (.nx (ρ.set i (some (.lst (ts++[x]))))) else none | _=>none:=id rfl
@[simp] theorem rPut_at (i:Nat) (fi f:Rho->Option T) (ρ:Rho):cY i fi f ρ=(f ρ).bind fun x=>(aA i ρ).bind fun t=>(fi ρ).bind fun k=>match t,k with | .lst ts,.int j=>(ixN ts.length j).map fun j'=>.nx (ρ.set i (some (.lst (ts.set j' x)))) | _,_=>none:=id rfl
@[simp] theorem rFor_at (j:Nat) (fi:Rho->Option (List T)) (body:Rho->Option Out) (ρ:Rho):dL j fi body ρ=(fi ρ).bind fun ts=>cF j body ts ρ:=id rfl
@[simp] theorem oI_int (C:Int->Int->Bool) (h:Int->Int->T) (i j:Int):oI C h (.int i) (.int j)=if C i j then some (h i j) else none:=id rfl
@[simp] theorem oAdd_int (i j:Int):cA (.int i) (.int j)=some (.int (i+j)):=id rfl
@[simp] theorem oSub_int (i j:Int):cQ (.int i) (.int j)=some (.int (i-j)):=id rfl
theorem uR {i j:Int}(h:fM i j=true):bD (.int i) (.int j)=some (.int (i*j)):=by simp[bD,h]
theorem cP {i j:Int}(h:0<j) (h2:j<2^200):aY (.int i) (.int j)=some (.int (i / j)):=by simp only[aY,oI_int];rw[if_pos (by simp[h];exact h2)]
theorem bU {i j:Int}(h:0<j):aS (.int i) (.int j)=some (.int (i%j)):=by simp[aS,h]
theorem aAh {i j:Int}(h:0<=j):jQ (.int i) (.int j)=some (.int (i / 2^j.toNat)):=by simp[jQ,h]
theorem aAf {i j:Int}(h:0<=j) (h2:j<=1000000) (h3:i.natAbs<2^64):cX (.int i) (.int j)=some (.int (i*2^j.toNat)):=by simp only[cX,oI_int];rw[if_pos (by simp[h,h2];exact h3)]
@[simp] theorem oAnd_int (i j:Int):fN (.int i) (.int j)=some (.int (Builtin.bitAnd i j)):=id rfl
@[simp] theorem oOr_int (i j:Int):oOr (.int i) (.int j)=some (.int (Builtin.bitOr i j)):=id rfl
@[simp] theorem oXor_int (i j:Int):yR (.int i) (.int j)=some (.int (Builtin.bitXor i j)):=id rfl
@[simp] theorem oLt_int (i j:Int):oLt (.int i) (.int j)=some (.bl (decide (i<j))):=id rfl
@[simp] theorem oLe_int (i j:Int):oLe (.int i) (.int j)=some (.bl (decide (i<=j))):=id rfl
@[simp] theorem oGt_int (i j:Int):oGt (.int i) (.int j)=some (.bl (decide (j<i))):=id rfl
@[simp] theorem oGe_int (i j:Int):oGe (.int i) (.int j)=some (.bl (decide (j<=i))):=id rfl
@[simp] theorem isB_bl (b:Bool):isB (.bl b)=some b:=id rfl
@[simp] theorem truT_bl (b:Bool):mJ (.bl b)=some b:=id rfl
@[simp] theorem truT_int (i:Int):mJ (.int i)=some (i != 0):=id rfl
@[simp] theorem isL_lst (ts:List T):isL (.lst ts)=some ts:=id rfl
@[simp] theorem isI_int (i:Int):isI (.int i)=some i:=id rfl
@[simp] theorem gScal_int (i:Int):aN (.int i)=some (.int i):=id rfl
@[simp] theorem gScal_bl (i:Bool):aN (.bl i)=some (.bl i):=id rfl
@[simp] theorem oLen_lst (ts:List T):bS [.lst ts]=some (.int ts.length):=id rfl
@[simp] theorem oList_lst (ts:List T):fE [.lst ts]=some (.lst ts):=id rfl
@[simp] theorem oIx_lst (ts:List T) (i:Int):oIx (.lst ts) (.int i)=atI ts i:=id rfl
@[simp] theorem oInst_at (c:String) (t:T):uQ c t=some (.bl (yF c t)):=id rfl
@[simp] theorem oBits_int (i:Int):yL (.int i)=some (.int (Builtin.Int.intBits i:Nat)):=id rfl
theorem CY {xs ys:List T}(h:xs.length+ys.length<=cap):gF (.lst xs) (.lst ys)=some (.lst (xs++ys)):=by simp[gF,h]
def tI (ns:List Int):List T:=ns.map T.int
@[simp] theorem tI_length (ns:List Int):(tI ns).length=ns.length:=by simp[tI]
@[simp] theorem tI_nil:tI []=[]:=rfl
@[simp] theorem tI_cons (n:Int) (ns:List Int):tI (n::ns)=.int n::tI ns:=rfl
theorem aFi (ns ms:List Int):tI (ns++ms)=tI ns++tI ms:=by simp[tI]
theorem BV:∀ ns:List Int,bF (tI ns)=true
 | []=>rfl
 | n::ns=>by simp[bF,tI,im]
theorem HP:∀ ns:List Int,depL (tI ns)=0
 | []=>rfl
 | n::ns=>by
  have:=HP ns;show max (dep (.int n)) (depL (tI ns))=0;rw[this];rfl
theorem xS (ns:List Int):dep (.lst (tI ns))=1:=by simp[dep,HP]
@[simp] theorem oEq_int (i j:Int):oEq (.int i) (.int j)=some (.bl (i == j)):=rfl
@[simp] theorem oNe_int (i j:Int):oNe (.int i) (.int j)=some (.bl (!(i == j))):=rfl
theorem hE (ns:List Int):gD (.lst (tI ns))=some (tI ns):=by simp[gD,BV]
theorem IJ (ns:List Int):dB (.lst (tI ns))=some (.lst (tI ns)):=by simp[dB,BV]
theorem RT {α β:Type}(f:α->β) (xs:List α) (i:Int):atI (xs.map f) i=(atI xs i).map f:=by
 unfold atI;rw[aK5];cases ixN xs.length i with
 | none=>rfl
 | some j=>simp
theorem RW (ns:List Int) (i:Int):atI (tI ns) i=(atI ns i).map T.int:=RT _ _ _
theorem RV {α:Type}{xs:List α}{i:Nat}(h:i<xs.length):atI xs (i:Int)=some xs[i]:=jH (aIq h)
theorem RU {α:Type}{xs:List α}{i:Int}(h0:0<=i) (h:i<xs.length):atI xs i=some (xs[i.toNat]'(by lia)):=by
 have e:((i.toNat:Nat):Int)=i:=by lia
 have:=RV (xs:=xs) (i:=i.toNat) (by lia);rw[e] at this;exact this
theorem HN {p:Rho->Option Bool}{f:Rho->Option T}{ρ:Rho}(c:T->Bool) (h:T->T):∀ ts:List T,(∀ t∈ts,p (ρ.set 0 (some t))=some (c t))->(∀ t∈ts,c t=true->f (ρ.set 0 (some t))=some (h t))->bN p f ρ ts=some ((ts.filter c).map h)
 | [],_,_=>rfl
 | t::ts,h1,h2=>by
  have ih:=HN (p:=p) (f:=f) (ρ:=ρ) c h ts (fun u hu=>h1 u (aIr _ hu)) (fun u hu=>h2 u (aIr _ hu));unfold bN;rw[h1 t aIs];cases hc:c t with
  | true=>
   have:=h2 t aIs hc;simp[this,ih,hc]
  | false=>simp[ih,hc]
theorem TU {f:Rho->Option T}{ρ:Rho}(h:T->T) (ts:List T) (h2:∀ t∈ts,f (ρ.set 0 (some t))=some (h t)):bN bE f ρ ts=some (ts.map h):=by
 rw[HN (fun _=>true) h ts (fun _ _=>rfl) (fun t ht _=>h2 t ht)]
 congr 2
 exact List.filter_eq_self.mpr fun _ _=>rfl
theorem TV {f:Rho->Option T}{ρ:Rho}{lo:Int}{n:Nat}(h:Nat->T) (h2:∀ i,i<n->f (ρ.set 0 (some (.int (lo+i))))=some (h i)):bN bE f ρ (rangeT lo n)=some ((List.range n).map h):=by
 have key:∀ is:List Nat,(∀ i∈is,i<n)->bN bE f ρ (is.map fun (i:Nat)=>T.int (lo+(i:Int)))=some (is.map h):=by
  intro is
  induction is with
  | nil=>intro _;rfl
  | cons i r ih=>
   intro hi;have e:=h2 i (hi i aIs);have ih':=ih fun j hj=>hi j (aIr _ hj);rw[aKc];unfold bN;simp[e,ih']
 exact key (List.range n) fun i hi=>aIv.mp hi
theorem eN (n:Nat) (h:n<2^62):cK [.int (n:Int)]=some (rangeT 0 n):=by
 unfold cK;dsimp only;rw[if_pos (by lia)];simp
theorem xW {j:Nat}{body:Rho->Option Out}(I:Nat->Rho->Prop) (ts:List T) (h:∀ i (hi:i<ts.length) ρ,I i ρ->∃ ρ',(body (ρ.set j (some ts[i]))=some (.nx ρ')\/body (ρ.set j (some ts[i]))=some (.ct ρ'))/\I (i+1) ρ'):
  ∀ ρ,I 0 ρ->∃ ρ',cF j body ts ρ=some (.nx ρ')/\I ts.length ρ':=by
 have key:∀ (us:List T) (k:Nat),us=ts.drop k->k<=ts.length->∀ ρ,I k ρ->∃ ρ',cF j body us ρ=some (.nx ρ')/\I ts.length ρ':=by
  intro us
  induction us with
  | nil=>
   intro k e hk ρ hI;have:ts.length<=k:=by
    have:=congrArg List.length e;simp at this;lia
   have e2:k=ts.length:=by lia
   subst e2;exact⟨ρ,rfl,hI⟩
  | cons u r ih=>
   intro k e hk ρ hI;have hk':k<ts.length:=by
    have:=congrArg List.length e;simp at this;lia
   rw[aJn hk'] at e;cases e;obtain⟨ρ',hb,hI'⟩:=h k hk' ρ hI;obtain⟨ρ2,h2,hI2⟩:=ih (k+1) rfl hk' ρ' hI';refine⟨ρ2,?_,hI2⟩;unfold cF;rcases hb with hb | hb<;>rw[hb]<;>exact h2
 exact fun ρ hI=>key ts 0 (by simp) (aLf _) ρ hI
mutual
def bY:T->T->Bool
 | .non,.non=>true
 | .bl a,.bl b=>a == b
 | .int a,.int b=>a == b
 | .str a,.str b=>decide (a=b)
 | .lst xs,.lst ys=>sameL xs ys
 | .tup xs,.tup ys=>sameL xs ys
 | .exc a,.exc b=>decide (a=b)
 | .dct a,.dct b=>decide (a=b)
 | _,_=>false
def sameL:List T->List T->Bool
 | [],[]=>true
 | x::xs,y::ys=>bY x y&&sameL xs ys
 | _,_=>false
end
mutual
theorem MH:∀ (t u:T),bY t u=true->t=u
 | .non,u,h=>by cases u<;>simp[bY] at h ⊢
 | .bl a,u,h=>by cases u<;>simp[bY] at h ⊢;exact h
 | .int a,u,h=>by cases u<;>simp[bY] at h ⊢;exact h
 | .str a,u,h=>by cases u<;>simp[bY] at h ⊢;exact h
 | .exc a,u,h=>by cases u<;>simp[bY] at h ⊢;exact h
 | .dct a,u,h=>by cases u<;>simp[bY] at h ⊢;exact h
 | .own a,u,h=>by cases u<;>simp[bY] at h
 | .lst xs,.lst ys,h=>by rw[bY] at h;rw[sameL_eq xs ys h]
 | .tup xs,.tup ys,h=>by rw[bY] at h;rw[sameL_eq xs ys h]
 | .lst xs,.non,h=>by simp[bY] at h
 | .lst xs,.bl _,h=>by simp[bY] at h
 | .lst xs,.int _,h=>by simp[bY] at h
 | .lst xs,.str _,h=>by simp[bY] at h
 | .lst xs,.tup _,h=>by simp[bY] at h
 | .lst xs,.exc _,h=>by simp[bY] at h
 | .lst xs,.dct _,h=>by simp[bY] at h
 | .lst xs,.own _,h=>by simp[bY] at h
 | .tup xs,.non,h=>by simp[bY] at h
 | .tup xs,.bl _,h=>by simp[bY] at h
 | .tup xs,.int _,h=>by simp[bY] at h
 | .tup xs,.str _,h=>by simp[bY] at h
 | .tup xs,.lst _,h=>by simp[bY] at h
 | .tup xs,.exc _,h=>by simp[bY] at h
 | .tup xs,.dct _,h=>by simp[bY] at h
 | .tup xs,.own _,h=>by simp[bY] at h
theorem sameL_eq:∀ (xs ys:List T),sameL xs ys=true->xs=ys
 | [],[],_=>rfl
 | [],_::_,h=>by simp[sameL] at h
 | _::_,[],h=>by simp[sameL] at h
 | x::xs,y::ys,h=>by
  rw[sameL,aJ1] at h;rw[MH x y h.1,sameL_eq xs ys h.2]
end
def DX:Option T->Option T->Bool
 | some t,some u=>bY t u
 | none,none=>true
 | _,_=>false
theorem MG {a b:Option T}(h:DX a b=true):a=b:=by
 cases a<;>cases b<;>first | rfl | cases h | skip
 rw[MH _ _ h]
theorem below {P:Int->Prop}(n:Nat) (f:Nat->Bool) (h:(List.range n).all f=true) (hP:∀ k:Nat,f k=true->P k) {g:Int}(h0:0<=g) (h1:g<n):P g:=by
 have:=aIu.mp h g.toNat (aIv.mpr (by lia));have:=hP _ this
 rwa [Int.toNat_of_nonneg h0] at this
def dA:List T->Option (List Int)
 | []=>some []
 | .int i::r=>(dA r).map (i :: ·)
 | _=>none
theorem xJ:∀ ns:List Int,dA (tI ns)=some ns
 | []=>rfl
 | n::ns=>by
  show (dA (tI ns)).map (n :: ·)=_;rw[xJ ns];rfl
theorem rL:∀ {ts:List T}{ns:List Int},dA ts=some ns->ts=tI ns
 | [],ns,h=>by cases (aIo h);rfl
 | .int i::r,ns,h=>by
  cases e:dA r with
  | none=>rw[dA,e] at h;cases h
  | some ms=>
   rw[dA,e] at h;cases (aIo h);rw[rL e];rfl
 | .non::_,_,h=>by cases h
 | .bl _::_,_,h=>by cases h
 | .str _::_,_,h=>by cases h
 | .lst _::_,_,h=>by cases h
 | .tup _::_,_,h=>by cases h
 | .exc _::_,_,h=>by cases h
 | .dct _::_,_,h=>by cases h
 | .own _::_,_,h=>by cases h
theorem aE0 (n:Nat):rangeT 0 n=(List.range n).map fun (i:Nat)=>T.int (i:Int):=by
 unfold rangeT;simp
theorem sL {K:PySem.W.Frag}{H:Hp}{A:Addr->Prop}:∀ {ns:List Int}{xs:List V},RepL K H A (tI ns) xs->xs=ns.map V.int
 | [],_,h=>h
 | n::ns,_,h=>by
  obtain⟨x,r,e,h1,h2⟩:=h;rw[e,sL h2,(show x=.int n from h1)];rfl
def tB (bs:List Bool):List T:=bs.map T.bl
theorem LX {K:PySem.W.Frag}{H:Hp}{A:Addr->Prop}:∀ {ns:List Bool}{xs:List V},RepL K H A (G.tB ns) xs->xs=ns.map V.bl
 | [],_,h=>h
 | n::ns,_,h=>by
  obtain⟨x,r,e,h1,h2⟩:=h;rw[e,LX h2,(show x=.bl n from h1)];rfl
def gN:List T->Option (List Bool)
 | []=>some []
 | .bl i::r=>(gN r).map (i :: ·)
 | _=>none
theorem GC:∀ ns:List Bool,gN (G.tB ns)=some ns
 | []=>rfl
 | n::ns=>by
  show (gN (G.tB ns)).map (n :: ·)=_;rw[GC ns];rfl
theorem FZ:∀ {ts:List T}{ns:List Bool},gN ts=some ns->ts=G.tB ns
 | [],ns,h=>by cases (aIo h);rfl
 | .bl i::r,ns,h=>by
  cases e:gN r with
  | none=>rw[gN,e] at h;cases h
  | some ms=>
   rw[gN,e] at h;cases (aIo h);rw[FZ e];rfl
 | .non::_,_,h=>by cases h
 | .int _::_,_,h=>by cases h
 | .str _::_,_,h=>by cases h
 | .lst _::_,_,h=>by cases h
 | .tup _::_,_,h=>by cases h
 | .exc _::_,_,h=>by cases h
 | .dct _::_,_,h=>by cases h
 | .own _::_,_,h=>by cases h
theorem LI (ns:List Int):∀ j,j<=ns.length->preSum (fun i=>ns.getD i 0) j=(ns.take j).sum
 | 0,_=>by simp[preSum]
 | j+1,h=>by
  rw[preSum,LI ns j (by lia),List.take_succ,List.sum_append];simp[aIp,show j<ns.length by lia]
section
variable {X:Cx}{B:Hp}{fl:List Nat}{e:Expr}{es:List Expr}{f:Rho->Option T}{fa:Rho->Option (List T)}{n n':Bool}{l l' k:Nat}{pos p' p2:Pos}{x:Str}{ps:List Str}{F:List T->Option T}
theorem CP {pins:List (Addr × Obj)}{σ:St}{H:Hp}{s s':Shared}(I:Inv X pins σ H s) (o:Obj) (m:Moved [s.heap.objs.size] (fun a b=>b=a) { s with heap:=s.heap.push o } s'):Inv X pins σ H s':=by
 have I2:Inv X pins σ H { s with heap:=s.heap.push o }:=I.kept (t':=s.toks) fun b ob q=>aIz _ q;obtain⟨h',g',d',t',o'⟩:=s';obtain⟨m1,m2,m3,m4,m5⟩:=m;cases (show g'=s.gens from m2);cases (show d'=s.drawn from m3);cases (show o'=s.os from m4);have fp:=I.fpOk (aKv s.heap.objs.size) (I.hok.fresh (aKv _));exact L2.Inv.turned (s:={ s with heap:=s.heap.push o }) (h':=h') (t':=t') (it:=s.heap.objs.size) I2 (fun b ob hb q=>m1 b ob (by simpa using hb) q) fp.1 fp.2.1 fp.2.2.2.1 fp.2.2.2.2.1 fp.2.2.2.2.2
theorem SM (hc:X.calm=true):fS X (.builtin "sum") (fun xs H Q=>∃ (a:Addr) (ns:List Int),xs=[.ref a]/\SqL X.K H a (ns.map V.int)/\Q (.int ns.sum) H):=by
 intro pins s σ H xs us Q I r h;obtain⟨a,ns,rfl,hS,q⟩:=h;obtain⟨u,rfl,ru⟩:=mK r;cases ru;obtain⟨its,rv,p,hz⟩:=I.list hS;have hl:=rv.length;have ha:a<s.heap.objs.size:=by obtain⟨o,n,e,_⟩:=p;exact aJ9 e
 refine call_sum_walkAnyS (wpAny_pyIter_list p.isList ?_);refine⟨s.heap.objs.size,[s.heap.objs.size,a],[s.heap.objs.size],_,its.toArray.size,_,_,fun i=>ns.getD i 0,rfl,(Walks.list (A:=X.A.in1) (I.ok.hd hc) s.heap.objs.size a (aL5 ha) its.toArray).toS,⟨⟨_,aJ8 _ rfl,rfl,rfl⟩,p.isList.push _⟩,fun b hb=>?_,fun i v hv=>?_,fun s' t' mv=>?_⟩
 ·simp only[aJ0,List.mem_nil_iff,or_false] at hb
  rw[aJa];rcases hb with rfl | rfl
  ·exact aL0 _
  ·exact Nat.lt_succ_of_lt ha
 ·have hv':its[i]?=some v:=by simpa using hv
  have hi:i<its.length:=(aIt.mp hv').1;have hin:i<ns.length:=by rw[aK5] at hl;lia
  have e1:(ns.map V.int)[i]?=some (V.int (ns.getD i 0)):=by
   rw[aJx,aIq hin];simp[aIp,hin]
  obtain⟨u,e2,ru⟩:=rv.get e1;rw[hv'] at e2;cases (aIo e2);exact ru
 ·have es:its.toArray.size=ns.length:=by simp only[aIx];rw[<- hl];simp
  rw[es,LI ns ns.length (aKv _),List.take_length];exact⟨.int ns.sum,H,CP I _ mv,⟨_,rfl⟩,q⟩
theorem SG (hc:X.calm=true):fS X (.builtin "all") (fun xs H Q=>∃ (a:Addr) (bs:List Bool),xs=[.ref a]/\SqL X.K H a (bs.map V.bl)/\Q (.bl (bs.all id)) H):=by
 intro pins s σ H xs us Q I r h;obtain⟨a,ns,rfl,hS,q⟩:=h;obtain⟨u,rfl,ru⟩:=mK r;cases ru;obtain⟨its,rv,p,hz⟩:=I.list hS;have hl:=rv.length;have ha:a<s.heap.objs.size:=by obtain⟨o,n,e,_⟩:=p;exact aJ9 e
 refine call_all_walkS (wpAny_pyIter_list p.isList ?_);refine⟨s.heap.objs.size,[s.heap.objs.size,a],[s.heap.objs.size],_,its.toArray.size,_,_,fun i=>ns.getD i true,rfl,(Walks.list (A:=X.A.in1) (I.ok.hd hc) s.heap.objs.size a (aL5 ha) its.toArray).toS,⟨⟨_,aJ8 _ rfl,rfl,rfl⟩,p.isList.push _⟩,fun i v s0 Q0 E0 hv hq=>?_,fun s' mv=>?_⟩
 ·have hv':its[i]?=some v:=by simpa using hv
  have hi:i<its.length:=(aIt.mp hv').1;have hin:i<ns.length:=by rw[aK5] at hl;lia
  have e1:(ns.map V.bl)[i]?=some (V.bl (ns.getD i true)):=by
   rw[aJx,aIq hin];simp[aIp,hin]
  obtain⟨u,e2,ru⟩:=rv.get e1;rw[hv'] at e2;cases (aIo e2);cases ru;exact wpAny_truthy_bool hq
 ·have es:its.toArray.size=ns.length:=by simp only[aIx];rw[<- hl];simp
  have ea:(List.range ns.length).all (fun i=>ns.getD i true)=ns.all id:=by
   rw[aJ3,aIu,aIu]
   constructor
   ·intro h x hx
    obtain⟨i,hi,rfl⟩:=List.mem_iff_getElem.mp hx;have:=h i (aIv.mpr hi)
    simpa [aIp,hi] using this
   ·intro h i hi
    have hi:=aIv.mp hi;have:=h ns[i] (aK1 hi)
    simpa [aIp,hi] using this
  rw[es,ea];exact⟨.bl (ns.all id),H,CP I _ mv,rfl,q⟩
def pA:List T->Option T
 | [.lst ts]=>(dA ts).map fun ns=>.int ns.sum
 | _=>none
def uO:List T->Option T
 | [.lst ts]=>(gN ts).map fun ns=>.bl (ns.all id)
 | _=>none
theorem CH (hx:x = "sum") (hc:X.calm=true) (hg:Gl X x) (hm:X.mg x=none) (ha:GA X B fl (e::es) fa l)
  (he:starEach (e::es) X.env=(false,eval e X.env)::starEach es X.env:=by rfl) (hpl:(backTo pos (starEach es X.env)).any (·.1)=false:=by rfl):GE X B fl (.Call (.Name x p') (e::es) [] pos) (aI fa pA) true 3:=by
 subst hx;refine bQ (pB (SM hc) hg hm PyProof.Rows.boot_sum ha (by decide) (by decide) he hpl) ?_;rintro σ H Q ⟨Ex,ρ,M,t,S,hf,q⟩;obtain⟨ts,hts,hf⟩:=bind_some hf;refine⟨Ex,ρ,M,ts,S,hts,fun vs H1 s1 r1=>?_⟩
 match ts,hf with
 | [.lst us],hf=>
  have hf:(dA us).map (fun ns=>T.int ns.sum)=some t:=hf;cases ea:dA us with
  | none=>rw[ea] at hf;cases hf
  | some ns=>
   rw[ea] at hf;cases (aIo hf);cases rL ea;obtain⟨y,rfl,ry⟩:=eH r1;obtain⟨p,xs,rfl,h1,h2⟩:=ry.sqL;cases sL h2;exact⟨p,ns,rfl,h1,q _ H1 s1 ((aX.scal rfl).mpr rfl)⟩
theorem IM (hx:x = "all") (hc:X.calm=true) (hg:Gl X x) (hm:X.mg x=none) (ha:GA X B fl (e::es) fa l)
  (he:starEach (e::es) X.env=(false,eval e X.env)::starEach es X.env:=by rfl) (hpl:(backTo pos (starEach es X.env)).any (·.1)=false:=by rfl):GE X B fl (.Call (.Name x p') (e::es) [] pos) (aI fa uO) true 3:=by
 subst hx;refine bQ (pB (SG hc) hg hm (by decide +kernel) ha (by decide) (by decide) he hpl) ?_;rintro σ H Q ⟨Ex,ρ,M,t,S,hf,q⟩;obtain⟨ts,hts,hf⟩:=bind_some hf;refine⟨Ex,ρ,M,ts,S,hts,fun vs H1 s1 r1=>?_⟩
 match ts,hf with
 | [.lst us],hf=>
  have hf:(gN us).map (fun ns=>T.bl (ns.all id))=some t:=hf;cases ea:gN us with
  | none=>rw[ea] at hf;cases hf
  | some ns=>
   rw[ea] at hf;cases (aIo hf);cases FZ ea;obtain⟨y,rfl,ry⟩:=eH r1;obtain⟨p,xs,rfl,h1,h2⟩:=ry.sqL;cases LX h2;exact⟨p,ns,rfl,h1,q _ H1 s1 ((aX.scal rfl).mpr rfl)⟩
def DB:List T->Option T
 | [.int i,.int j]=>some (.int (if j<i then j else i))
 | _=>none
theorem XC (hx:x = "min") (hc:X.calm=true) (hg:Gl X x) (hm:X.mg x=none) (ha:GA X B fl (e::es) fa l)
  (he:starEach (e::es) X.env=(false,eval e X.env)::starEach es X.env:=by rfl) (hpl:(backTo pos (starEach es X.env)).any (·.1)=false:=by rfl):GE X B fl (.Call (.Name x p') (e::es) [] pos) (aI fa DB) true 3:=by
 subst hx;refine bQ (pB (SK hc) hg hm PyProof.Rows.boot_min ha (by decide) (by decide) he hpl) ?_;rintro σ H Q ⟨Ex,ρ,M,t,S,hf,q⟩;obtain⟨ts,hts,hf⟩:=bind_some hf;refine⟨Ex,ρ,M,ts,S,hts,fun vs H1 s1 r1=>?_⟩
 match ts,hf with
 | [.int i,.int j],hf=>
  cases (aIo hf);obtain⟨y,r,e,ry,h2⟩:=r1;obtain⟨y2,rfl,ry2⟩:=eH h2;subst e;cases (show _=_ from ry);cases (show _=_ from ry2);exact⟨i,j,rfl,q _ H1 s1 ((aX.scal rfl).mpr rfl)⟩
def DA:List T->Option T
 | [.int i]=>some (.int i)
 | [.bl b]=>some (.int (if b then 1 else 0))
 | _=>none
theorem XF (hx:x = "int") (hg:Gl X x) (hm:X.mg x=none) (ha:GA X B fl (e::es) fa l)
  (he:starEach (e::es) X.env=(false,eval e X.env)::starEach es X.env:=by rfl) (hpl:(backTo pos (starEach es X.env)).any (·.1)=false:=by rfl):GE X B fl (.Call (.Name x p') (e::es) [] pos) (aI fa DA) true 3:=by
 subst hx;refine bQ (KY SH hg hm PyProof.Rows.boot_int ha (by decide) (by decide) he hpl) ?_;rintro σ H Q ⟨Ex,ρ,M,t,S,hf,q⟩;obtain⟨ts,hts,hf⟩:=bind_some hf;refine⟨Ex,ρ,M,ts,S,hts,fun vs H1 s1 r1=>?_⟩
 match ts,hf with
 | [.int i],hf=>
  cases (aIo hf);obtain⟨y,rfl,ry⟩:=eH r1;cases (show _=_ from ry);exact .inl ⟨i,rfl,q _ H1 s1 ((aX.scal rfl).mpr rfl)⟩
 | [.bl i],hf=>
  cases (aIo hf);obtain⟨y,rfl,ry⟩:=eH r1;cases (show _=_ from ry);exact .inr ⟨i,rfl,q _ H1 s1 ((aX.scal rfl).mpr rfl)⟩
end
theorem DC (ns:List Int):pA [.lst (tI ns)]=some (.int ns.sum):=by simp[pA,xJ]
theorem KI (ns:List Bool):uO [.lst (G.tB ns)]=some (.bl (ns.all id)):=by simp[uO,GC]
def bC:Out->Option T
 | .rt t=>some t
 | .nx _=>some .non
 | _=>none
def Fof (np k:Nat) (run:Rho->Option Out) (ts:List T):Option T:=if ts.length=np then (run (ts.map some++List.replicate k none)).bind bC else none
theorem bI {np k:Nat}{run:Rho->Option Out}{ts:List T}{t:T}(h:Fof np k run ts=some t):ts.length=np:=by
 unfold Fof at h;split at h
 ·assumption
 ·cases h
theorem bJ {np k:Nat}{run:Rho->Option Out}{ts:List T}{t:T}(h:Fof np k run ts=some t):∃ o,run (ts.map some++List.replicate k none)=some o/\FQ o t:=by
 unfold Fof at h;split at h
 ·obtain⟨o,e,h⟩:=bind_some h
  refine⟨o,e,?_⟩;cases o with
  | rt u=>exact aIo h
  | nx _=>exact (aIo h).symm
  | bk _=>cases h
  | ct _=>cases h
 ·cases h
@[simp] theorem outT_rt (t:T):bC (.rt t)=some t:=rfl
@[simp] theorem outT_nx (ρ:Rho):bC (.nx ρ)=some .non:=rfl
def DO:Rho->Option Out:=fun _=>none
@[simp] theorem rNone_at (ρ:Rho):DO ρ=none:=rfl
theorem XV {X:Cx}{B:Hp}{fl:List Nat}{n:Bool}{l:Nat}{st:Stmt}:GS X B fl n l st DO:=fun pins s σ H D I h=>by
 obtain⟨_,_,_,_,_,h,_⟩:=h;cases h
def tGR (K:PySem.W.Frag) (B:Hp) (fl:List Nat) (f:Rho->Option T) (n:Bool) (l:Nat):TE:=fun σ H Q=>
 ∃ Ex ρ M t,Sl K B fl Ex σ ρ M H/\f ρ=some t/\∀ v H',aZ H H'->RtX K B H' n l t v->Q v H'
def GR (X:Cx) (B:Hp) (fl:List Nat) (e:Expr) (f:Rho->Option T) (n:Bool) (l:Nat):Prop:=PE X e (tGR X.K B fl f n l)
def aFh (K:PySem.W.Frag) (B:Hp) (fl:List Nat) (f:Rho->Option (List T)) (l:Nat):TA:=fun σ H Q=>
 ∃ Ex ρ M ts,Sl K B fl Ex σ ρ M H/\f ρ=some ts/\∀ vs H',aZ H H'->RepL K H' (Ad B B [] l) ts vs->Q vs H'
def GRA (X:Cx) (B:Hp) (fl:List Nat) (es:List Expr) (f:Rho->Option (List T)) (l:Nat):Prop:=PA X es (aFh X.K B fl f l)
def gB (i:Nat):Rho->Option T:=fun ρ=>(aA i ρ).bind fun t=>match t with | .lst ts=>if bF ts then some (.lst ts) else none | _=>none
@[simp] theorem fMut_at (i:Nat) (ρ:Rho):gB i ρ=(aA i ρ).bind fun t=>match t with | .lst ts=>if bF ts then some (.lst ts) else none | _=>none:=rfl
section
variable {X:Cx}{B:Hp}{fl:List Nat}{a b c e:Expr}{es:List Expr}{f g:Rho->Option T}{fa:Rho->Option (List T)}{p:Rho->Option Bool}{n n':Bool}{l l':Nat}{pos pos':Pos}{x:Str}
theorem bB (he:GE X B fl e f n' l') (h:((!n||n')&&(decide (l=0)||decide (2<=l'))&&decide (l≠4))=true):GR X B fl e f n l:=by
 refine bQ he ?_;rintro σ H Q ⟨Ex,ρ,M,t,S,e1,q⟩;rw[aJ1] at h;refine⟨Ex,ρ,M,t,S,e1,fun v H1 s1 rx=>q v H1 s1 ((RtX.of (of_decide_eq_true h.2)).mpr (aE7 S ?_ rx))⟩;have h:=h.1;cases n<;>cases n'<;>simp at h ⊢<;>exact h
theorem jM (i:Nat) (hN:X.N[i]?=some x:=by rfl) (hv:Vis X.env.scope x:=by first | exact Or.inl rfl | exact Or.inr (Or.inl rfl) | exact Or.inr (Or.inr rfl)) (h4:(decide (fl.getD i 1=0)&&decide (l≠4))=true:=by rfl) (hd:(x == ("__debug__" : Str))=false:=by decide)
  (hcd:(x == ("__classdict__" : Str))=false:=by decide):GR X B fl (.Name x pos') (gB i) n l:=by
 have h4:=aJ2.mp h4;have h0:fl.getD i 1=0:=of_decide_eq_true h4.1;refine bQ (pv (X:=X) i hN hv hd hcd) ?_;rintro σ H Q ⟨Ex,ρ,M,t,S,hr,q⟩;obtain⟨t',e1,hr⟩:=bind_some hr;cases t'<;>first | (cases hr;done) | skip
 dsimp only at hr;split at hr
 ·rename_i hfl
  cases (aIo hr);obtain⟨a,ts,xs,e2,e3,e4,e5,e6⟩:=S.muL i _ (gC e1) h0;cases e2;refine⟨_,e3,q _ H (aZ.refl H) ((RtX.of (of_decide_eq_true h4.2)).mpr ?_)⟩;cases n with
  | true=>exact⟨a,xs,rfl,(S.mB a e6).1,e4,jS hfl e5⟩
  | false=>exact⟨a,xs,rfl,.inl ⟨⟨fun _ z=>by simp at z,fun _=>(S.mB a e6).1,fun _=>(S.mB a e6).1⟩,.inl e4⟩,jS hfl e5⟩
 ·cases hr
theorem XT (hc:GT X B fl c p) (ha:GR X B fl a f n l) (hb:GR X B fl b g n l):GR X B fl (.IfExp c a b pos) (fIf p f g) n l:=by
 refine bQ (aCs hc ha hb) ?_;rintro σ H Q ⟨Ex,ρ,M,t,S,hf,q⟩;obtain⟨d,e,hf⟩:=bind_some hf;refine⟨Ex,ρ,M,d,S,e,fun H1 s1=>?_⟩;cases d with
 | true=>exact hU ⟨Ex,ρ,M,t,S.grow s1,hf,fun v H2 s2 r2=>q v H2 (s1.trans s2) r2⟩
 | false=>exact hG ⟨Ex,ρ,M,t,S.grow s1,hf,fun v H2 s2 r2=>q v H2 (s1.trans s2) r2⟩
theorem aX.any {K:PySem.W.Frag}{H':Hp}{t:T}{v:V}(h:aX K B B [] H' n l t v):Rep K H' (Ad B B [] l) t v:=by
 cases n with
 | false=>cases t<;>exact h
 | true=>
  cases t with
  | lst ts=>
   obtain⟨a,xs,e,h1,h2,r⟩:=h;exact⟨a,xs,e,.inl ⟨⟨fun _ z=>by simp at z,fun _=>h1,fun _=>h1⟩,.inl h2⟩,r.weak fun b x=>x.1⟩
  | non=>exact h
  | bl _=>exact h
  | int _=>exact h
  | str _=>exact h
  | tup _=>exact h
  | exc _=>exact h
  | dct _=>exact h
  | own _=>exact h
theorem yB:GRA X B fl [] aF l:=yU jR fun σ H Q ⟨Ex,ρ,M,ts,S,hf,q⟩=>q _ H (aZ.refl H) (by cases (aIo hf);rfl)
theorem kK (ha:GR X B fl e f false l) (hr:GRA X B fl es fa l) (hs:starEach (e::es) X.env=(false,eval e X.env)::starEach es X.env:=by rfl) (h4:(l == 4)=false:=by rfl):GRA X B fl (e::es) (aC f fa) l:=by
 refine yU (eP ha hr hs) ?_;rintro σ H Q ⟨Ex,ρ,M,ts,S,hf,q⟩;obtain⟨x,hx,hf⟩:=bind_some hf;obtain⟨xs,hxs,hf⟩:=bind_some hf;cases (aIo hf);exact⟨Ex,ρ,M,x,S,hx,fun v H1 s1 r1=>⟨Ex,ρ,M,xs,S.grow s1,hxs,fun vs H2 s2 r2=>q _ H2 (s1.trans s2) ⟨v,vs,rfl,((RtX.of (by simpa using h4)).mp r1).any.grow s2,r2⟩⟩⟩
theorem yA {k:Nat}(ha:GRA X B fl es fa l) (h4:(l == 4)=false:=by rfl):GR X B fl (.Tuple es k pos) (bP fa) n l:=by
 refine bQ (LB ha) ?_;rintro σ H Q ⟨Ex,ρ,M,t,S,hf,q⟩;obtain⟨ts,hts,hf⟩:=bind_some hf;split at hf
 ·rename_i hl
  cases (aIo hf);refine⟨Ex,ρ,M,ts,S,hts,fun vs H1 s1 r1=>⟨by rw[<- r1.length];exact aKu (gU hl),fun p hp=>q _ _ (s1.trans (eY hp _)) ((RtX.of (by simpa using h4)).mpr ?_)⟩⟩;have z:Rep X.K (upd H1 p (.tup vs)) (Ad B B [] l) (.tup ts) (.ref p):=⟨p,vs,rfl,.inl (.inl eJ),r1.grow (eY hp _)⟩;cases n<;>exact z
 ·cases hf
@[simp] theorem okO_lst (ts:List T):okO (.lst ts)=true:=id rfl
@[simp] theorem okO_int (i:Int):okO (.int i)=true:=id rfl
@[simp] theorem okO_str (i:Str):okO (.str i)=true:=id rfl
theorem aW (he:GR X B fl e f n l):GS X B fl n l (.Return (some e) pos) (aV f):=by
 refine dS (aDg he) ?_;rintro D σ H ⟨Ex,ρ,M,o,S,hr,q⟩;unfold aV at hr;cases e1:f ρ with
 | none=>rw[e1] at hr;cases hr
 | some t=>
  rw[e1] at hr;cases (aIo hr);exact⟨Ex,ρ,M,t,S,e1,fun v H1 s1 rx=>q v H1 (S.same.trans s1) rx⟩
end
@[simp] theorem forT_nil (j:Nat) (body:Rho->Option Out) (ρ:Rho):cF j body [] ρ=some (.nx ρ):=rfl
theorem BW (j:Nat) (body:Rho->Option Out) (t:T) (ts:List T) (ρ:Rho):cF j body (t::ts) ρ =
 (body (ρ.set j (some t))).bind fun o=>match o with | .nx ρ'=>cF j body ts ρ' | .ct ρ'=>cF j body ts ρ' | .bk ρ'=>some (.nx ρ') | .rt t=>some (.rt t):=rfl
theorem ZY {i j:Int}(h:i.natAbs<2^64):fM i j=true:=by unfold fM;rw[decide_eq_true h];rfl
theorem aA0 {i j:Int}(h:j.natAbs<2^64):fM i j=true:=by unfold fM;rw[decide_eq_true h];simp
theorem CW {i j:Int}(n m:Nat) (h:i.natAbs<2^n) (h':j.natAbs<2^m) (hn:n<=1048576) (hm:m<=1048576):fM i j=true:=by
 have a:Builtin.Int.intBits i<=2^20:=aKw (intBits_le h) hn;have b:Builtin.Int.intBits j<=2^20:=aKw (intBits_le h') hm;unfold fM;rw[decide_eq_true a,decide_eq_true b];simp
theorem hX {i j:Int}(h:i.natAbs<2^64):bD (.int i) (.int j)=some (.int (i*j)):=uR (ZY h)
theorem nZ {i j:Int}(h:j.natAbs<2^64):bD (.int i) (.int j)=some (.int (i*j)):=uR (aA0 h)
theorem nU {n:Nat}{i:Int}(h0:0<=i) (h:i<n):ixN n i=some i.toNat:=by unfold ixN;rw[if_pos h0,if_pos h]
theorem xG (ns:List Int) (j:Nat) (x:Int):(tI ns).set j (.int x)=tI (ns.set j x):=by unfold tI;rw[List.map_set]
theorem NE (ns:List Int) (j:Nat):(tI ns)[j]?=(ns[j]?).map T.int:=by unfold tI;rw[aJx]
theorem GJ {ns:List Int}{i:Int}(h0:0<=i) (h:i<ns.length):atI (tI ns) i=some (.int (ns.getD i.toNat 0)):=by
 have hl:i.toNat<ns.length:=by lia
 rw[RW,RU h0 h,aIp,aIq hl];rfl
theorem dG {ns:List Int}{i:Nat}(h:i<ns.length):atI (tI ns) (i:Int)=some (.int (ns.getD i 0)):=by
 rw[GJ (by lia) (by lia)];simp
theorem aAd {i j:Int}(h0:i.natAbs<2^62) (h:j.natAbs<2^62):sF [.int i,.int j]=some (rangeT i (j-i).toNat):=by
 unfold sF;dsimp only;rw[if_pos ⟨h0,h⟩]
theorem kY (lo:Int) (n:Nat):(rangeT lo n).length=n:=by simp[rangeT]
theorem DP {lo:Int}{n i:Nat}(h:i<(rangeT lo n).length):(rangeT lo n)[i]=.int (lo+i):=by simp[rangeT]
theorem TM {f:Rho->Option T}{ρ:Rho}{lo:Int}{n:Nat}(h:Nat->Int) (h2:∀ i,i<n->f (ρ.set 0 (some (.int (lo+i))))=some (.int (h i))):bN bE f ρ (rangeT lo n)=some (tI ((List.range n).map h)):=by
 rw[TV (fun i=>.int (h i)) h2];simp[tI]
theorem tT {f:Rho->Option T}{ρ:Rho}{ns:List Int}(h:Int->Int) (h2:∀ i∈ns,f (ρ.set 0 (some (.int i)))=some (.int (h i))):bN bE f ρ (tI ns)=some (tI (ns.map h)):=by
 rw[TU (fun t=>match t with | .int i=>.int (h i) | t=>t) (tI ns) (fun t ht=>by
  unfold tI at ht;obtain⟨i,hi,rfl⟩:=aKj.mp ht;exact h2 i hi)]
 simp[tI]
@[simp] theorem gScal_int' (i:Int):aN (.int i)=some (.int i):=rfl
@[simp] theorem flat_tI' (ns:List Int):bF (tI ns)=true:=BV ns
theorem uS (i:Int) (j:Nat) (h:decide ((Builtin.Int.intBits i:Int)*(j:Int)<=2^27)=true):eF (.int i) (.int (j:Int))=some (.int (i^j)):=by
 unfold eF;simp only[oI_int];rw[if_pos (by simpa using h)];simp
theorem aDz {n i:Nat}(h:i<(rangeT 0 n).length):(rangeT 0 n)[i]=.int (i:Int):=by simp[rangeT]
theorem rQ {f:Rho->Option T}{ρ:Rho}{n:Nat}(h:Nat->Int) (h2:∀ i,i<n->f (ρ.set 0 (some (.int (i:Int))))=some (.int (h i))):bN bE f ρ (rangeT 0 n)=some (tI ((List.range n).map h)):=
 TM h fun i hi=>by rw[Int.zero_add];exact h2 i hi
theorem kI {j n:Nat}{body:Rho->Option Out}(I:Nat->Rho->Prop) (h:∀ i,i<n->∀ ρ,I i ρ->∃ ρ',body (ρ.set j (some (.int (i:Int))))=some (.nx ρ')/\I (i+1) ρ') (ρ:Rho) (h0:I 0 ρ):∃ ρ',cF j body (rangeT 0 n) ρ=some (.nx ρ')/\I n ρ':=by
 have:=xW (j:=j) (body:=body) I (rangeT 0 n) (fun i hi ρ hI=>by
  have hi':i<n:=by rw[kY] at hi;exact hi
  obtain⟨ρ',e,q⟩:=h i hi' ρ hI;refine⟨ρ',.inl ?_,q⟩;rw[aDz];exact e) ρ h0
 rwa [kY] at this
theorem WJ {j:Nat}{ns:List Int}{body:Rho->Option Out}(I:Nat->Rho->Prop) (h:∀ i (hi:i<ns.length) ρ,I i ρ->∃ ρ',body (ρ.set j (some (.int ns[i])))=some (.nx ρ')/\I (i+1) ρ') (ρ:Rho) (h0:I 0 ρ):∃ ρ',cF j body (tI ns) ρ=some (.nx ρ')/\I ns.length ρ':=by
 have:=xW (j:=j) (body:=body) I (tI ns) (fun i hi ρ hI=>by
  have hi':i<ns.length:=by rw[tI_length] at hi;exact hi
  obtain⟨ρ',e,q⟩:=h i hi' ρ hI;refine⟨ρ',.inl ?_,q⟩;have:(tI ns)[i]=.int ns[i]:=by simp[tI]
  rw[this];exact e) ρ h0
 rwa [tI_length] at this
theorem gO (a b:Nat):Builtin.bitAnd (a:Int) (b:Int)=((a&&&b:Nat):Int):=by
 unfold Builtin.bitAnd;simp
theorem tR (a:Nat):Builtin.bitAnd (a:Int) 1=((a%2:Nat):Int):=by
 have:=gO a 1;rw[Nat.and_one_is_mod] at this;exact this
theorem rM (a b:Nat):Builtin.bitOr (a:Int) (b:Int)=((a|||b:Nat):Int):=by
 unfold Builtin.bitOr Builtin.bitAnd Builtin.bitNot;have h1:¬ (0 <= -(a:Int)-1):=by lia
 have h2:¬ (0 <= -(b:Int)-1):=by lia
 rw[decide_eq_false h1,decide_eq_false h2];show -(-(((-(-(a:Int)-1)-1).toNat|||(-(-(b:Int)-1)-1).toNat:Nat):Int)-1)-1=_;have e1:(-(-(a:Int)-1)-1).toNat=a:=by lia
 have e2:(-(-(b:Int)-1)-1).toNat=b:=by lia
 rw[e1,e2];lia
theorem uT (a b:Nat):jQ (.int (a:Int)) (.int (b:Int))=some (.int ((a / 2^b:Nat):Int)):=by
 rw[aAh (by lia)];simp
theorem aAg {a b:Nat}(h:a<2^64) (h2:b<=1000000):cX (.int (a:Int)) (.int (b:Int))=some (.int ((a*2^b:Nat):Int)):=by
 rw[aAf (by lia) (by lia) (by lia)];simp
theorem kW {b:Nat}(h2:b<=1000000):cX (.int 1) (.int (b:Int))=some (.int ((2^b:Nat):Int)):=by
 have:=aAg (a:=1) (b:=b) (by decide) h2;rw[Nat.one_mul] at this;exact this
theorem LH {α:Type}(xs:List α) (a:Nat):∀ k,((List.range k).map (a + ·)).filterMap (xs[·]?)=(xs.drop a).take k
 | 0=>by simp
 | k+1=>by
  rw[List.range_succ,List.map_append,List.filterMap_append,LH xs a k,List.take_add_one]
  congr 1
  simp only[aKc,aKe,aJp,List.filterMap_nil,List.getElem?_drop];cases xs[a+k]?<;>rfl
theorem aF1 {α:Type}(xs:List α) (lo hi:Option Int):eI xs lo hi none=(xs.drop (lo.elim 0 (clipAt xs.length))).take ((hi.elim xs.length (clipAt xs.length))-(lo.elim 0 (clipAt xs.length))):=by
 unfold eI;rw[sliceBounds_plain,sliceRange_one,LH]
theorem TJ {n:Nat}{i:Int}(h:0<=i):clipAt n i=min i.toNat n:=by unfold clipAt;lia
theorem MS {α:Type}(xs:List α) {i:Int}(h:0<=i):eI xs (some i) none none=xs.drop i.toNat:=by
 rw[aF1];simp only[Option.elim,TJ h];rw[List.take_of_length_le (by simp)]
 by_cases h':i.toNat<=xs.length
 ·rw[Nat.min_eq_left h']
 ·rw[Nat.min_eq_right (by lia),List.drop_eq_nil_of_le (aKv _),List.drop_eq_nil_of_le (by lia)]
theorem TL {p:Rho->Option Bool}{f:Rho->Option T}{ρ:Rho}{n:Nat}(c:Nat->Bool) (h:Nat->Int) (h1:∀ i,i<n->p (ρ.set 0 (some (.int (i:Int))))=some (c i)) (h2:∀ i,i<n->c i=true->f (ρ.set 0 (some (.int (i:Int))))=some (.int (h i))):
  bN p f ρ (rangeT 0 n)=some (tI (((List.range n).filter c).map h)):=by
 have key:∀ is:List Nat,(∀ i∈is,i<n)->bN p f ρ (is.map fun (i:Nat)=>T.int (i:Int))=some (tI ((is.filter c).map h)):=by
  intro is
  induction is with
  | nil=>intro _;rfl
  | cons i r ih=>
   intro hi;have e1:=h1 i (hi i aIs);have ih':=ih fun j hj=>hi j (aIr _ hj);rw[aKc];unfold bN;cases hc:c i with
   | true=>
    have e2:=h2 i (hi i aIs) hc;simp[e1,e2,ih',hc]
   | false=>simp[e1,ih',hc]
 rw[aE0];exact key (List.range n) fun i hi=>aIv.mp hi
def bZ {α:Type} (xs:List α) (i:Int) (y:α):List α:=xs.take (min i.toNat xs.length)++y::xs.drop (min i.toNat xs.length)
def aDt:V->List V->Hp->VK->Prop:=fun x vs H Q=>∃ l xs i y,x=.ref l/\vs=[.int i,y]/\H l=some (.lst xs)/\0<=i/\i<2^63/\xs.length<sizeLine/\Q .non (upd H l (.lst (bZ xs i y)))
theorem aGg {xs:List V}{us:List Value}(h:aU xs us):∀ n,aU (xs.take n) (us.take n):=by
 induction h with
 | nil=>intro n;simp;exact .nil
 | cons r t ih=>
  intro n;cases n with
  | zero=>exact .nil
  | succ n=>exact .cons r (ih n)
theorem aGf {xs:List V}{us:List Value}(h:aU xs us):∀ n,aU (xs.drop n) (us.drop n):=by
 induction h with
 | nil=>intro n;simp;exact .nil
 | cons r t ih=>
  intro n;cases n with
  | zero=>exact .cons r t
  | succ n=>exact ih n
theorem KD {X:Cx}:MtM X "list.insert" aDt:=by
 intro pins s σ H x vs v us Q I rx rv h;obtain⟨l,xs,i,y,rfl,rfl,hH,h0,h1,hz,q⟩:=h;cases rx;obtain⟨u1,u,rfl,r1,ru⟩:=rv.two;obtain⟨tk,rfl⟩:=r1;obtain⟨z,its,n,r,hl,e⟩:=I.lstM hH;refine call_meets PySem.F.slot_list_insert ⟨_,e,rfl⟩ PySem.F.entry_list_insert (PySem.F.args_list_insert_3 _ _ _) (PySem.AutoListH.list_insert_list_int_val_1 l its.toArray n i tk u (by unfold Builtin.List.listFitsIndex;simp;lia) (by rw[aIx];lia)) ⟨e,?_⟩;refine⟨.non,_,I.lset (its':=bZ its i u) hH e ?_ ?_ ?_,rfl,q⟩
 ·unfold bZ
  have h0':¬ i<0:=by lia
  simp[h0'];exact List.take_of_length_le (by simp)
 ·unfold bZ
  rw[hl];exact (aGg r _).append (.cons ru (aGf r _))
 ·unfold bZ;simp;lia
def pC (i:Nat) (fk f:Rho->Option T):Rho->Option Out:=fun ρ=>(aA i ρ).bind fun t=>(fk ρ).bind fun k=>(f ρ).bind fun x=>match t,k with | .lst ts,.int j=>if ts.length<cap/\0<=j/\j<2^63 then some (.nx (ρ.set i (some (.lst (bZ ts j x))))) else none | _,_=>none
@[simp] theorem rIns_at (i:Nat) (fk f:Rho->Option T) (ρ:Rho):pC i fk f ρ=(aA i ρ).bind fun t=>(fk ρ).bind fun k=>(f ρ).bind fun x=>match t,k with | .lst ts,.int j=>if ts.length<cap/\0<=j/\j<2^63 then some (.nx (ρ.set i (some (.lst (bZ ts j x))))) else none | _,_=>none:=rfl
theorem LU {K:PySem.W.Frag}{H:Hp}{A:Addr->Prop}{ts:List T}{xs:List V}{t:T}{x:V}(h:RepL K H A ts xs) (r:Rep K H A t x) (i:Int):RepL K H A (bZ ts i t) (bZ xs i x):=by
 unfold bZ;rw[h.length];exact RepL.app (h.take _) ⟨x,_,rfl,r,h.drop _⟩
section
variable {X:Cx}{B:Hp}{fl:List Nat}{e k:Expr}{f fk:Rho->Option T}{n n' nk:Bool}{l l' lk:Nat}{pos pos':Pos}{x:Str}
theorem IV (i:Nat) {apos p2:Pos}(hk:GE X B fl k fk nk lk) (he:GE X B fl e f n' l') (h1:(decide (fl.getD i 1=0)&&decide (lc fl<=l'))=true) (hN:X.N[i]?=some x:=by rfl) (hv:Vis X.env.scope x:=by first | exact Or.inl rfl | exact Or.inr (Or.inl rfl) | exact Or.inr (Or.inr rfl))
  (hd:(x == ("__debug__" : Str))=false:=by decide) (hcd:(x == ("__classdict__" : Str))=false:=by decide)
  (hbase:attributeBase (.Name x p2) "insert" X.env (eval (.Name x p2) X.env)=eval (.Name x p2) X.env:=by rfl)
  (hfew:((backTo pos' (starEach [k,e] X.env)).all (fun x=>!x.1)&&(backToKw pos' (keywordEach [] X.env)).all (fun x=>x.1.isSome)
   && decide (([k,e]:List Expr).length+([]:List Keyword).length+(if ([]:List Keyword).isEmpty then 0 else 1)<30))=true:=by rfl)
  (hline:(apos.endLine == pos'.line)=true:=by rfl) (hs:starEach [k,e] X.env=(false,eval k X.env)::starEach [e] X.env:=by rfl) (hs2:starEach [e] X.env=[(false,eval e X.env)]:=by rfl) (hpl:(backTo pos' (starEach [e] X.env)).any (·.1)=false:=by rfl) (hsw:swapsWith (.Call (.Attribute (.Name x p2) "insert" apos) [k,e] [] pos') none pos.line X.env=pure false:=by rfl):
  GS X B fl n l (.Expr (.Call (.Attribute (.Name x p2) "insert" apos) [k,e] [] pos') pos) (pC i fk f):=by
 simp only[aJ1,decide_eq_true_eq] at h1;refine dS (sI (uW PySem.F.plainAttrs_list PySem.F.slot_list_insert PySem.F.type_list_insert KD (pv (X:=X) i hN hv hd hcd) (eP hk (eP he jR hs2) hs) hbase hfew hline hs hpl) hsw) ?_;rintro D σ H ⟨Ex,ρ,M,o,S,hr,q⟩;obtain⟨t,e1,hr⟩:=bind_some hr;obtain⟨j,e0,hr⟩:=bind_some hr;obtain⟨y,e2,hr⟩:=bind_some hr;cases t<;>first | (cases hr;done) | skip
 cases j<;>first | (cases hr;done) | skip
 dsimp only at hr;split at hr
 ·rename_i hl
  cases (aIo hr);have e1':=gC e1;have lcl:=hV fl;have lcp:=kS fl;obtain⟨a,ts,xs,e3,e4,e5,e6,e7⟩:=S.muL i _ e1' h1.1;cases e3;refine⟨_,e4,.inl ⟨rfl,xs,SqL.of e5⟩,?_⟩;refine⟨Ex,ρ,M,_,S,e0,fun v0 H0 s0 r0=>?_⟩;cases (aX.scal rfl).mp r0;have S0:=S.grow s0;refine⟨Ex,ρ,M,y,S0,e2,fun v H1 s1 rx=>?_⟩;refine⟨a,xs,_,v,rfl,rfl,s1 _ _ (s0 _ _ e5),hl.2.1,hl.2.2,by rw[<- e6.length];exact gU (aKu hl.1),?_⟩;refine q σ M _ ((S0.grow s1).write h1.1 e1' e4 e7 (s1 _ _ (s0 _ _ e5)) (LU (((e6.grow s0).grow s1).weak fun b x=>x.any (by lia)) ((rx.rep S0).weak fun b x=>?_) _));exact⟨fun z=>x.1 (by lia),fun z=>x.2.1 (by lia),fun z=>by lia⟩
 ·cases hr
end
theorem JK:∀ {ns:List Int}{us:List Value},aU (ns.map V.int) us->IntsAre us ns
 | [],_,h=>by cases h;exact .nil
 | n::ns,_,h=>by
  cases h with
  | cons r t=>
   obtain⟨k,rfl⟩:=r;exact .cons n k (JK t)
theorem ZW {X:Cx}:MtR X "list.index" (fun x xs H Q=>∃ (a:Addr) (ns:List Int) (k:Int),x=.ref a/\xs=[.int k]/\SqL X.K H a (ns.map V.int)/\k∈ns/\Q (.int (ns.idxOf k:Nat)) H):=by
 intro pins s σ H x xs v us Q I rx rv h;obtain⟨a,ns,k,rfl,rfl,hS,hk,q⟩:=h;cases rx;obtain⟨u,rfl,ru⟩:=rv.one;obtain⟨t,rfl⟩:=ru;obtain⟨its,r,p,hz⟩:=I.list hS;have hi:=JK r;have hlen:=hi.length;have hj:ns.idxOf k<ns.length:=List.idxOf_lt_length_iff.mpr hk;have hz':ns.length<=sizeLine:=by simpa using hz
 rw[sizeLine_eq] at hz';obtain⟨⟨cls,dd,data,sl⟩,ho,hc,n,hd⟩:=p.isList;simp only at hc hd;subst hc hd;refine call_meets PySem.F.slot_list_index ⟨_,ho,rfl⟩ PySem.F.entry_list_index (PySem.F.args_list_index_2 _ _)
  (PySem.SeqAt.list_indexAt a its.toArray n dd sl (.int k t) (isInt k) (ns.idxOf k) (by simpa [hlen] using hj) (by lia) ?_ ?_) ⟨ho,fun y hy=>(eq_isInt k t hi y (by simpa using hy)).at _ _,⟨.int _,H,I.tok _,⟨_,rfl⟩,q⟩⟩
 ·show isInt k its[ns.idxOf k]=true
  rw[isInt_at k hi _ (by lia) hj]
  simpa using List.getElem_idxOf hj
 ·intro j hjs hlt
  show isInt k its[j]=false;rw[isInt_at k hi j (by simpa using hjs) (by lia)];exact ne_of_lt_idxOf hlt _
def yM:T->T->Option T
 | .lst ts,.int k=>(dA ts).bind fun ns=>if k∈ns then some (.int (ns.idxOf k:Nat)) else none
 | _,_=>none
theorem aA6 {ns:List Int}{k:Int}(h:k∈ns):yM (.lst (tI ns)) (.int k)=some (.int (ns.idxOf k:Nat)):=by simp[yM,xJ,h]
theorem XA {X:Cx}{B:Hp}{fl:List Nat}{o e:Expr}{f g:Rho->Option T}{n n':Bool}{l l':Nat}{apos pos:Pos}(ho:GE X B fl o f n l) (he:GE X B fl e g n' l')
  (hbase:attributeBase o "index" X.env (eval o X.env)=eval o X.env:=by rfl)
  (hfew:((backTo pos (starEach [e] X.env)).all (fun x=>!x.1)&&(backToKw pos (keywordEach [] X.env)).all (fun x=>x.1.isSome)
   && decide (([e]:List Expr).length+([]:List Keyword).length+(if ([]:List Keyword).isEmpty then 0 else 1)<30))=true:=by rfl)
  (hline:(apos.endLine == pos.line)=true:=by rfl) (hs:starEach [e] X.env=[(false,eval e X.env)]:=by rfl):GE X B fl (.Call (.Attribute o "index" apos) [e] [] pos) (f2 f g yM) true 3:=by
 refine bQ (uW PySem.F.plainAttrs_list PySem.F.slot_list_index PySem.F.type_list_index ZW ho (eP he jR hs) hbase hfew hline hs rfl) ?_;rintro σ H Q ⟨Ex,ρ,M,t,S,hf,q⟩;obtain⟨x,hx,hf⟩:=bind_some hf;obtain⟨y,hy,hf⟩:=bind_some hf;cases x<;>first | (cases y<;>cases hf;done) | skip
 cases y<;>first | (cases hf;done) | skip
 rename_i us _ k;obtain⟨ns,ea,hg⟩:=bind_some (show ((dA us).bind fun ns=>if k∈ns then some (T.int (ns.idxOf k:Nat)) else none)=some t from hf);cases rL ea
 by_cases hk:k∈ns
 ·rw[if_pos hk] at hg
  cases (aIo hg);refine⟨Ex,ρ,M,_,S,hx,fun v H1 s1 rx=>?_⟩;obtain⟨p,xs,rfl,h1,h2⟩:=(rx.rep S).sqL;cases sL h2;refine⟨.inl ⟨rfl,_,h1⟩,Ex,ρ,M,_,S.grow s1,hy,fun v2 H2 s2 ry=>?_⟩;cases (aX.scal rfl).mp ry;have h1':SqL X.K H2 p (ns.map V.int):=by
   rcases h1 with h | h
   ·exact .inl (eQ (fun o q=>s2 _ _ q) h)
   ·exact .inr h
  exact⟨p,ns,k,rfl,rfl,h1',hk,q _ _ (s1.trans s2) ((aX.scal rfl).mpr rfl)⟩
 ·rw[if_neg hk] at hg
  cases hg
section
variable {X:Cx}{pins:List (Addr × Obj)}{σ:St}{H:Hp}{s:Shared}{h':Heap}
theorem JM {t':Nat}{fs:List Addr}{T:Addr}{ys:List V}(I:Inv X pins σ H s) (hT:s.heap.objs.size<=T) (k:∀ b o,b ∉ fs->s.heap.get? b=some o->h'.get? b=some o) (hf:∀ b∈fs,fH X pins H b)
  (new:dM X.prog X.w (upd H T (.tup ys)) h' T (.tup ys)):Inv X pins σ (upd H T (.tup ys)) { s with heap:=h',toks:=t' }:=by
 have hn:H T=none:=I.hok.fresh hT;have nfs:∀ b u,H b=some u->b ∉ fs:=fun b u e z=>by rw[(hf b z).1] at e;cases e
 have nT:∀ b (o:Obj),s.heap.get? b=some o->b≠T:=fun b o e z=>absurd (aIw (aJ9 e) (by rw[z];exact hT)) (aKx _);refine I.step (g':=s.gens) (d':=s.drawn) (ch:=fs) (fun b hb=>⟨(hf b hb).2.2.2.1,(hf b hb).2.1,(hf b hb).2.2.2.2.1,(hf b hb).2.2.2.2.2⟩) (fun b o _ _ hc e _=>k b o hc e) (fun b o _ _ hc e _=>⟨o.slots,k b o hc e⟩)
  (fun b o hc e n=>by rw[bG (nT b o e)];exact n) (fun b o hc e=>⟨o,k b o hc e⟩) (fun b xs e=>by rw[bG (gE e hn)];exact e) (fun b o u e=>by rw[bG (gE e hn)];exact e) (fun b ps e=>⟨#[],by rw[bG (gE e hn),e];simp⟩) (fun m hm=>?_) (fun b u e=>?_) I.bare
 ·obtain⟨o,es,ep,ho,r⟩:=hm
  exact⟨o,es,ep,k _ o (fun z=>(hf _ z).2.1 rfl) ho,r⟩
 ·by_cases hb:b=T
  ·subst hb;rw[eJ] at e;cases e;exact new
  ·rw[bG hb] at e
   refine (I.hok b u e).stay (fun c v hc q=>k c v ?_ q) (fun c q=>by rw[bG (gE q hn)];exact q) fun c xs q=>by rw[bG (gE q hn)];exact q
   rcases hc with z | z
   ·rw[z];exact nfs b u e
   ·exact nfs c _ z
theorem JL {t':Nat}{fs:List Addr}(I:Inv X pins σ H s) (k:∀ b o,b ∉ fs->s.heap.get? b=some o->h'.get? b=some o) (hf:∀ b∈fs,fH X pins H b):Inv X pins σ H { s with heap:=h',toks:=t' }:=by
 have nfs:∀ b u,H b=some u->b ∉ fs:=fun b u e z=>by rw[(hf b z).1] at e;cases e
 refine I.step (g':=s.gens) (d':=s.drawn) (ch:=fs) (fun b hb=>⟨(hf b hb).2.2.2.1,(hf b hb).2.1,(hf b hb).2.2.2.2.1,(hf b hb).2.2.2.2.2⟩) (fun b o _ _ hc e _=>k b o hc e) (fun b o _ _ hc e _=>⟨o.slots,k b o hc e⟩)
  (fun _ _ _ _ n=>n) (fun b o hc e=>⟨o,k b o hc e⟩) (fun _ _ e=>e) (fun _ _ _ e=>e) (fun b ps e=>⟨#[],by rw[e];simp⟩) (fun m hm=>?_) (fun b u e=>?_) I.bare
 ·obtain⟨o,es,ep,ho,r⟩:=hm
  exact⟨o,es,ep,k _ o (fun z=>(hf _ z).2.1 rfl) ho,r⟩
 ·refine (I.hok b u e).stay (fun c v hc q=>k c v ?_ q) (fun _ q=>q) fun _ _ q=>q
  rcases hc with z | z
  ·rw[z];exact nfs b u e
  ·exact nfs c _ z
end
def Ite (K:PySem.W.Frag) (a:Addr):It:=
 ⟨fun i H=>∃ xs x,SqL K H a xs/\xs[i]?=some x,fun i H x H'=>∃ T y,(∀ xs,SqL K H a xs->xs[i]?=some y)/\H T=none/\x=.ref T/\H'=upd H T (.tup [.int (i:Nat),y]),fun i H=>∃ xs,SqL K H a xs/\xs.length<=i⟩
theorem dD {h:Heap}{a b:Addr}{o o':Obj}(e:h.get? a=some o) (e':h.get? b=some o') (hc:o.cls≠o'.cls):a≠b:=fun z=>by
 subst z;rw[e] at e';cases e';exact hc rfl
theorem aG9 {P:Program}{w:World}{K:PySem.W.Frag}{elts:List Expr}{k:Nat}{pos:Pos}(a e it:Addr) (hei:e≠it):Turn P w K (.Tuple elts k pos) (Ite K a) [e,it] e (fun i h=>(∃ old,IsEnum h e it i old)/\h.IsListIter it a i) where
 mem:=by simp
 obj:=fun i h st b hb=>by
  obtain⟨⟨old,he⟩,hit⟩:=st;rcases aJ0.mp hb with rfl | hb
  ·exact⟨_,he,fun v z=>by cases (show Data.fields _=Data.cell v from z)⟩
  ·have eb:b=it:=by simpa using hb
   subst eb;obtain⟨o,q,c,d⟩:=hit;exact⟨o,q,fun v z=>by rw[d] at z;cases z⟩
 keep:=fun i h h' st kp=>by
  obtain⟨⟨old,he⟩,hit⟩:=st;exact⟨⟨old,kp e (by simp) _ he⟩,hit.at fun o q=>kp it (by simp) o q⟩
 item:=by
  intro X hP hw hK hc i pins s σ H E I hf st hg;subst hP hw hK;obtain⟨xs,x,hq,hx⟩:=hg;obtain⟨its,rv,p,hz⟩:=I.list hq;obtain⟨u,hu,ru⟩:=rv.get hx;obtain⟨⟨old,he⟩,hit⟩:=st;obtain⟨oit,eit,cit,dit⟩:=id hit;obtain⟨ol,el,cl,nl,dl⟩:=id p.isList;have hle:a≠e:=dD el he (by rw[cl];simp);have hli:a≠it:=dD el eit (by rw[cl,cit];simp);have W:=WalksT.enumerate (prog:=X.prog) (w:=X.w) (I.ok.hd hc) e it a hei hle hli its.toArray;have hi:i<its.toArray.size:=by
   have:=(aIt.mp hu).1
   simpa using this
  refine W.item i s _ E hi ⟨⟨old,he⟩,hit,p.isList⟩ fun T vals h1 tk hPt hT hTup hMid keep1=>⟨_,rfl,?_⟩;refine W.go elts k pos i T { s with heap:=h1,toks:=tk } _ E hMid fun h2 hSt keep2=>?_;obtain⟨t,v,hv,rfl⟩:=hPt;have hvu:v=u:=by
   have:its[i]?=some v:=by simpa using hv
   rw[hu] at this;exact (aIo this).symm
  subst hvu;have hTw:=W.apart i T h1 hMid;obtain⟨oT,eT,cT,nT,dT⟩:=hTup;have eT2:h2.get? T=some oT:=keep2 T oT hTw eT;have new:dM X.prog X.w (upd H T (.tup [.int (i:Nat),x])) h2 T (.tup [.int (i:Nat),x]):=by
   refine⟨by rw[sizeLine_eq];show 2<=16777216;decide,[.int (i:Nat) t,v],.cons ⟨t,rfl⟩ (.cons ru .nil),⟨oT,eT2,cT,nT,dT⟩⟩
  have I2:Inv X pins σ (upd H T (.tup [.int (i:Nat),x])) { s with heap:=h2,toks:=tk }:=JM (fs:=[e,it]) I hT (fun b o hb q=>keep2 b o hb (keep1 b o hb q)) hf new;refine⟨.ref T,_,I2,rfl,⟨T,x,fun ys hy=>by rw[I.list_inj hy hq];exact hx,I.hok.fresh hT,rfl,rfl⟩,⟨hSt.1,hSt.2.1⟩,fun b hb=>?_⟩;rw[bG (fun z=>hTw (by rw[<- z];exact hb))];exact (hf b hb).1
 done:=by
  intro X hP hw hK hc i pins s σ H E I hf st hg;subst hP hw hK;obtain⟨xs,hq,hx⟩:=hg;obtain⟨its,rv,p,hz⟩:=I.list hq;obtain⟨⟨old,he⟩,hit⟩:=st;obtain⟨oit,eit,cit,dit⟩:=id hit;obtain⟨ol,el,cl,nl,dl⟩:=id p.isList;have hle:a≠e:=dD el he (by rw[cl];simp);have hli:a≠it:=dD el eit (by rw[cl,cit];simp);have hl:=rv.length;exact wpAny_pyNext_enum_end (I.ok.hd hc) he hit p.isList (by simp;lia) fun h' hx=>⟨rfl,JL (t':=s.toks) (fs:=[e,it]) I (fun b o hb q=>hx b o (fun z=>hb (by simp[z])) q) hf⟩
 self:=fun A i s Q E st h=>by
  obtain⟨⟨old,he⟩,hit⟩:=st;exact wpAny_pyIter_enum he h
def Itz (K:PySem.W.Frag) (a b:Addr):It:=
  ⟨fun i H=>∃ xs ys x y,SqL K H a xs/\SqL K H b ys/\xs[i]?=some x/\ys[i]?=some y,
   fun i H x H'=>∃ T y z,(∀ xs,SqL K H a xs->xs[i]?=some y)/\(∀ ys,SqL K H b ys->ys[i]?=some z)/\H T=none/\x=.ref T/\H'=upd H T (.tup [y,z]),
   fun i H=>∃ xs ys,SqL K H a xs/\SqL K H b ys/\(xs.length<=i\/ys.length<=i)⟩
structure ZA (z TI TO i1 i2:Addr):Prop where
 TIz:TI≠z
 TOz:TO≠z
 i1z:i1≠z
 i2z:i2≠z
 TITO:TI≠TO
 TIi1:TI≠i1
 TIi2:TI≠i2
 TOi1:TO≠i1
 TOi2:TO≠i2
 i12:i1≠i2
theorem aGl (n:Nat):ZA (n+4) (n+2) (n+3) n (n+1):=by
 have h:∀ a b:Nat,a<b->(a:Addr)≠b/\(b:Addr)≠a:=fun a b q=>⟨aL5 q,aL4 q⟩;exact⟨(h _ _ (by lia)).1,(h _ _ (by lia)).1,(h _ _ (by lia)).1,(h _ _ (by lia)).1,(h _ _ (by lia)).1,(h _ _ (by lia)).2,(h _ _ (by lia)).2,(h _ _ (by lia)).2,(h _ _ (by lia)).2,(h _ _ (by lia)).1⟩
theorem aGc {P:Program}{w:World}{K:PySem.W.Frag}{elts:List Expr}{k:Nat}{pos:Pos}(a b z TI TO i1 i2:Addr) (A0:ZA z TI TO i1 i2):Turn P w K (.Tuple elts k pos) (Itz K a b) [z,TI,TO,i1,i2] z
  (fun i h=>IsZip h z TI TO .none/\IsPair h TI (.ref i1) (.ref i2)/\(∃ a b,IsPair h TO a b)/\h.IsListIter i1 a i/\h.IsListIter i2 b i) where
 mem:=by simp
 obj:=fun i h st c hc=>by
  obtain⟨hz,hTI,⟨u,v,hTO⟩,h1,h2⟩:=st;simp only[aJ0,List.mem_nil_iff,or_false] at hc;rcases hc with rfl | rfl | rfl | rfl | rfl
  ·exact⟨_,hz,fun v z=>by cases (show Data.fields _=Data.cell v from z)⟩
  ·exact⟨_,hTI,fun v z=>by cases (show Data.seq _ _=Data.cell v from z)⟩
  ·exact⟨_,hTO,fun v z=>by cases (show Data.seq _ _=Data.cell v from z)⟩
  ·obtain⟨o,q,c,d⟩:=h1
   exact⟨o,q,fun v z=>by rw[d] at z;cases z⟩
  ·obtain⟨o,q,c,d⟩:=h2
   exact⟨o,q,fun v z=>by rw[d] at z;cases z⟩
 keep:=fun i h h' st kp=>by
  obtain⟨hz,hTI,⟨u,v,hTO⟩,h1,h2⟩:=st;exact⟨kp z (by simp) _ hz,kp TI (by simp) _ hTI,⟨u,v,kp TO (by simp) _ hTO⟩,h1.at fun o q=>kp i1 (by simp) o q,h2.at fun o q=>kp i2 (by simp) o q⟩
 item:=by
  intro X hP hw hK hc i pins s σ H E I hf st hg;subst hP hw hK;obtain⟨xs,ys,x,y,hq,hq',hx,hy⟩:=hg;obtain⟨its,rv,p,hzl⟩:=I.list hq;obtain⟨its',rv',p',hzl'⟩:=I.list hq';obtain⟨u,hu,ru⟩:=rv.get hx;obtain⟨u',hu',ru'⟩:=rv'.get hy;obtain⟨hz,hTI,⟨w1,w2,hTO⟩,h1,h2⟩:=st;obtain⟨o1,e1,c1,d1⟩:=id h1;obtain⟨o2,e2,c2,d2⟩:=id h2;obtain⟨ol,el,cl,nl,dl⟩:=id p.isList;obtain⟨ol',el',cl',nl',dl'⟩:=id p'.isList;have D:ZipApart z TI TO i1 i2 a b:=⟨A0.TIz,A0.TOz,A0.i1z,A0.i2z,A0.TITO,A0.TIi1,A0.TIi2,A0.TOi1,A0.TOi2,A0.i12,
   dD el hz (by rw[cl];simp),dD el hTO (by rw[cl];simp),dD el e1 (by rw[cl,c1];simp),dD el e2 (by rw[cl,c2];simp),
   dD el' hz (by rw[cl'];simp),dD el' hTO (by rw[cl'];simp),dD el' e1 (by rw[cl',c1];simp),dD el' e2 (by rw[cl',c2];simp)⟩
  have W:=WalksT.zip2 (prog:=X.prog) (w:=X.w) (I.ok.hd hc) z TI TO i1 i2 a b D its.toArray its'.toArray;have hi:i<min its.toArray.size its'.toArray.size:=by
   have a1:=(aIt.mp hu).1;have a2:=(aIt.mp hu').1;simp;lia
  refine W.item i s _ E hi ⟨hz,hTI,⟨w1,w2,hTO⟩,h1,h2,p.isList,p'.isList⟩ fun T vals h1 tk hPt hT hTup hMid keep1=>⟨_,rfl,?_⟩;refine W.go elts k pos i T { s with heap:=h1,toks:=tk } _ E hMid fun h2 hSt keep2=>?_;obtain⟨v,v',hv,hv',rfl⟩:=hPt;have hvu:v=u:=by
   have:its[i]?=some v:=by simpa using hv
   rw[hu] at this;exact (aIo this).symm
  have hvu':v'=u':=by
   have:its'[i]?=some v':=by simpa using hv'
   rw[hu'] at this;exact (aIo this).symm
  subst hvu hvu';have hTw:=W.apart i T h1 hMid;obtain⟨oT,eT,cT,nT,dT⟩:=hTup;have eT2:h2.get? T=some oT:=keep2 T oT hTw eT;have new:dM X.prog X.w (upd H T (.tup [x,y])) h2 T (.tup [x,y]):=by
   refine⟨by rw[sizeLine_eq];show 2<=16777216;decide,[v,v'],.cons ru (.cons ru' .nil),⟨oT,eT2,cT,nT,dT⟩⟩
  have hsub:∀ c∈[z,TO,i1,i2],c∈[z,TI,TO,i1,i2]:=by simp
  have I2:Inv X pins σ (upd H T (.tup [x,y])) { s with heap:=h2,toks:=tk }:=JM (fs:=[z,TO,i1,i2]) I hT (fun b o hb q=>keep2 b o hb (keep1 b o hb q)) (fun b hb=>hf b (hsub b hb)) new;have hTn:∀ c∈[z,TI,TO,i1,i2],c≠T:=fun c hcm zz=>by
   by_cases hcT:c=TI
   ·exact absurd (aIw (aJ9 hTI) hT) (by rw[<- hcT,zz];exact aKx _)
   ·refine hTw ?_
    rw[<- zz];simp only[aJ0,List.mem_nil_iff,or_false] at hcm ⊢;rcases hcm with q | q | q | q | q
    ·exact .inl q
    ·exact absurd q hcT
    ·exact .inr (.inl q)
    ·exact .inr (.inr (.inl q))
    ·exact .inr (.inr (.inr q))
  refine⟨.ref T,_,I2,rfl,⟨T,x,y,fun zs hz=>by rw[I.list_inj hz hq];exact hx,fun zs hz=>by rw[I.list_inj hz hq'];exact hy,I.hok.fresh hT,rfl,rfl⟩,⟨hSt.1,hSt.2.1,hSt.2.2.1,hSt.2.2.2.1,hSt.2.2.2.2.1⟩,fun c hcm=>?_⟩;rw[bG (hTn c hcm)];exact (hf c hcm).1
 done:=by
  intro X hP hw hK hc i pins s σ H E I hf st hg;subst hP hw hK;obtain⟨xs,ys,hq,hq',hx⟩:=hg;obtain⟨its,rv,p,hzl⟩:=I.list hq;obtain⟨its',rv',p',hzl'⟩:=I.list hq';obtain⟨hz,hTI,⟨w1,w2,hTO⟩,h1,h2⟩:=st;obtain⟨o1,e1,c1,d1⟩:=id h1;obtain⟨o2,e2,c2,d2⟩:=id h2;obtain⟨ol,el,cl,nl,dl⟩:=id p.isList;obtain⟨ol',el',cl',nl',dl'⟩:=id p'.isList;have D:ZipApart z TI TO i1 i2 a b:=⟨A0.TIz,A0.TOz,A0.i1z,A0.i2z,A0.TITO,A0.TIi1,A0.TIi2,A0.TOi1,A0.TOi2,A0.i12,
   dD el hz (by rw[cl];simp),dD el hTO (by rw[cl];simp),dD el e1 (by rw[cl,c1];simp),dD el e2 (by rw[cl,c2];simp),
   dD el' hz (by rw[cl'];simp),dD el' hTO (by rw[cl'];simp),dD el' e1 (by rw[cl',c1];simp),dD el' e2 (by rw[cl',c2];simp)⟩
  have hl:=rv.length;have hl':=rv'.length;have hend:its.toArray[i]?=none\/its'.toArray[i]?=none:=by
   rcases hx with hx | hx
   ·exact .inl (by simp;lia)
   ·exact .inr (by simp;lia)
  exact wpAny_pyNext_zip_end (I.ok.hd hc) D hz hTI hTO h1 h2 p.isList p'.isList hend fun h' hk=>⟨rfl,JL (t':=s.toks) (fs:=[z,TI,TO,i1,i2]) I (fun b o hb q=>hk b o (fun x=>hb (by simp[x])) (fun x=>hb (by simp[x])) (fun x=>hb (by simp[x])) (fun x=>hb (by simp[x])) q) hf⟩
 self:=fun A i s Q E st h=>wpAny_pyIter_zip st.1 h
section
variable {X:Cx}{elts:List Expr}{k:Nat}{p2:Pos}
def YJ (K:PySem.W.Frag) (ta:TA):TI:=fun σ H R=>ta σ H fun vs H1=>∃ l xs,vs=[.ref l]/\SqL K H1 l xs/\R (Ite K l) H1
theorem aD3 {a:Expr}{ta:TA}{p pos:Pos}(hg:Gl X "enumerate") (hm:X.mg "enumerate" = none) (ha:PA X [a] ta) (hs:starEach [a] X.env=[(false,eval a X.env)]:=by rfl):PI X (.Tuple elts k p2) (.Call (.Name "enumerate" p) [a] [] pos) (YJ X.K ta):=by
 intro pins s σ H R I h;refine Call_ (nV I hg hm PyProof.Rows.boot_enumerate (PyProof.Rows.callWith_type1 (thn (ha pos pins s σ H _ I h) fun us s1 ⟨vs,H1,I1,r1,q1⟩=>?_) hs rfl));obtain⟨l,xs,e,hq,q⟩:=q1;subst e;cases r1 with
 | cons r rr=>
  cases rr;cases r;obtain⟨its,rv,p,hz⟩:=I1.list hq;refine call_enumerate_list p.isList fun h' he hit hsz keep=>wpAny_pyIter_enum he ?_;refine⟨_,[s1.heap.objs.size+1,s1.heap.objs.size],_,_,H1,rfl,I1.kept (t':=s1.toks) keep,aG9 l _ _ (aL4 (aL0 _)),⟨⟨_,he⟩,hit⟩,fun b hb=>?_,q⟩;have hb':s1.heap.objs.size<=b:=by
   simp only[aJ0,List.mem_nil_iff,or_false] at hb;rcases hb with rfl | rfl<;>lia
  exact I1.fpOk hb' (I1.hok.fresh hb')
def YM (K:PySem.W.Frag) (ta:TA):TI:=fun σ H R=>ta σ H fun vs H1=>∃ l l' xs ys,vs=[.ref l,.ref l']/\SqL K H1 l xs/\SqL K H1 l' ys/\R (Itz K l l') H1
theorem aD6 {a b:Expr}{ta:TA}{p pos:Pos}(hg:Gl X "zip") (hm:X.mg "zip" = none) (ha:PA X [a,b] ta) (hs:starEach [a,b] X.env=[(false,eval a X.env),(false,eval b X.env)]:=by rfl) (hs2:starEach [b] X.env=[(false,eval b X.env)]:=by rfl):PI X (.Tuple elts k p2) (.Call (.Name "zip" p) [a,b] [] pos) (YM X.K ta):=by
 intro pins s σ H R I h;refine Call_ (nV I hg hm PyProof.Rows.boot_zip (PyProof.Rows.callWith_type1 (thn (ha pos pins s σ H _ I h) fun us s1 ⟨vs,H1,I1,r1,q1⟩=>?_) (by rw[hs,hs2]) (by rw[hs2];rfl)));obtain⟨l,l',xs,ys,e,hq,hq',q⟩:=q1;subst e;cases r1 with
 | cons r rr=>
  cases rr with
  | cons r' rr=>
   cases rr;cases r;cases r';obtain⟨its,rv,p,hz⟩:=I1.list hq;obtain⟨its',rv',p',hz'⟩:=I1.list hq';refine call_zip_2 p.isList p'.isList fun h' a1 a2 a3 a4 a5 hsz keep=>wpAny_pyIter_zip a1 ?_;refine⟨_,[s1.heap.objs.size+4,s1.heap.objs.size+2,s1.heap.objs.size+3,s1.heap.objs.size,s1.heap.objs.size+1],_,_,H1,rfl,I1.kept (t':=s1.toks) keep,aGc l l' _ _ _ _ _ (aGl _),⟨a1,a2,⟨_,_,a3⟩,a4,a5⟩,fun b hb=>?_,q⟩;have hb':s1.heap.objs.size<=b:=by
    simp only[aJ0,List.mem_nil_iff,or_false] at hb;rcases hb with rfl | rfl | rfl | rfl | rfl<;>lia
   exact I1.fpOk hb' (I1.hok.fresh hb')
end
def dW (n:Nat):List T->List T
 | []=>[]
 | u::us=>.tup [.int (n:Int),u]::dW (n+1) us
theorem BL:∀ (us:List T) (n i:Nat),(dW n us)[i]?=(us[i]?).map fun u=>.tup [.int ((n+i:Nat):Int),u]
 | [],n,i=>by simp[dW]
 | u::us,n,0=>by simp[dW]
 | u::us,n,i+1=>by
  rw[dW,List.getElem?_cons_succ,BL us (n+1) i,List.getElem?_cons_succ]
  congr 2
  funext u
  congr 4
  omega
theorem HW:∀ (us:List T) (n:Nat),(dW n us).length=us.length
 | [],n=>rfl
 | u::us,n=>by simp[dW,HW us (n+1)]
def rS (fi:Rho->Option (List T)):Rho->Option (List T):=fun ρ=>(fi ρ).map (dW 0)
@[simp] theorem fEnum_at (fi:Rho->Option (List T)) (ρ:Rho):rS fi ρ=(fi ρ).map (dW 0):=rfl
def jU (xs ys:List T):List T:=List.zipWith (fun x y=>.tup [x,y]) xs ys
def xT (fi gi:Rho->Option (List T)):Rho->Option (List T):=fun ρ=>(fi ρ).bind fun xs=>(gi ρ).map fun ys=>jU xs ys
@[simp] theorem fZip_at (fi gi:Rho->Option (List T)) (ρ:Rho):xT fi gi ρ=(fi ρ).bind fun xs=>(gi ρ).map fun ys=>jU xs ys:=rfl
theorem AZ {K:PySem.W.Frag}{H H':Hp}{A:Addr->Prop}{u:T}{y:V}{sc:Bool}(hsc:sc=true->im u=true) (s:aZ H H') (r:Rep K H A u y):Rep K H' (Am sc A H) u y:=by
 cases sc with
 | false=>exact (r.grow s).weak fun b x=>⟨rfl,.inl x⟩
 | true=>exact sM u (hsc rfl) (r.grow s)
theorem aGh {K:PySem.W.Frag}{a:Addr}{us:List T}{sc:Bool}(hsc:sc=true->bF us=true):tO K (Ite K a) [(.lst us,.ref a)] (dW 0 us) sc:=by
 intro H A hA i;obtain⟨a',xs,e,hs,hr⟩:=(hA _ aIs).sqL;cases e;refine⟨fun t ht=>?_,fun hi=>⟨xs,hs,by rw[<- hr.length,<- HW us 0];exact hi⟩⟩;rw[BL] at ht;cases hu:us[i]? with
 | none=>rw[hu] at ht;cases ht
 | some u=>
  rw[hu] at ht;cases (aIo ht);obtain⟨y,hy,ry⟩:=hr.get hu;refine⟨⟨xs,y,hs,hy⟩,fun x H' hx=>?_⟩;obtain⟨T,y',hy',hT,rfl,rfl⟩:=hx;have:=hy' xs hs;rw[hy] at this;cases (aIo this);have sn:=eY hT (.tup [.int (i:Nat),y]);refine⟨sn,T,[.int (i:Nat),y],rfl,.inl (.inl eJ),.int (i:Nat),[y],rfl,?_,y,[],rfl,AZ (fun z=>aIu.mp (hsc z) u (aKl hu)) sn ry,rfl⟩;show V.int _=V.int _
  congr 1
  omega
theorem aGi {K:PySem.W.Frag}{a b:Addr}{us ws:List T}{sc:Bool}(hsc:sc=true->bF us=true/\bF ws=true):tO K (Itz K a b) [(.lst us,.ref a),(.lst ws,.ref b)] (jU us ws) sc:=by
 intro H A hA i;obtain⟨a',xs,e,hs,hr⟩:=(hA _ aIs).sqL;obtain⟨b',ys,e',hs',hr'⟩:=(hA _ (aIr _ aIs)).sqL;cases e;cases e';refine⟨fun t ht=>?_,fun hi=>⟨xs,ys,hs,hs',?_⟩⟩
 ·unfold jU at ht
  rw[List.getElem?_zipWith] at ht;cases hu:us[i]? with
  | none=>rw[hu] at ht;cases ht
  | some u=>
   cases hw:ws[i]? with
   | none=>rw[hu,hw] at ht;cases ht
   | some w=>
    rw[hu,hw] at ht;cases (aIo ht);obtain⟨y,hy,ry⟩:=hr.get hu;obtain⟨z,hz,rz⟩:=hr'.get hw;refine⟨⟨xs,ys,y,z,hs,hs',hy,hz⟩,fun x H' hx=>?_⟩;obtain⟨T,y',z',hy',hz',hT,rfl,rfl⟩:=hx;have q1:=hy' xs hs;have q2:=hz' ys hs';rw[hy] at q1;rw[hz] at q2;cases (aIo q1);cases (aIo q2);have sn:=eY hT (.tup [y,z]);exact⟨sn,T,[y,z],rfl,.inl (.inl eJ),y,[z],rfl,AZ (fun z=>aIu.mp (hsc z).1 u (aKl hu)) sn ry,z,[],rfl,AZ (fun z=>aIu.mp (hsc z).2 w (aKl hw)) sn rz,rfl⟩
 ·unfold jU at hi
  rw[List.length_zipWith] at hi;rw[<- hr.length,<- hr'.length];omega
section
variable {X:Cx}{B:Hp}{fl:List Nat}{e e':Expr}{f g:Rho->Option T}{n n':Bool}{l l':Nat}{pos p' p2:Pos}{x:Str}{elts:List Expr}{k:Nat}
theorem Ad.min3 {H:Hp}{M:List Addr}{a:Addr}(h:Ad B H M (min l 3) a):Ad B H M l a:=⟨fun z=>h.1 (by omega),fun z=>h.2.1 (by omega),fun z=>h.2.2 (by omega)⟩
theorem CS {t:T}{us:List T}(h:gD t=some us):t=.lst us/\bF us=true:=by
 cases t<;>first | (cases h;done) | skip
 unfold gD at h;dsimp only at h;split at h
 ·rename_i hfl
  cases (aIo h);exact⟨rfl,hfl⟩
 ·cases h
theorem XI {sc:Bool}{fi:Rho->Option (List T)}(hfi:∀ ρ us,fi ρ=some us->f ρ=some (.lst us)/\(sc=true->bF us=true)) (hx:x = "enumerate") (hg:Gl X x) (hm:X.mg x=none) (he:GE X B fl e f n l) (hs:starEach [e] X.env=[(false,eval e X.env)]):
  GI X B fl (.Tuple elts k p2) (.Call (.Name x p') [e] [] pos) (rS fi) l sc:=by
 subst hx;refine uX (aD3 hg hm (aD he aG hs) hs) ?_;rintro σ H R ⟨Ex,ρ,M,ts,S,hf,q⟩;unfold rS at hf;cases hu:fi ρ with
 | none=>rw[hu] at hf;cases hf
 | some us=>
  rw[hu] at hf;cases (aIo hf);obtain⟨h1,h2⟩:=hfi ρ us hu;refine⟨Ex,ρ,M,[.lst us],S,by unfold aC aF;rw[h1];rfl,fun vs H1 s1 r1=>?_⟩;obtain⟨y,rfl,ry⟩:=eH r1;obtain⟨p,xs,rfl,h3,h4⟩:=ry.sqL;exact⟨p,xs,rfl,h3,q _ H1 [(.lst us,.ref p)] s1 (fun pv hp=>by cases aKm.mp hp;exact ry.weak fun b x=>x.min3) (aGh h2)⟩
theorem IQ (hx:x = "enumerate") (hg:Gl X x) (hm:X.mg x=none) (he:GE X B fl e f n l) (hs:starEach [e] X.env=[(false,eval e X.env)]:=by rfl):
  GI X B fl (.Tuple elts k p2) (.Call (.Name x p') [e] [] pos) (rS (fFL f)) l true:=
 XI (fun ρ us h=>by
  obtain⟨t,h1,h2⟩:=bind_some h;obtain⟨h3,h4⟩:=CS h2;exact⟨by rw[h1,h3],fun _=>h4⟩) hx hg hm he hs
theorem XN {sc:Bool}{fi gi:Rho->Option (List T)}(hfi:∀ ρ us,fi ρ=some us->f ρ=some (.lst us)/\(sc=true->bF us=true)) (hgi:∀ ρ us,gi ρ=some us->g ρ=some (.lst us)/\(sc=true->bF us=true)) (hx:x = "zip") (hg:Gl X x) (hm:X.mg x=none) (he:GE X B fl e f n l) (he':GE X B fl e' g n' l')
  (hs:starEach [e,e'] X.env=[(false,eval e X.env),(false,eval e' X.env)]) (hs2:starEach [e'] X.env=[(false,eval e' X.env)]):
  GI X B fl (.Tuple elts k p2) (.Call (.Name x p') [e,e'] [] pos) (xT fi gi) (min l l') sc:=by
 subst hx;refine uX (aD6 hg hm (aD he (aD he' aG hs2) (by rw[hs,hs2])) hs hs2) ?_;rintro σ H R ⟨Ex,ρ,M,ts,S,hf,q⟩;obtain⟨us,hu,hf⟩:=bind_some hf;cases hw:gi ρ with
 | none=>rw[hw] at hf;cases hf
 | some ws=>
  rw[hw] at hf;cases (aIo hf);obtain⟨h1,h2⟩:=hfi ρ us hu;obtain⟨h1',h2'⟩:=hgi ρ ws hw;refine⟨Ex,ρ,M,[.lst us,.lst ws],S,by simp only[aC,aF,h1,h1',aLi],fun vs H1 s1 r1=>?_⟩;obtain⟨y,r,rfl,ry,r2⟩:=r1;obtain⟨z,rfl,rz⟩:=eH r2;obtain⟨p,xs,rfl,h3,h4⟩:=ry.sqL;obtain⟨p2,ys,rfl,h3',h4'⟩:=rz.sqL;have wk:∀ a,Ad B H M (min l (min l' 3)) a->Ad B H M (min l l') a:=fun a h=>⟨fun z=>h.1 (by omega),fun z=>h.2.1 (by omega),fun z=>h.2.2 (by omega)⟩;refine⟨p,p2,xs,ys,rfl,h3,h3',q _ H1 [(.lst us,.ref p),(.lst ws,.ref p2)] s1 (fun pv hp=>?_) (aGi fun z=>⟨h2 z,h2' z⟩)⟩;rcases aJ0.mp hp with rfl | hp
  ·exact ry.weak wk
  ·cases aKm.mp hp
   exact rz.weak wk
theorem XM (hx:x = "zip") (hg:Gl X x) (hm:X.mg x=none) (he:GE X B fl e f n l) (he':GE X B fl e' g n' l') (hs:starEach [e,e'] X.env=[(false,eval e X.env),(false,eval e' X.env)]:=by rfl) (hs2:starEach [e'] X.env=[(false,eval e' X.env)]:=by rfl):
  GI X B fl (.Tuple elts k p2) (.Call (.Name x p') [e,e'] [] pos) (xT (fFL f) (fFL g)) (min l l') true:=
 XN (fun ρ us h=>by
  obtain⟨t,h1,h2⟩:=bind_some h;obtain⟨h3,h4⟩:=CS h2;exact⟨by rw[h1,h3],fun _=>h4⟩) (fun ρ us h=>by
  obtain⟨t,h1,h2⟩:=bind_some h;obtain⟨h3,h4⟩:=CS h2;exact⟨by rw[h1,h3],fun _=>h4⟩) hx hg hm he he' hs hs2
end
def setL (ρ:Rho):List Nat->List T->Option Rho
 | [],[]=>some ρ
 | j::js,t::ts=>setL (ρ.set j (some t)) js ts
 | _,_=>none
def eZ (σ:St):List Nat->List V->St
 | j::js,v::vs=>eZ (σ.set j (some v)) js vs
 | _,_=>σ
def gNs (js:List Nat):TGs:=fun vs σ H Q=>vs.length=js.length/\Q (eZ σ js vs) H
theorem nS {X:Cx}:PGs X [] (gNs []):=by
 intro pins s σ H vs us Q I r h;refine aD2 pins s σ H vs us Q I r ⟨List.length_eq_zero_iff.mp h.1,?_⟩;have e:=List.length_eq_zero_iff.mp h.1;subst e;exact h.2
theorem eD {X:Cx}{j:Nat}{x:Str}{pos:Pos}{es:List Expr}{js:List Nat}(hN:X.N.Nodup) (hi:X.N[j]?=some x) (hx:Loc X.env.scope x) (h2:PGs X es (gNs js)) (hf:X.fn x=true\/X.env.scope.names.lookup x=some .local:=by first | exact .inl rfl | exact .inr rfl | assumption)
  (hs:(assignEach ((.Name x pos)::es) X.env).map (·.2)=assign (.Name x pos) X.env::(assignEach es X.env).map (·.2):=by rfl):PGs X ((.Name x pos)::es) (gNs (j::js)):=by
 intro pins s σ H vs us Q I r h;refine aD1 (yV hN hi hx hf) h2 hs pins s σ H vs us Q I r ?_
 match vs,h with
 | v::vr,h=>exact⟨v,vr,rfl,by simpa using h.1,h.2⟩
theorem MP:∀ (js:List Nat) (vs:List V) (σ:St),(eZ σ js vs).length=σ.length
 | [],_,_=>rfl
 | _::_,[],_=>rfl
 | j::js,v::vs,σ=>by rw[eZ,MP js vs];simp
theorem MO:∀ (js:List Nat) (vs:List V) (σ:St) (i:Nat),i ∉ js->(eZ σ js vs)[i]?=σ[i]?
 | [],_,_,_,_=>rfl
 | _::_,[],_,_,_=>rfl
 | j::js,v::vs,σ,i,h=>by
  have h1:i≠j:=fun z=>h (by rw[z];exact aIs);have h2:i ∉ js:=fun z=>h (aIr _ z);rw[eZ,MO js vs _ i h2,aIy (Ne.symm h1)]
theorem ED:∀ (js:List Nat) (ts:List T) (ρ ρ':Rho),setL ρ js ts=some ρ'->ts.length=js.length
 | [],[],_,_,_=>rfl
 | [],_::_,_,_,h=>by cases h
 | _::_,[],_,_,h=>by cases h
 | j::js,t::ts,ρ,ρ',h=>by simp[ED js ts _ ρ' h]
theorem Sl.setL {K:PySem.W.Frag}{B H:Hp}{fl:List Nat}{Ex:List (T × V)}{M:List Addr}{lv:Nat}:∀ (js:List Nat) (ts:List T) (vs:List V) {σ:St}{ρ ρ':Rho},Sl K B fl Ex σ ρ M H->(∀ j∈js,j<fl.length/\1<=fl.getD j 1/\min (fl.getD j 1) 2<=lv)->RepL K H (Ad B H M lv) ts vs->G.setL ρ js ts=some ρ'->Sl K B fl Ex (eZ σ js vs) ρ' M H
 | [],[],vs,σ,ρ,ρ',S,_,r,h=>by
  cases (aIo h);cases (show vs=[] from r);exact S
 | [],_::_,_,_,_,_,_,_,_,h=>by cases h
 | _::_,[],_,_,_,_,_,_,_,h=>by cases h
 | j::js,t::ts,vs,σ,ρ,ρ',S,hj,r,h=>by
  obtain⟨v,vr,rfl,r1,r2⟩:=r;have h0:=hj j aIs;exact Sl.setL js ts vr (S.set h0.1 (.inl h0.2.1) (r1.weak fun b x=>⟨fun z=>x.1 (by omega),fun z=>x.2.1 (by omega),fun z=>by omega⟩)) (fun i hi=>hj i (aIr _ hi)) r2 h
def eW (js:List Nat) (body:Rho->Option Out):List T->Rho->Option Out
 | [],ρ=>some (.nx ρ)
 | .tup us::ts,ρ=>(setL ρ js us).bind fun ρ1=>(body ρ1).bind fun o=>match o with | .nx ρ'=>eW js body ts ρ' | .ct ρ'=>eW js body ts ρ' | .bk ρ'=>some (.nx ρ') | .rt t=>some (.rt t)
 | _::_,_=>none
def DN (js:List Nat) (fi:Rho->Option (List T)) (body:Rho->Option Out):Rho->Option Out:=fun ρ=>(fi ρ).bind fun ts=>eW js body ts ρ
@[simp] theorem rForT_at (js:List Nat) (fi:Rho->Option (List T)) (body:Rho->Option Out) (ρ:Rho):DN js fi body ρ=(fi ρ).bind fun ts=>eW js body ts ρ:=rfl
theorem WI {js:List Nat}{body:Rho->Option Out}{t:T}{ts:List T}{ρ:Rho}{o:Out}(h:eW js body (t::ts) ρ=some o):∃ us ρ1 o1,t=.tup us/\setL ρ js us=some ρ1/\body ρ1=some o1/\(match o1 with | .nx ρ'=>eW js body ts ρ' | .ct ρ'=>eW js body ts ρ' | .bk ρ'=>some (.nx ρ') | .rt t=>some (.rt t))=some o:=by
 cases t with
 | tup us=>
  obtain⟨ρ1,h1,h⟩:=bind_some h;obtain⟨o1,h2,h⟩:=bind_some h;exact⟨us,ρ1,o1,rfl,h1,h2,h⟩
 | exc _=>cases h
 | dct _=>cases h
 | own _=>cases h
 | non=>cases h
 | bl _=>cases h
 | int _=>cases h
 | str _=>cases h
 | lst _=>cases h
theorem MA {K:PySem.W.Frag}{H:Hp}{A:Addr->Prop}{us:List T}{v:V}(h:Rep K H A (.tup us) v):∃ a xs,v=.ref a/\SqT K H a xs/\RepL K H A us xs:=h.sqT
theorem XU {X:Cx}{B:Hp}{fl:List Nat}{n:Bool}{l:Nat}{body:List Stmt}{r:Rho->Option Out}{pos p2:Pos}{k m:Nat}(js:List Nat) {iter:Expr}{elts:List Expr}{fi:Rho->Option (List T)}{li:Nat}{sc:Bool}(hp:PassesOwn (model X.prog X.w) X.A X.env X.xe) (hc:X.calm=true) (hi:GI X B fl (.Tuple elts k p2) iter fi li sc)
  (hg:PGs X elts (gNs js)) (hb:GSs X B fl n l body r) (hfl:(js.all fun j=>decide (j<fl.length)&&decide (fl.getD j 1=1))=true) (hli:decide (1<=li)=true)
  (hn:(assignEach elts X.env).length=m:=by rfl) (hst:(assignEach elts X.env).findIdx? (·.1)=none:=by rfl) (hm:js.length=m:=by rfl)
  (hs:∀ x,foldedSetIterable iter X.env x=pure x:=by intro _;rfl):
  GS X B fl n l (.For (.Tuple elts k p2) iter body [] pos) (DN js fi r):=by
 have hfl':∀ j∈js,j<fl.length/\1<=fl.getD j 1/\min (fl.getD j 1) 2<=1:=fun j hj=>by
  have:=aIu.mp hfl j hj;simp only[aJ1,decide_eq_true_eq] at this;exact⟨this.1,by omega,by omega⟩
 have hli:=of_decide_eq_true hli;refine dS (LJ hp hc hi (LE hc hg hn hst) hb hs) ?_;rintro D σ H ⟨Ex,ρ,M,o,S,hr,q⟩;obtain⟨ts,hts,hr⟩:=bind_some hr;refine⟨Ex,ρ,M,ts,S,hts,fun J H1 ps s1 rp wk=>?_⟩;refine⟨fun i m σ1 H2=>m=ts.length-i/\i<=ts.length/\∃ ρ1 M1,Sl X.K B fl (ps++Ex) σ1 ρ1 M1 H2/\eW js r (ts.drop i) ρ1=some o,⟨ts.length,by simp,aLf _,ρ,M,(S.grow s1).plus (fun p hp=>(rp p hp).weak fun b x=>⟨fun z=>x.1 (by omega),fun z=>by omega,fun z=>by omega⟩),hr⟩,?_⟩;rintro i m' σ1 H2 ⟨rfl,hi,ρ1,M1,S1,e1⟩;have w:=wk H2 _ (fun p hp=>S1.ex p (aKg _ hp)) i
 by_cases hlt:i<ts.length
 ·have et:ts[i]?=some ts[i]:=aIq hlt
  obtain⟨go,yl⟩:=w.1 _ et;rw[aJn hlt] at e1;obtain⟨us,ρ2,o1,eu,h0,h1,e1⟩:=WI e1;refine .inr ⟨go,fun σ' H'=>∃ ρ1 M1,Sl X.K B fl (ps++Ex) σ' ρ1 M1 H'/\eW js r (ts.drop (i+1)) ρ1=some o,fun σ' H' ⟨ρ',M',S',e'⟩=>⟨ts.length-(i+1),by omega,rfl,hlt,ρ',M',S',e'⟩,fun y H3 hy=>?_⟩;obtain⟨s23,ry⟩:=yl y H3 hy;have ry':Rep X.K H3 (Ad B H3 M1 1) ts[i] y:=ry.weak fun c hc=>by
   obtain⟨_,hc⟩:=hc;rcases hc with hc | hc
   ·exact⟨fun z=>hc.1 (aKv _),fun z=>by omega,fun z=>by omega⟩
   ·exact⟨fun _ z=>(S1.mB c z).2 hc,fun z=>by omega,fun z=>by omega⟩
  rw[eu] at ry';obtain⟨a,xs,rfl,hsq,rl⟩:=MA ry';have hlen:xs.length=js.length:=by rw[<- rl.length];exact ED js us ρ1 ρ2 h0
  refine⟨a,xs,rfl,hsq,by rw[hlen,hm],hlen,?_⟩;refine⟨ps++Ex,_,M1,o1,(S1.grow s23).setL js us xs hfl' rl h0,h1,?_⟩;cases o1 with
  | nx ρ'=>exact fun σ' M' H' S'=>⟨ρ',M',S',e1⟩
  | ct ρ'=>exact fun σ' M' H' S'=>⟨ρ',M',S',e1⟩
  | bk ρ'=>cases (aIo e1);exact fun σ' M' H' S'=>q σ' M' H' S'.fewer
  | rt t=>cases (aIo e1);exact q
 ·have ei:i=ts.length:=by omega
  subst ei;rw[List.drop_eq_nil_of_le (aKv _)] at e1;cases (aIo (show some (Out.nx ρ1)=some o from e1));exact .inl ⟨w.2 (aKv _),q σ1 M1 H2 S1.fewer⟩
def cN (js:List Nat) (p:Rho->Option Bool) (f:Rho->Option T) (ρ:Rho):List T->Option (List T)
 | []=>some []
 | .tup us::ts=>(setL ρ js us).bind fun ρ1=>(p ρ1).bind fun b=>if b then (f ρ1).bind fun y=>(cN js p f ρ ts).map (y :: ·) else cN js p f ρ ts
 | _::_=>none
def kH (js:List Nat) (fi:Rho->Option (List T)) (src:List (Option Nat)) (p:Rho->Option Bool) (f:Rho->Option T):Rho->Option T:=fun ρ=>
 (fi ρ).bind fun ts=>(cN js p f (bR src ρ) ts).bind fun us=>if us.length<=cap then some (.lst us) else none
@[simp] theorem fCompT_at (js:List Nat) (fi:Rho->Option (List T)) (src:List (Option Nat)) (p:Rho->Option Bool) (f:Rho->Option T) (ρ:Rho):kH js fi src p f ρ =
 (fi ρ).bind fun ts=>(cN js p f (bR src ρ) ts).bind fun us=>if us.length<=cap then some (.lst us) else none:=rfl
theorem TQ {js:List Nat}{p:Rho->Option Bool}{f:Rho->Option T}{ρ:Rho}{t:T}{ts us:List T}(h:cN js p f ρ (t::ts)=some us):
  ∃ xs ρ1 b,t=.tup xs/\setL ρ js xs=some ρ1/\p ρ1=some b/\((b=true/\∃ y r,f ρ1=some y/\cN js p f ρ ts=some r/\us=y::r)\/(b=false/\cN js p f ρ ts=some us)):=by
 cases t with
 | tup xs=>
  obtain⟨ρ1,h1,h⟩:=bind_some h;obtain⟨b,h2,h⟩:=bind_some h;refine⟨xs,ρ1,b,rfl,h1,h2,?_⟩;cases b with
  | true=>
   obtain⟨y,h3,h⟩:=bind_some (show ((f ρ1).bind fun y=>(cN js p f ρ ts).map (y :: ·))=some us from h);cases e:cN js p f ρ ts with
   | none=>rw[e] at h;cases h
   | some r=>rw[e] at h;cases (aIo h);exact .inl ⟨rfl,y,r,h3,rfl,rfl⟩
  | false=>exact .inr ⟨rfl,h⟩
 | exc _=>cases h
 | dct _=>cases h
 | own _=>cases h
 | non=>cases h
 | bl _=>cases h
 | int _=>cases h
 | str _=>cases h
 | lst _=>cases h
structure FlT (X:Cx) (N':List Str) (src:List (Option Nat)) (fl fl':List Nat) (li:Nat) (sc:Bool) (js:List Nat):Prop where
 nd:N'.Nodup
 own:∀ j∈js,src[j]?=some none
 cap:∀ (j i:Nat),src[j]?=some (some i)->fl'.getD j 1=fl.getD i 1
 pos:∀ j∈js,1<=fl'.getD j 1
 le:sc=false->∀ j∈js,fl'.getD j 1<=li
 xN:∀ (j i:Nat),src[j]?=some (some i)->N'[j]?=X.N[i]?/\j<N'.length
 lf:fl'.length=src.length
 lcs:lc fl'<=lc fl\/∀ j,fl'.getD j 1≠0
def HH (N N':List Str) (src:List (Option Nat)) (fl fl':List Nat) (li:Nat) (sc:Bool) (js:List Nat):Bool:=
 uM N'&&(js.all fun j=>(match src[j]? with | some none=>true | _=>false)&&decide (1<=fl'.getD j 1)&&(sc||decide (fl'.getD j 1<=li)))&&(fl'.length == src.length)&&(src.length == N'.length) &&
 (List.range src.length).all (fun j=>match src[j]? with | some (some i)=>(match N'[j]?,N[i]? with | some a,some b=>a == b | _,_=>false)&&(fl'.getD j 1 == fl.getD i 1) | _=>true)&&(decide (lc fl'<=lc fl) || !fl'.contains 0)
theorem tW {X:Cx}{N':List Str}{src:List (Option Nat)}{fl fl':List Nat}{li:Nat}{sc:Bool}{js:List Nat}(h:HH X.N N' src fl fl' li sc js=true):FlT X N' src fl fl' li sc js:=by
 unfold HH at h;have h8:=JT (aJ2.mp h).2;simp only[aJ1] at h;obtain⟨⟨⟨⟨⟨h1,h2⟩,h5⟩,h6⟩,h7⟩,_⟩:=h;have key:∀ j i,src[j]?=some (some i)->(N'[j]?=X.N[i]?/\j<N'.length)/\fl'.getD j 1=fl.getD i 1:=fun j i e=>by
  have hj:j<src.length:=(aIt.mp e).1;have t:=aIu.mp h7 j (aIv.mpr hj);rw[e] at t;simp only[aJ1] at t;refine⟨⟨?_,by rw[<- eq_of_beq h6];exact hj⟩,eq_of_beq t.2⟩;have t1:=t.1;cases q:N'[j]? with
  | none=>rw[q] at t1;cases t1
  | some a=>
   cases q2:X.N[i]? with
   | none=>rw[q,q2] at t1;cases t1
   | some b=>
    rw[q,q2] at t1;rw[eq_of_beq t1]
 have own:∀ j∈js,src[j]?=some none/\1<=fl'.getD j 1/\(sc=false->fl'.getD j 1<=li):=fun j hj=>by
  have t:=aIu.mp h2 j hj;simp only[aJ1,decide_eq_true_eq] at t;refine⟨?_,t.1.2,fun z=>by simpa [z] using t.2⟩;have t1:=t.1.1;cases q:src[j]? with
  | none=>rw[q] at t1;cases t1
  | some o=>
   cases o with
   | none=>rfl
   | some _=>rw[q] at t1;cases t1
 exact⟨fA h1,fun j hj=>(own j hj).1,fun j i e=>(key j i e).2,fun j hj=>(own j hj).2.1,fun z j hj=>(own j hj).2.2 z,fun j i e=>(key j i e).1,eq_of_beq h5,h8⟩
section
variable {X:Cx}{K:PySem.W.Frag}{B H:Hp}{fl fl':List Nat}{src:List (Option Nat)}{N':List Str}{Ex:List (T × V)}{σ σ1:St}{ρ:Rho}{M:List Addr}{li:Nat}{sc:Bool}{js:List Nat}
theorem Sl.block0 (F:FlT X N' src fl fl' li sc js) (S:Sl K B fl Ex σ ρ M H) (h0:∀ j,j ∉ js->σ1[j]?=(cZ src σ)[j]?) (hl:σ1.length=src.length):Sl K B fl' Ex σ1 (bR src ρ) M H:=by
 have get:∀ j u,(bR src ρ)[j]?=some (some u)->∃ i,src[j]?=some (some i)/\ρ[i]?=some (some u)/\j ∉ js:=fun j u e=>by
  obtain⟨i,e1,e2⟩:=NL e;exact⟨i,e1,e2,fun z=>by rw[F.own j z] at e1;cases e1⟩
 have put:∀ j i v,j ∉ js->src[j]?=some (some i)->σ[i]?=some (some v)->σ1[j]?=some (some v):=fun j i v hj e1 e2=>by
  rw[h0 j hj];exact NM e1 e2
 obtain⟨g,hg,ap⟩:=S.mu;refine⟨S.same,fun j u e k=>?_,⟨fun j=>g (((src[j]?).join).getD 0),fun j u e k hm=>?_,fun j j' c d u u' us ws hne e e' k k' hm hm'=>?_⟩,S.ex,S.mB,by rw[hl];exact Nat.le_of_eq F.lf⟩
 ·obtain⟨i,e1,e2,hj⟩:=get j u e
  rw[F.cap j i e1] at k ⊢;obtain⟨v,e3,r3⟩:=S.slot i u e2 k;exact⟨v,put j i v hj e1 e3,r3⟩
 ·obtain⟨i,e1,e2,hj⟩:=get j u e
  rw[F.cap j i e1] at k;obtain⟨v,e4,e5,e6⟩:=hg i u e2 k hm;simp only[show ((src[j]?).join).getD 0=i by rw[e1];rfl];refine⟨v,put j i _ hj e1 e4,e5,fun c us h=>?_⟩;obtain⟨xs,q1,q2,q3⟩:=e6 c us h;rcases F.lcs with lk | lk
  ·exact⟨xs,q1,q2.weak fun b x=>x.le lk,q3⟩
  ·exact absurd ((F.cap j i e1).trans k) (lk j)
 ·obtain⟨i,e1,e2,hj⟩:=get j u e
  obtain⟨i',e1',e2',hj'⟩:=get j' u' e';rw[F.cap j i e1] at k;rw[F.cap j' i' e1'] at k';have hii:j≠j'->i≠i':=fun hjj z=>by
   subst z;have q1:=F.xN j i e1;have q2:=F.xN j' i e1';have:N'[j]?=N'[j']?:=q1.1.trans q2.1.symm;rw[aIq q1.2,aIq q2.2] at this;exact hjj ((List.getElem_inj F.nd).mp (aIo this))
  simp only[show ((src[j]?).join).getD 0=i by rw[e1];rfl,show ((src[j']?).join).getD 0=i' by rw[e1'];rfl];exact ap i i' c d u u' us ws (hne.imp hii id) e2 e2' k k' hm hm'
end
def RJ (K:PySem.W.Frag) (H₁:Hp) (J:It) (ps:List (T × V)) (ts:List T) (sc:Bool):Prop:=
 ∀ (H:Hp) (A:Addr->Prop),aZ H₁ H->(∀ p∈ps,Rep K H A p.1 p.2)->∀ i:Nat,(∀ t,ts[i]?=some t->J.go i H/\∀ x H',J.yld i H x H'->aZ H H'/\Rep K H' (Am sc A H) t x)/\(ts.length<=i->J.stop i H)
def EI (K:PySem.W.Frag) (B:Hp) (fl:List Nat) (f:Rho->Option (List T)) (l:Nat) (sc:Bool):TI:=fun σ H R=>
 ∃ Ex ρ M ts,Sl K B fl Ex σ ρ M H/\f ρ=some ts/\∀ J H' ps,aZ H H'->(∀ p∈ps,Rep K H' (Ad B H M l) p.1 p.2)->RJ K H' J ps ts sc->R J H'
def GIc (X:Cx) (B:Hp) (fl:List Nat) (tg e:Expr) (f:Rho->Option (List T)) (l:Nat) (sc:Bool):Prop:=PI X tg e (EI X.K B fl f l sc)
theorem GI.c {X:Cx}{B:Hp}{fl:List Nat}{tg e:Expr}{f:Rho->Option (List T)}{l:Nat}{sc:Bool}(h:GI X B fl tg e f l sc):GIc X B fl tg e f l sc:=
 uX h fun _ _ _ ⟨Ex,ρ,M,ts,S,hf,q⟩=>⟨Ex,ρ,M,ts,S,hf,fun J H' ps s r w=>q J H' ps s r fun H2 A _ hA=>w H2 A hA⟩
section
variable {X:Cx}{B:Hp}{fl fl':List Nat}{elt iter:Expr}{elts:List Expr}{ifs:List Expr}{scope:Scope}{pos p2:Pos}{N':List Str}{src:List (Option Nat)}{fi:Rho->Option (List T)}{p:Rho->Option Bool}{f:Rho->Option T}{n sc:Bool}{l li k m:Nat}{js:List Nat}
theorem TW (F:FlT X N' src fl fl' li sc js) (hl1':1<=l) (hm:js.length=m) {σ:St}{H:Hp}{Q:VK}(h:tG X.K B fl (kH js fi src p f) true l σ H Q):
  xE (EI X.K B fl fi li sc) (cZ src) (tY X.K m (gNs js)) (tGT X.K B fl' p) (tG X.K B fl' f n l) σ H Q:=by
 obtain⟨Ex,ρ,M,t,S,hf,q⟩:=h;obtain⟨ts,hts,hf⟩:=bind_some hf;obtain⟨fin,hfin,hf⟩:=bind_some hf;split at hf
 rotate_left
 ·cases hf
 rename_i hcap;cases (aIo hf);refine⟨Ex,ρ,M,ts,S,hts,fun J H1 ps s01 rp wk=>?_⟩;intro D hD;refine⟨fun i m σ1 H2=>m=ts.length-i/\i<=ts.length/\aZ H1 H2/\σ1.length=src.length/\(∀ j,j ∉ js->σ1[j]?=(cZ src σ)[j]?) /\
  ∃ us rest xs,us++rest=fin/\cN js p f (bR src ρ) (ts.drop i)=some rest/\H2 D=some (.lst xs)/\RepL X.K H2 (fun b=>Ad B H M l b/\b≠D) us xs,?_,?_⟩
 ·refine⟨ts.length,by simp,aLf _,eY hD _,by unfold cZ;simp,fun _ _=>rfl,[],fin,[],rfl,by simpa using hfin,eJ,rfl⟩
 ·rintro i m' σ1 H2 ⟨rfl,hi,s12,hl1,hσ,us,rest,xs,e1,e2,e3,e4⟩
  have hD2:H2 D≠none:=by rw[e3];simp
  have S2:=(S.grow s01).more hD s12 hD2;have rp1:∀ pv∈ps,Rep X.K H1 (fun b=>Ad B H M li b/\b≠D) pv.1 pv.2:=fun pv hpv=>Rep.keep (fun _ _ e=>e) (fun _ _ _ e=>e) (fun b x y=>⟨x,fun z=>y (z ▸ hD)⟩) pv.1 (rp pv hpv);have w:=wk H2 _ s12 (fun pv hpv=>(rp1 pv hpv).grow s12) i
  by_cases hlt:i<ts.length
  ·refine .inr ?_
   have et:ts[i]?=some ts[i]:=aIq hlt;obtain⟨go,yl⟩:=w.1 _ et;refine⟨go,fun x H3 hy=>?_⟩;obtain⟨s23,rx⟩:=yl x H3 hy;rw[aJn hlt] at e2;obtain⟨ws,ρ1,b,ew,hset,hb,hcase⟩:=TQ e2;have S3:=S2.grow s23;have rx':Rep X.K H3 (Ad B H3 (D::M) (if sc then 2 else min li 2)) ts[i] x:=rx.weak fun c hc=>by
    obtain⟨h0,hc⟩:=hc;rw[if_neg (by rw[h0];simp)];rcases hc with hc | hc
    ·refine⟨fun z w=>?_,fun z=>hc.1.2.1 (by omega),fun z=>by omega⟩
     rcases aJ0.mp w with rfl | w
     ·exact hc.2 rfl
     ·exact hc.1.1 (by omega) w
    ·exact⟨fun _ z=>(S2.mB c z).2 hc,fun _=>S2.same.free hc,fun z=>by omega⟩
   rw[ew] at rx';obtain⟨a,vs,rfl,hsq,rl⟩:=MA rx';have hlen:vs.length=js.length:=by rw[<- rl.length];exact ED js ws _ _ hset
   have hjs:∀ j∈js,j<fl'.length/\1<=fl'.getD j 1/\min (fl'.getD j 1) 2<=(if sc then 2 else min li 2):=fun j hj=>by
    refine⟨by rw[F.lf];exact (aIt.mp (F.own j hj)).1,F.pos j hj,?_⟩;cases hsc:sc with
    | true=>simp only[if_true];omega
    | false=>
     have:=F.le hsc j hj;simp only[aJ4,if_false];omega
   have Sb:=(Sl.block0 (σ1:=σ1) F S3 hσ hl1).setL js ws vs hjs rl hset;refine⟨a,vs,rfl,hsq,by rw[hlen,hm],hlen,?_⟩;show tGT X.K B fl' p (eZ σ1 js vs) H3 _;refine⟨Ex,_,D::M,b,Sb,hb,fun H5 s35=>?_⟩;have hσ':∀ j,j ∉ js->(eZ σ1 js vs)[j]?=(cZ src σ)[j]?:=fun j hj=>by rw[MO js vs σ1 j hj];exact hσ j hj
   have hl1'':(eZ σ1 js vs).length=src.length:=by rw[MP];exact hl1
   rcases hcase with ⟨rfl,y,r,hy',hr,rfl⟩ | ⟨rfl,hr⟩
   ·refine hU ⟨Ex,_,D::M,y,Sb.grow s35,hy',fun v H6 s56 rv=>?_⟩
    have s26:=(s23.trans s35).trans s56;have e5:=s26 _ _ e3;have hl:xs.length<sizeLine:=by
     rw[<- e4.length];refine gU (aKw ?_ hcap);rw[<- e1];simp
    refine⟨xs,e5,hl,ts.length-(i+1),by omega,rfl,hlt,?_,hl1'',hσ',us++[y],r,xs++[v],by rw[<- e1];simp,hr,eJ,?_⟩
    ·intro c o hc
     have:c≠D:=fun z=>by rw[z,hD] at hc;cases hc
     rw[bG this];exact (s12.trans s26) c o hc
    ·have k1:RepL X.K H6 (fun b=>Ad B H M l b/\b≠D) us xs:=e4.grow s26
     have k2:Rep X.K H6 (fun b=>Ad B H M l b/\b≠D) y v:=by
      have z:=rv.rep (Sb.grow s35);exact z.weak fun c hc=>⟨⟨fun k w=>hc.1 k (aIr _ w),hc.2.1,fun k=>((s01.trans s12).trans (s23.trans s35)).free (hc.2.2 k)⟩,fun w=>hc.1 hl1' (by rw[w];exact aIs)⟩
     exact (RepL.app k1 (RepL.one k2)).keep (fun c _ e=>hZ e5 e) (fun c o hc e=>by rw[bG hc.2];exact e) (fun c hc _=>hc) _
   ·refine hG ⟨ts.length-(i+1),by omega,rfl,hlt,(s12.trans s23).trans s35,hl1'',hσ',us,rest,xs,e1,hr,(s23.trans s35) _ _ e3,e4.grow (s23.trans s35)⟩
  ·have ei:i=ts.length:=by omega
   subst ei;refine .inl ⟨w.2 (aKv _),?_⟩;rw[List.drop_eq_nil_of_le (aKv _)] at e2;cases (aIo (show some []=some rest from e2));rw[List.append_nil] at e1;subst e1;exact q _ H2 (s01.trans s12) ⟨D,xs,rfl,s01.free hD,e3,e4⟩
theorem tZ (S:BlkOk X scope N' src) (F:FlT X N' src fl fl' li sc js) (hl1:1<=l) (hc:X.calm=true) (hi:GI X B fl (.Tuple elts k p2) iter fi li sc)
  (hg:∀ cl C s H ex,PG (cxB X scope N' cl C s H ex) (.Tuple elts k p2) (tY X.K m (gNs js))) (hm:js.length=m)
  (hb:∀ cl C s H ex,GIf (cxB X scope N' cl C s H ex) B fl' ifs p/\GE (cxB X scope N' cl C s H ex) B fl' elt f n l)
  (hs:∀ x,foldedSetIterable iter X.env x=pure x:=by intro _;rfl):GE X B fl (.ListComp elt [⟨.Tuple elts k p2,iter,ifs,0⟩] scope pos) (kH js fi src p f) true l:=
 bQ (LA (wi:=EI X.K B fl fi li sc) (g:=tY X.K m (gNs js)) (tc:=tGT X.K B fl' p) (te:=tG X.K B fl' f n l) S hc hi.c (fun cl C s H ex=>⟨hg cl C s H ex,(hb cl C s H ex).1,(hb cl C s H ex).2⟩) hs) fun σ H Q h=>TW F hl1 hm h
end
theorem pgT {X:Cx}{elts:List Expr}{k m:Nat}{p2:Pos}{js:List Nat}(hc:X.calm=true) (h:PGs X elts (gNs js)) (hn:(assignEach elts X.env).length=m:=by rfl) (hst:(assignEach elts X.env).findIdx? (·.1)=none:=by rfl):PG X (.Tuple elts k p2) (tY X.K m (gNs js)):=LE hc h hn hst
def YQ:Expr->Option Int
 | .Constant (.int i) _ _=>some i
 | _=>none
def yG:List Expr->Option (List Int)
 | []=>some []
 | e::es=>(YQ e).bind fun i=>(yG es).map (i :: ·)
theorem IK {X:Cx}{B:Hp}{fl:List Nat}:∀ (es:List Expr) (ns:List Int),yG es=some ns->GA X B fl es (fun _=>some (tI ns)) 3
 | [],ns,h=>by
  cases (aIo h);exact aG
 | e::es,ns,h=>by
  obtain⟨i,h1,h⟩:=bind_some h;cases h2:yG es with
  | none=>rw[h2] at h;cases h
  | some ms=>
   rw[h2] at h;cases (aIo h);have ih:=IK (X:=X) (B:=B) (fl:=fl) es ms h2;cases e<;>first | (cases h1;done) | skip
   rename_i c j pos;cases c<;>first | (cases h1;done) | skip
   cases (aIo h1);have:=aD (X:=X) (B:=B) (fl:=fl) (aE (i:=i) (j:=j) (pos:=pos)) ih (by rfl);exact this
theorem uB {X:Cx}{B:Hp}{fl:List Nat}{es:List Expr}{pos:Pos}{ns:List Int}(h:yG es=some ns) (hl:decide (ns.length<=cap)=true):GE X B fl (.List es pos) (fC (.lst (tI ns))) true 3:=by
 refine bQ (eB (B:=B) (fl:=fl) (IK es ns h)) ?_;rintro σ H Q ⟨Ex,ρ,M,t,S,hf,q⟩;refine⟨Ex,ρ,M,t,S,?_,q⟩;cases (aIo hf);show (if (tI ns).length<=cap then some (T.lst (tI ns)) else none)=_;rw[if_pos (by rw[tI_length];exact of_decide_eq_true hl)]
@[simp] theorem setL_nil (ρ:Rho):setL ρ [] []=some ρ:=rfl
@[simp] theorem setL_cons (ρ:Rho) (j:Nat) (js:List Nat) (t:T) (ts:List T):setL ρ (j::js) (t::ts)=setL (ρ.set j (some t)) js ts:=rfl
theorem TK {f:Rho->Option T}{ρ:Rho}{ns:List Int}(h:Nat->Int) (h2:∀ i,i<ns.length->f ((ρ.set 0 (some (.int (i:Int)))).set 1 (some (.int (ns.getD i 0))))=some (.int (h i))):
  cN [0,1] bE f ρ (dW 0 (tI ns))=some (tI ((List.range ns.length).map h)):=by
 have key:∀ (ms:List Int) (n:Nat),(∀ i,i<ms.length->f ((ρ.set 0 (some (.int ((n+i:Nat):Int)))).set 1 (some (.int (ms.getD i 0))))=some (.int (h (n+i))))->cN [0,1] bE f ρ (dW n (tI ms))=some (tI ((List.range' n ms.length).map h)):=by
  intro ms
  induction ms with
  | nil=>intro n _;rfl
  | cons m ms ih=>
   intro n hh;have e0:=hh 0 (by simp);have ih':=ih (n+1) (fun i hi=>by
    have:=hh (i+1) (by simpa using hi);rw[show n+1+i=n+(i+1) by lia]
    simpa using this)
   rw[Nat.add_zero] at e0;show (setL ρ [0,1] [.int (n:Int),.int m]).bind _=_;simp only[setL_cons,setL_nil,aLi,bE,if_true];rw[show f ((ρ.set 0 (some (.int (n:Int)))).set 1 (some (.int m)))=some (.int (h n)) from e0];show ((cN [0,1] bE f ρ (dW (n+1) (tI ms))).map (T.int (h n) :: ·))=_;rw[ih']
   rfl
 have:=key ns 0 (fun i hi=>by rw[aLe];exact h2 i hi)
 rwa [<- List.range_eq_range'] at this
theorem WC (ns:List Int):dW 0 (tI ns)=(List.range ns.length).map fun p=>.tup [.int (p:Int),.int (ns.getD p 0)]:=by
 apply List.ext_getElem?
 intro i;rw[BL,NE,aJx,aLe]
 by_cases h:i<ns.length
 ·rw[List.getElem?_range h,aIq h]
  simp[aIp,h]
 ·rw[aJv (Nat.le_of_not_lt h),aJv (by simpa using h)];rfl
def dR:List Int->Int
 | []=>0
 | x::r=>r.foldl (fun a b=>if b<a then b else a) x
theorem GF (c:Int->Int->Bool) (ns:List Int):∀ k,k<ns.length ->
  ns.getD (argBest (fun i j=>c (ns.getD i 0) (ns.getD j 0)) k) 0=((ns.take (k+1)).drop 1).foldl (fun a b=>if c b a then b else a) (ns.getD 0 0)
 | 0,h=>by
  cases ns with
  | nil=>simp at h
  | cons x r=>simp[argBest]
 | k+1,h=>by
  have ih:=GF c ns k (by lia);have e:(ns.take (k+1+1)).drop 1=(ns.take (k+1)).drop 1++[ns.getD (k+1) 0]:=by
   rw[List.take_succ,List.drop_append_of_le_length (by rw[List.length_take];lia)];simp[aIp,h]
  rw[e,List.foldl_append,<- ih];rw[argBest];cases hb:c (ns.getD (k+1) 0) (ns.getD (argBest (fun i j=>c (ns.getD i 0) (ns.getD j 0)) k) 0) with
  | true=>simp only[List.foldl_cons,List.foldl_nil,hb,if_true]
  | false=>simp only[List.foldl_cons,List.foldl_nil,hb,aJ4,if_false]
theorem RQ {ns:List Int}(h:0<ns.length):ns.getD (argBest (fun i j=>decide (ns.getD i 0<ns.getD j 0)) (ns.length-1)) 0=dR ns:=by
 have:=GF (fun a b=>decide (a<b)) ns (ns.length-1) (by lia);rw[this];cases ns with
 | nil=>simp at h
 | cons x r=>simp[dR]
theorem xU:∀ (r:List Int) (x:Int),r.foldl (fun a b=>if b<a then b else a) x<=x/\(∀ y∈r,r.foldl (fun a b=>if b<a then b else a) x<=y)/\(r.foldl (fun a b=>if b<a then b else a) x=x\/r.foldl (fun a b=>if b<a then b else a) x∈r)
 | [],x=>⟨aJe _,by simp,.inl rfl⟩
 | z::r,x=>by
  rw[List.foldl_cons];obtain⟨h1,h2,h3⟩:=xU r (if z<x then z else x);have hw:(if z<x then z else x)=z/\z<x\/(if z<x then z else x)=x/\¬ z<x:=by
   by_cases h:z<x
   ·exact .inl ⟨if_pos h,h⟩
   ·exact .inr ⟨if_neg h,h⟩
  generalize (if z<x then z else x)=w at h1 h2 h3 hw;refine⟨by lia,fun y hy=>?_,?_⟩
  ·rcases aJ0.mp hy with rfl | hy
   ·lia
   ·exact h2 y hy
  ·rcases h3 with h3 | h3
   ·rw[h3]
    rcases hw with hw | hw
    ·rw[hw.1];exact .inr aIs
    ·exact .inl hw.1
   ·exact .inr (aIr _ h3)
theorem JX {ns:List Int}(h:ns≠[]):dR ns∈ns:=by
 cases ns with
 | nil=>exact absurd rfl h
 | cons x r=>
  rcases (xU r x).2.2 with e | e
  ·rw[dR,e];exact aIs
  ·exact aIr _ e
theorem JW {ns:List Int}{y:Int}(h:y∈ns):dR ns<=y:=by
 cases ns with
 | nil=>cases h
 | cons x r=>
  rcases aJ0.mp h with rfl | h
  ·exact (xU r _).1
  ·exact (xU r x).2.1 y h
def yN:List T->Option T
 | [.lst ts]=>(dA ts).bind fun ns=>if ns=[] then none else some (.int (dR ns))
 | _=>none
theorem aA9 {ns:List Int}(h:ns≠[]):yN [.lst (tI ns)]=some (.int (dR ns)):=by simp[yN,xJ,h]
section
variable {X:Cx}{B:Hp}{fl:List Nat}{e:Expr}{es:List Expr}{f:Rho->Option T}{fa:Rho->Option (List T)}{n n':Bool}{l l' k:Nat}{pos p' p2:Pos}{x:Str}{ps:List Str}{F:List T->Option T}
theorem SL (hc:X.calm=true):fS X (.builtin "min") (fun xs H Q=>∃ (a:Addr) (ns:List Int),xs=[.ref a]/\ns≠[]/\SqL X.K H a (ns.map V.int)/\Q (.int (dR ns)) H):=by
 intro pins s σ H xs us Q I r h;obtain⟨a,ns,rfl,hne,hS,q⟩:=h;obtain⟨u,rfl,ru⟩:=mK r;cases ru;obtain⟨its,rv,p,hz⟩:=I.list hS;have hl:=rv.length;have ha:a<s.heap.objs.size:=by obtain⟨o,n,e,_⟩:=p;exact aJ9 e
 have es:its.toArray.size=ns.length:=by simp only[aIx];rw[<- hl];simp
 have hpos:0<ns.length:=List.length_pos_iff.mpr hne;have val:∀ i v,its.toArray[i]?=some v->∃ t,v=Value.int (ns.getD i 0) t:=fun i v hv=>by
  have hv':its[i]?=some v:=by simpa using hv
  have hi:i<its.length:=(aIt.mp hv').1;have hin:i<ns.length:=by rw[aK5] at hl;lia
  have e1:(ns.map V.int)[i]?=some (V.int (ns.getD i 0)):=by
   rw[aJx,aIq hin];simp[aIp,hin]
  obtain⟨u,e2,ru⟩:=rv.get e1;rw[hv'] at e2;cases (aIo e2);exact ru
 refine call_min_walkS (wpAny_pyIter_list p.isList ?_);refine⟨s.heap.objs.size,[s.heap.objs.size,a],[s.heap.objs.size],_,its.toArray.size,_,_,_,rfl,(Walks.list (A:=X.A.in1) (I.ok.hd hc) s.heap.objs.size a (aL5 ha) its.toArray).toS,⟨⟨_,aJ8 _ rfl,rfl,rfl⟩,p.isList.push _⟩,fun b hb=>?_,by lia,CmpOf.ints_lt (fun i=>ns.getD i 0) val,fun v s' hP mv=>?_⟩
 ·simp only[aJ0,List.mem_nil_iff,or_false] at hb
  rw[aJa];rcases hb with rfl | rfl
  ·exact aL0 _
  ·exact Nat.lt_succ_of_lt ha
 ·obtain⟨t,rfl⟩:=val _ _ hP
  rw[es,RQ hpos];exact⟨.int (dR ns),H,CP I _ mv,⟨_,rfl⟩,q⟩
theorem XD (hx:x = "min") (hc:X.calm=true) (hg:Gl X x) (hm:X.mg x=none) (ha:GA X B fl (e::es) fa l)
  (he:starEach (e::es) X.env=(false,eval e X.env)::starEach es X.env:=by rfl) (hpl:(backTo pos (starEach es X.env)).any (·.1)=false:=by rfl):GE X B fl (.Call (.Name x p') (e::es) [] pos) (aI fa yN) true 3:=by
 subst hx;refine bQ (pB (SL hc) hg hm PyProof.Rows.boot_min ha (by decide) (by decide) he hpl) ?_;rintro σ H Q ⟨Ex,ρ,M,t,S,hf,q⟩;obtain⟨ts,hts,hf⟩:=bind_some hf;refine⟨Ex,ρ,M,ts,S,hts,fun vs H1 s1 r1=>?_⟩
 match ts,hf with
 | [.lst us],hf=>
  obtain⟨ns,ea,hg⟩:=bind_some (show ((dA us).bind fun ns=>if ns=[] then none else some (T.int (dR ns)))=some t from hf);cases rL ea
  by_cases hne:ns=[]
  ·rw[if_pos hne] at hg;cases hg
  ·rw[if_neg hne] at hg
   cases (aIo hg);obtain⟨y,rfl,ry⟩:=eH r1;obtain⟨p,xs,rfl,h1,h2⟩:=ry.sqL;cases sL h2;exact⟨p,ns,rfl,hne,h1,q _ H1 s1 ((aX.scal rfl).mpr rfl)⟩
def oIn:T->T->Option T
 | .int i,.lst ts=>(dA ts).map fun ns=>.bl (ns.contains i)
 | .int i,.tup ts=>(dA ts).map fun ns=>.bl (ns.contains i)
 | _,_=>none
theorem CM (i:Int):∀ ns:List Int,inV (.int i) (ns.map V.int)=ns.contains i
 | []=>rfl
 | n::ns=>by
  have ih:=CM i ns;unfold inV at ih ⊢;rw[aKc,List.any_cons,ih,List.contains_cons];have:eqV (.int n) (.int i)=(i == n):=by
   show (n == i)=(i == n);exact Bool.beq_comm
  rw[this]
theorem BU:∀ ns:List Int,(ns.map V.int).all jI=true
 | []=>rfl
 | n::ns=>by rw[aKc,aJm,BU ns];rfl
theorem XQ {K:PySem.W.Frag}:GOp K (rIn K false) oIn:=by
 intro x y t h;cases x<;>first | (cases h;done) | skip
 rename_i i;cases y<;>first | (cases h;done) | skip
 ·rename_i us
  have h:(dA us).map (fun ns=>T.bl (ns.contains i))=some t:=h;cases ea:dA us with
  | none=>rw[ea] at h;cases h
  | some ns=>
   rw[ea] at h;cases (aIo h);cases rL ea;refine⟨rfl,fun H A A' vx vy rx ry Q q=>?_⟩;cases (show _=_ from rx);obtain⟨p,xs,rfl,h1,h2⟩:=ry.sqL;cases sL h2;refine⟨p,_,rfl,.inl h1,rfl,BU ns,?_⟩;rw[CM];exact q
 ·rename_i us
  have h:(dA us).map (fun ns=>T.bl (ns.contains i))=some t:=h;cases ea:dA us with
  | none=>rw[ea] at h;cases h
  | some ns=>
   rw[ea] at h;cases (aIo h);cases rL ea;refine⟨rfl,fun H A A' vx vy rx ry Q q=>?_⟩;cases (show _=_ from rx);obtain⟨p,xs,rfl,h1,h2⟩:=ry.sqT;cases sL h2;refine⟨p,_,rfl,.inr h1,rfl,BU ns,?_⟩;rw[CM];exact q
variable {a b:Expr}{g:Rho->Option T}
theorem IX (ha:GE X B fl a f n l) (hb:GE X B fl b g n' l') (hm:behindInMarks .In b=false:=by rfl):GT X B fl (.Compare a [.In] [b] pos) (fB (f2 f g oIn)):=rY aCa XQ ha hb hm
def cS (p:Rho->Option Bool) (r:Rho->Option Out):Nat->Rho->Option Out
 | 0,_=>none
 | k+1,ρ=>(p ρ).bind fun b=>if b then (r ρ).bind fun o=>match o with | .nx ρ'=>cS p r k ρ' | .ct ρ'=>cS p r k ρ' | .bk ρ'=>some (.nx ρ') | .rt t=>some (.rt t) else some (.nx ρ)
def gI (p:Rho->Option Bool) (r:Rho->Option Out):Rho->Option Out:=cS p r 100000
theorem uF {c:Expr}{body:List Stmt}{p:Rho->Option Bool}{r:Rho->Option Out}(hp:PassesOwn (model X.prog X.w) X.A X.env X.xe) (hc:GT X B fl c p) (hb:GSs X B fl n l body r):GS X B fl n l (.While c body [] pos) (gI p r):=by
 refine dS (aDi hp hc hb) ?_;rintro D σ H ⟨Ex,ρ,M,o,S,hr,q⟩;refine⟨fun m σ1 H1=>∃ ρ1 M1,Sl X.K B fl Ex σ1 ρ1 M1 H1/\cS p r m ρ1=some o,⟨_,ρ,M,S,hr⟩,?_⟩;rintro m σ1 H1 ⟨ρ1,M1,S1,e1⟩;cases m with
 | zero=>cases e1
 | succ m=>
  obtain⟨b,hb,e1⟩:=bind_some (show ((p ρ1).bind fun b=>if b then (r ρ1).bind fun o=>match o with | .nx ρ'=>cS p r m ρ' | .ct ρ'=>cS p r m ρ' | .bk ρ'=>some (.nx ρ') | .rt t=>some (.rt t) else some (.nx ρ1))=some o from e1)
  refine⟨Ex,ρ1,M1,b,S1,hb,fun H2 s2=>?_⟩;cases b with
  | false=>
   cases (aIo (show some (Out.nx ρ1)=some o from e1));exact hG (q σ1 M1 H2 (S1.grow s2))
  | true=>
   obtain⟨o1,h1,e1⟩:=bind_some (show ((r ρ1).bind fun o=>match o with | .nx ρ'=>cS p r m ρ' | .ct ρ'=>cS p r m ρ' | .bk ρ'=>some (.nx ρ') | .rt t=>some (.rt t))=some o from e1)
   refine hU ⟨fun σ' H'=>∃ ρ1 M1,Sl X.K B fl Ex σ' ρ1 M1 H'/\cS p r m ρ1=some o,fun σ' H' h=>⟨m,aL0 m,h⟩,Ex,ρ1,M1,o1,S1.grow s2,h1,?_⟩;cases o1 with
   | nx ρ'=>exact fun σ' M' H' S'=>⟨ρ',M',S',e1⟩
   | ct ρ'=>exact fun σ' M' H' S'=>⟨ρ',M',S',e1⟩
   | bk ρ'=>cases (aIo e1);exact fun σ' M' H' S'=>q σ' M' H' S'
   | rt t=>cases (aIo e1);exact q
end
@[simp] theorem rWhile_at (p:Rho->Option Bool) (r:Rho->Option Out) (ρ:Rho):gI p r ρ=cS p r 100000 ρ:=id rfl
theorem BD (g k:Nat):(g / 2^k%2 == 1)=g.testBit k:=by
 rw[Nat.testBit_eq_decide_div_mod_eq];rw[aJ3];simp
theorem BR {a b:Nat}(h:∀ i,a.testBit i=b.testBit i):a=b:=aKr h
theorem RO (a b p:Nat):(a&&&b)&&&p=(a&&&p)&&&(b&&&p):=BR fun i=>by
 simp only[aLb];cases a.testBit i<;>cases b.testBit i<;>cases p.testBit i<;>rfl
theorem or3 (a b p:Nat):(a|||b)&&&p=(a&&&p)|||(b&&&p):=BR fun i=>by
 simp only[aLb,aLc];cases a.testBit i<;>cases b.testBit i<;>cases p.testBit i<;>rfl
def gvS (row:List Int):List Nat->Nat->Int
 | [],_=>0
 | k::ks,g=>(if g.testBit k then row.getD k 0 else 0)+gvS row ks g
def gv (row:List Int) (g:Nat):Int:=gvS row (List.range row.length) g
theorem JA (row:List Int) (g:Nat):∀ ks:List Nat,((ks.filter fun k=>g / 2^k%2 == 1).map fun k=>row.getD k 0).sum=gvS row ks g
 | []=>rfl
 | k::ks=>by
  have ih:=JA row g ks;rw[List.filter_cons,gvS,<- ih,BD];cases g.testBit k<;>simp
theorem JC (row:List Int) (a b:Nat):∀ ks:List Nat,gvS row ks (a|||b)+gvS row ks (a&&&b)=gvS row ks a+gvS row ks b
 | []=>rfl
 | k::ks=>by
  have ih:=JC row a b ks;simp only[gvS,aLc,aLb];generalize row.getD k 0=x;cases a.testBit k<;>cases b.testBit k<;>simp<;>lia
theorem JI (row:List Int) (a b:Nat):gv row (a|||b)+gv row (a&&&b)=gv row a+gv row b:=JC row a b _
theorem JH (row:List Int):∀ ks:List Nat,gvS row ks 0=0
 | []=>rfl
 | k::ks=>by
  rw[gvS,JH row ks,aLg];rfl
theorem kM (row:List Int):gv row 0=0:=JH row _
theorem BX (n k:Nat):(2^n-1).testBit k=decide (k<n):=Nat.testBit_two_pow_sub_one n k
def Sub (n:Nat) (t:List Int):Prop:=∀ a b,a<2^n->b<2^n->t.getD (a|||b) 0+t.getD (a&&&b) 0<=t.getD a 0+t.getD b 0
def bL (g:Nat):Nat:=g%2+g / 2%2+g / 4%2+g / 8%2+g / 16%2+g / 32%2
theorem SN:((List.range 64).all fun a=>(List.range 64).all fun b=>(bL (a|||b)+bL (a&&&b) == bL a+bL b)&&decide (bL (a&&&b)<=bL a)&&decide (bL (a&&&b)<=bL b))=true:=by decide +kernel
theorem SR {a b:Nat}(ha:a<64) (hb:b<64):bL (a|||b)+bL (a&&&b)=bL a+bL b/\bL (a&&&b)<=bL a/\bL (a&&&b)<=bL b:=by
 have h:=aIu.mp (aIu.mp SN a (aIv.mpr ha)) b (aIv.mpr hb);simp only[aJ1,decide_eq_true_eq,beq_iff_eq] at h;exact⟨h.1.1,h.1.2,h.2⟩
def mn (a:Nat) (m:Int):Int:=if m<(a:Int) then m else (a:Int)
theorem ZT {a b p:Nat}{m:Int}(ha:a<64) (hb:b<64):mn (bL ((a|||b)&&&p)) m+mn (bL ((a&&&b)&&&p)) m<=mn (bL (a&&&p)) m+mn (bL (b&&&p)) m:=by
 rw[or3,RO];have h1:a&&&p<64:=aKy aKq ha;have h2:b&&&p<64:=aKy aKq hb;obtain⟨q1,q2,q3⟩:=SR h1 h2;unfold mn;generalize bL ((a&&&p)|||(b&&&p))=u at *;generalize bL ((a&&&p)&&&(b&&&p))=v at *;generalize bL (a&&&p)=s at *;generalize bL (b&&&p)=w at *
 split<;>split<;>split<;>split<;>lia
def sq (k:Nat):Nat:=bL k*bL k
theorem aF2:((List.range 64).all fun a=>(List.range 64).all fun b=>((a|||b == a)&&(a&&&b == b))||((a|||b == b)&&(a&&&b == a))||decide (sq a+sq b+2<=sq (a|||b)+sq (a&&&b)))=true:=by decide +kernel
theorem aA2 {n:Nat}(h6:n<=6) {wide:Int}(hw:0<wide) {t:List Int}(h:∀ k,k<2^n->∃ e:Int,0<=e/\e<wide/\t.getD k 0=e-wide*((sq k:Nat):Int)):Sub n t:=by
 have h64:2^n<=64:=aKw (aL8 (by decide) h6) (by decide:2^6<=64);intro a b ha hb;have c:=aIu.mp (aIu.mp aF2 a (aIv.mpr (by lia))) b (aIv.mpr (by lia));simp only[Bool.or_eq_true,aJ1,beq_iff_eq,decide_eq_true_eq] at c;rcases c with (⟨e1,e2⟩ | ⟨e1,e2⟩) | c
 ·rw[e1,e2];lia
 ·rw[e1,e2];lia
 ·obtain⟨x1,p1,q1,r1⟩:=h _ (aL6 ha hb)
  obtain⟨x2,p2,q2,r2⟩:=h _ (aKy (aKq (n:=a) (m:=b)) ha);obtain⟨x3,p3,q3,r3⟩:=h _ ha;obtain⟨x4,p4,q4,r4⟩:=h _ hb;rw[r1,r2,r3,r4];have m:=Int.mul_le_mul_of_nonneg_left (show ((sq a:Nat):Int)+(sq b:Nat)+2<=(sq (a|||b):Nat)+(sq (a&&&b):Nat) by lia) (aJd hw);rw[aJf,aJf,aJf] at m;lia
theorem CZ {x:T}(h:dep x<=60):oEq x x=some (.bl true):=by unfold oEq;rw[if_pos (by lia),BP]
theorem aAb {x:T}(h:dep x<=60):oNe x x=some (.bl false):=by unfold oNe;rw[if_pos (by lia),BP];rfl
theorem GH {ns:List Int}(h:0<ns.length):atI (tI ns) (-1)=some (.int (ns.getD (ns.length-1) 0)):=by
 unfold atI ixN;rw[if_neg (by lia),if_pos (by rw[tI_length];lia),aLi,NE,tI_length];have e:(-1+(ns.length:Int)).toNat=ns.length-1:=by lia
 rw[e,aIp,aIq (by lia)];rfl
@[simp] theorem oLen_tup (ts:List T):bS [.tup ts]=some (.int ts.length):=rfl
@[simp] theorem oList_tup (ts:List T):fE [.tup ts]=some (.lst ts):=rfl
def tP {α:Type} (tp:α->List T) (xs:List α):List T:=xs.map fun x=>.tup (tp x)
theorem xO {α:Type}{js:List Nat}{p:Rho->Option Bool}{f:Rho->Option T}{ρ:Rho}(tp:α->List T) (c:α->Bool) (h:α->T):∀ xs:List α,(∀ x∈xs,∃ ρ1,setL ρ js (tp x)=some ρ1/\p ρ1=some (c x)/\(c x=true->f ρ1=some (h x)))->cN js p f ρ (tP tp xs)=some ((xs.filter c).map h)
 | [],_=>rfl
 | x::xs,hx=>by
  have ih:=xO tp c h xs fun y hy=>hx y (aIr _ hy);obtain⟨ρ1,e1,e2,e3⟩:=hx x aIs;show (setL ρ js (tp x)).bind _=_;rw[e1,aLi,e2,aLi,List.filter_cons];cases hc:c x with
  | true=>
   rw[if_pos rfl,if_pos rfl,e3 hc,aLi];show ((cN js p f ρ (tP tp xs)).map _)=_;rw[ih];rfl
  | false=>
   rw[if_neg (by decide),if_neg (by decide)];exact ih
theorem II {ts:List T}(h:bF ts=true):dB (.lst ts)=some (.lst ts):=by simp[dB,h]
theorem WF {D:List Int}{m:Nat}{f:Nat->Int}(hl:D.length=m) (h:∀ g,g<m->D.getD g 0=f g):D=(List.range m).map f:=by
 refine List.ext_getElem? fun i=>?_
 by_cases hi:i<m
 ·have:=h i hi
  rw[aIp,aIq (by lia)] at this;rw[aJx,List.getElem?_range hi,aIq (by lia)];exact congrArg some this
 ·rw[aJv (by lia),aJv (by simp;lia)]
theorem jP {m g:Nat}{f:Nat->Int}(h:g<m):((List.range m).map f).getD g 0=f g:=by
 simp[aIp,h]
theorem aF9 {n:Nat}{f:Nat->Int}(h:∀ a b,a<2^n->b<2^n->f (a|||b)+f (a&&&b)<=f a+f b):Sub n ((List.range (2^n)).map f):=fun a b ha hb=>by
 rw[jP (aL6 ha hb),jP (aKy aKq ha),jP ha,jP hb];exact h a b ha hb
where ite_le2 (c:Bool) {x:Int} (h:0<=x):(if c then x else 0)<=x:=by cases c<;>simp<;>lia
theorem aGj (g k:Nat):((2^k&&&g:Nat) == 2^k)=g.testBit k:=by
 rw[aJ3,beq_iff_eq]
 constructor
 ·intro h
  have:=congrArg (fun x=>x.testBit k) h
  simpa [aLb,Nat.testBit_two_pow_self] using this
 ·intro h
  refine BR fun i=>?_;rw[aLb,Nat.testBit_two_pow]
  by_cases hk:k=i
  ·subst hk;simp[h]
  ·simp[hk]
theorem JF (row:List Int) (g k:Nat):∀ ks:List Nat,gvS row (ks++[k]) g=gvS row ks g+if g.testBit k then row.getD k 0 else 0
 | []=>by simp[gvS]
 | j::ks=>by rw[List.cons_append,gvS,JF row g k ks,gvS];lia
theorem WD (ns:List Int):dW 0 (tI ns)=tP (fun p:Nat=>[T.int (p:Int),T.int (ns.getD p 0)]) (List.range ns.length):=WC ns
theorem GQ (g i:Nat):((((g / 2^i%2:Nat):Int)) == 1)=g.testBit i:=by
 rw[<- BD];generalize g / 2^i=m;rw[aJ3];simp;lia
theorem JE {row:List Int}{h:Nat}{x:Int}(hh:h<row.length) (g:Nat):∀ ks:List Nat,ks.Nodup->gvS (row.set h x) ks g=gvS row ks g+(if h∈ks then (if g.testBit h then x-row.getD h 0 else 0) else 0)
 | [],_=>by simp[gvS]
 | k::ks,hn=>by
  have ih:=JE (x:=x) hh g ks (aKn.mp hn).2;have hk:=(aKn.mp hn).1;rw[gvS,gvS,ih]
  by_cases e:k=h
  ·subst e
   rw[if_neg hk,if_pos aIs,aIp,aK0 hh];simp only[Option.getD_some];cases g.testBit k<;>simp<;>lia
  ·have e':¬ h=k:=fun z=>e z.symm
   rw[aIp,aIy (fun z=>e z.symm),<- List.getD_eq_getElem?_getD];simp only[aJ0,e',false_or];lia
theorem YD {row:List Int}{h:Nat}{x:Int}(hh:h<row.length) (g:Nat):gv (row.set h x) g=gv row g+if g.testBit h then x-row.getD h 0 else 0:=by
 unfold gv;rw[aK9,JE hh g _ List.nodup_range,if_pos (aIv.mpr hh)]
theorem YC (n g:Nat):gv (List.replicate n 0) g=0:=by
 unfold gv;have:∀ ks:List Nat,gvS (List.replicate n 0) ks g=0:=by
  intro ks
  induction ks with
  | nil=>rfl
  | cons k ks ih=>
   rw[gvS,ih];have:(List.replicate n (0:Int)).getD k 0=0:=by
    rw[aIp,aJz]
    split<;>rfl
   rw[this];simp
 exact this _
def tM (t:List Int):List Nat->Nat->List Int->List Int
 | [],_,s=>s
 | h::r,a,s=>tM t r (a|||2^h) (s.set h (t.getD (a|||2^h) 0-t.getD a 0))
theorem NK (t:List Int):∀ (o:List Nat) (a:Nat) (s:List Int),(tM t o a s).length=s.length
 | [],_,_=>rfl
 | h::r,a,s=>by rw[tM,NK t r,aK9]
theorem JG (row:List Int) {g p:Nat}(h:p&&&g=p):∀ ks:List Nat,gvS row ks (g ^^^ p)=gvS row ks g-gvS row ks p
 | []=>rfl
 | k::ks=>by
  have ih:=JG row h ks;have hb:=congrArg (fun x=>x.testBit k) h;simp only[aLb] at hb;rw[gvS,gvS,gvS,ih,Nat.testBit_xor];generalize row.getD k 0=x;cases hg:g.testBit k<;>cases hp:p.testBit k
  ·simp
  ·rw[hg,hp] at hb;cases hb
  ·simp;lia
  ·simp;lia
theorem yE (row:List Int) {g p:Nat}(h:p&&&g=p):gv row (g ^^^ p)=gv row g-gv row p:=JG row h _
theorem aGk:((List.range 64).all fun a=>(List.range 64).all fun b=>Builtin.bitXor (a:Int) (b:Int) == ((a ^^^ b:Nat):Int))=true:=by decide +kernel
theorem RZ {a b:Nat}(ha:a<64) (hb:b<64):Builtin.bitXor (a:Int) (b:Int)=((a ^^^ b:Nat):Int):=
 eq_of_beq (aIu.mp (aIu.mp aGk a (aIv.mpr ha)) b (aIv.mpr hb))
section
variable {n:Nat}{f g:List Int}
end
def upT (n:Nat):List Int:=(List.range n).map fun (i:Nat)=>(i:Int)
@[simp] theorem upT_length (n:Nat):(upT n).length=n:=by simp[upT]
section
variable {X:Cx}{B:Hp}{fl:List Nat}{a:Expr}{fa:Rho->Option (List T)}{l:Nat}{pos:Pos}
end
section
variable {X:Cx}{B:Hp}{fl:List Nat}{a b:Expr}{f g:Rho->Option T}{n n':Bool}{l l':Nat}{pos:Pos}
def aA7:T->T->Option T
 | .bl a,.bl b=>some (.bl (a == b))
 | _,_=>none
def aA8:T->T->Option T
 | .bl a,.bl b=>some (.bl (!(a == b)))
 | _,_=>none
@[simp] theorem oIsNotB_bl (a b:Bool):aA8 (.bl a) (.bl b)=some (.bl (!(a == b))):=rfl
@[simp] theorem oIsB_bl (a b:Bool):aA7 (.bl a) (.bl b)=some (.bl (a == b)):=rfl
end
def YX:T->Bool
 | .lst _=>true
 | _=>false
@[simp] theorem isLs_lst (ts:List T):YX (.lst ts)=true:=id rfl
section
variable {X:Cx}{B:Hp}{fl:List Nat}{e:Expr}{es:List Expr}{fa:Rho->Option (List T)}{l:Nat}{pos p':Pos}{x:Str}
end
section
variable {P:Program}{w:World}{K:PySem.W.Frag}{mg:Str->Option Value}{base:Heap}
end
section
variable {X:Cx}{B:Hp}{fl:List Nat}{e:Expr}{es:List Expr}{fa:Rho->Option (List T)}{n:Bool}{l l' k:Nat}{pos p':Pos}{x:Str}{ps:List Str}{F:List T->Option T}
end
section
variable {X:Cx}{B:Hp}{fl:List Nat}{e kv:Expr}{f g:Rho->Option T}{n n':Bool}{l l':Nat}{pos p kpos:Pos}
end
section
variable {X:Cx}{B:Hp}{fl:List Nat}{e:Expr}{es:List Expr}{f:Rho->Option T}{fa:Rho->Option (List T)}{n n':Bool}{l l':Nat}{pos p' p2:Pos}{x:Str}
theorem SF:fS X (.builtin "abs") (fun xs H Q=>∃ i:Int,xs=[.int i]/\Q (.int (if i<0 then -i else i)) H):=by
 intro pins s σ H xs us Q I r h;obtain⟨i,rfl,q⟩:=h;obtain⟨u,rfl,t,rfl⟩:=mK r;exact call_abs_int fun u tk=>⟨.int _,H,I.tok _,⟨_,rfl⟩,q⟩
def uN:List T->Option T
 | [.int i]=>some (.int (if i<0 then -i else i))
 | _=>none
theorem KH (i:Int):uN [.int i]=some (.int (i.natAbs:Int)):=by
 show some (T.int (if i<0 then -i else i))=_
 congr 2
 split<;>lia
theorem CA (hx:x = "abs") (hg:Gl X x) (hm:X.mg x=none) (ha:GA X B fl (e::es) fa l)
  (he:starEach (e::es) X.env=(false,eval e X.env)::starEach es X.env:=by rfl) (hpl:(backTo pos (starEach es X.env)).any (·.1)=false:=by rfl):GE X B fl (.Call (.Name x p') (e::es) [] pos) (aI fa uN) true 3:=by
 subst hx;refine bQ (pB SF hg hm PyProof.Rows.boot_abs ha (by decide) (by decide) he hpl) ?_;rintro σ H Q ⟨Ex,ρ,M,t,S,hf,q⟩;obtain⟨ts,hts,hf⟩:=bind_some hf;refine⟨Ex,ρ,M,ts,S,hts,fun vs H1 s1 r1=>?_⟩
 match ts,hf with
 | [.int i],hf=>
  cases (aIo hf);obtain⟨y,rfl,ry⟩:=eH r1;cases (show _=_ from ry);exact⟨i,rfl,q _ H1 s1 ((aX.scal rfl).mpr rfl)⟩
def fD:T->T->Option T:=oI (fun _ j=>decide (j≠0)&&decide (j.natAbs<2^9000)) fun i j=>.int (i.fdiv j)
theorem uP {i j:Int}(h:j≠0) (h2:j.natAbs<2^9000):fD (.int i) (.int j)=some (.int (i.fdiv j)):=by
 simp only[fD,oI_int];rw[if_pos (by rw[decide_eq_true h,decide_eq_true h2];rfl)]
theorem aC3:OpR X (binaryOp .FloorDiv) (rI (fun _ j=>j≠0/\j.natAbs<2^9000) fun i j=>.int (i.fdiv j)):=opI fun _ _ _ _ _ _ _ hc q=>floordiv_int hc.1 q (.inl (PyProof.noPylong_of_log2 ((Nat.log2_lt (by lia)).mpr hc.2)))
theorem uA {a b:Expr}{g:Rho->Option T}(ha:GE X B fl a f n l) (hb:GE X B fl b g n' l'):GE X B fl (.BinOp a .FloorDiv b pos) (f2 f g fD) true 3:=fL aC3 (rF (fun _ _ k=>by simpa only [aJ1,decide_eq_true_eq] using k) (fun _ _=>rfl) fun _ _=>rfl) ha hb
end
theorem WX {p:Rho->Option Bool}{r:Rho->Option Out}{st:Nat->Nat->Option T->Rho}(hp:∀ a b x,p (st a b x)=some (decide (b≠0)))
  (hr:∀ a b x,0<b->∃ x',r (st a b x)=some (.nx (st b (a%b) x'))):∀ m k a b x,b<=a->a*b<2^m->m<k->∃ x',cS p r k (st a b x)=some (.nx (st (Nat.gcd a b) 0 x')):=by
 have z:∀ k a x,0<k->∃ x',cS p r k (st a 0 x)=some (.nx (st (Nat.gcd a 0) 0 x')):=fun k a x hk=>by
  obtain⟨k,rfl⟩:∃ k',k=k'+1:=⟨k-1,by lia⟩;refine⟨x,?_⟩;rw[cS,hp];simp
 intro m
 induction m with
 | zero=>
  intro k a b x hab h hk;have hb:b=0:=by
   rcases Nat.eq_zero_or_pos b with e | e
   ·exact e
   ·have:=Nat.mul_pos (show 0<a by lia) e;lia
  subst hb;exact z k a x hk
 | succ m ih=>
  intro k a b x hab h hk;rcases Nat.eq_zero_or_pos b with e | e
  ·subst e;exact z k a x (by lia)
  ·obtain⟨k,rfl⟩:∃ k',k=k'+1:=⟨k-1,by lia⟩
   obtain⟨x1,h1⟩:=hr a b x e;have hlt:=Nat.mod_lt a e;have hq:b+a%b<=a:=by
    have h2:=Nat.div_add_mod a b;have h3:1<=a / b:=(Nat.one_le_div_iff e).mpr hab;have h4:b*1<=b*(a / b):=Nat.mul_le_mul_left b h3;lia
   have h5:b*(a%b)<2^m:=by
    have h6:(b+a%b)*b<=a*b:=Nat.mul_le_mul_right b hq;have h7:a%b*b<=b*b:=Nat.mul_le_mul_right b (by lia);rw[Nat.add_mul] at h6;rw[Nat.pow_succ] at h;have h8:b*(a%b)=a%b*b:=Nat.mul_comm _ _;lia
   obtain⟨x',h9⟩:=ih k b (a%b) x1 (by lia) h5 (by lia);refine⟨x',?_⟩;rw[cS,hp,h1];have hd:decide (b≠0)=true:=decide_eq_true (by lia);rw[hd];simp only[aLi,if_true];rw[h9,Nat.gcd_comm a b,Nat.gcd_rec b a,Nat.gcd_comm]
theorem IL {p:Rho->Option Bool}{r:Rho->Option Out}{st:Nat->Nat->Option T->Rho}(hp:∀ a b x,p (st a b x)=some (decide (b≠0)))
  (hr:∀ a b x,0<b->∃ x',r (st a b x)=some (.nx (st b (a%b) x'))) (a b:Nat) (x:Option T) (hb:b<2^9000):∃ x',gI p r (st a b x)=some (.nx (st (Nat.gcd a b) 0 x')):=by
 unfold gI;rcases Nat.eq_zero_or_pos b with e | e
 ·subst e
  refine⟨x,?_⟩;rw[show (100000:Nat)=99999+1 from rfl,cS,hp];simp
 ·obtain⟨x1,h1⟩:=hr a b x e
  have hlt:=Nat.mod_lt a e;have hm:b*(a%b)<2^18000:=by
   have h2:b*(a%b)<=b*b:=Nat.mul_le_mul_left b (by lia);have h3:b*b<2^9000*2^9000:=Nat.mul_lt_mul'' hb hb;rw[<- Nat.pow_add] at h3;exact aKy h2 h3
  obtain⟨x',h9⟩:=WX hp hr 18000 99999 b (a%b) x1 (by lia) hm (by lia);refine⟨x',?_⟩;rw[show (100000:Nat)=99999+1 from rfl,cS,hp,h1];have hd:decide (b≠0)=true:=decide_eq_true (by lia);rw[hd];simp only[aLi,if_true];rw[h9,Nat.gcd_comm a b,Nat.gcd_rec b a,Nat.gcd_comm]
def frD (t b:Int):Int:=if b<0 then -(Int.gcd t b:Int) else (Int.gcd t b:Int)
def frI (t b:Int):Int × Int:=(t.fdiv (frD t b),b.fdiv (frD t b))
theorem dX {t b:Int}(hb:b≠0):frD t b≠0/\(frD t b).natAbs<=b.natAbs/\t=frD t b*(frI t b).1/\b=frD t b*(frI t b).2/\0<(frI t b).2/\Int.gcd (frI t b).1 (frI t b).2=1/\(frD t b).natAbs=Int.gcd t b:=by
 have hg:0<Int.gcd t b:=Int.gcd_pos_of_ne_zero_right t hb;have hn:(frD t b).natAbs=Int.gcd t b:=by unfold frD;split<;>lia
 have h0:frD t b≠0:=by lia
 have d1:frD t b ∣ t:=by
  rw[<- Int.natAbs_dvd,hn];exact Int.gcd_dvd_left t b
 have d2:frD t b ∣ b:=by
  rw[<- Int.natAbs_dvd,hn];exact Int.gcd_dvd_right t b
 have e1:t=frD t b*(frI t b).1:=(Int.mul_fdiv_cancel' d1).symm;have e2:b=frD t b*(frI t b).2:=(Int.mul_fdiv_cancel' d2).symm;have hle:(frD t b).natAbs<=b.natAbs:=by rw[hn];exact Nat.le_of_dvd (by lia) (Int.natAbs_dvd_natAbs.mpr (Int.gcd_dvd_right t b))
 have hs:0<(frI t b).2:=by
  rcases Int.lt_or_le b 0 with h | h
  ·have hd:frD t b<0:=by unfold frD;rw[if_pos h];lia
   rcases Int.lt_or_le 0 (frI t b).2 with k | k
   ·exact k
   ·have:=Int.mul_nonneg_of_nonpos_of_nonpos (aJd hd) k
    lia
  ·have hd:0<frD t b:=by unfold frD;rw[if_neg (by lia)];lia
   rcases Int.lt_or_le 0 (frI t b).2 with k | k
   ·exact k
   ·have:=Int.mul_nonpos_of_nonneg_of_nonpos (aJd hd) k
    lia
 refine⟨h0,hle,e1,e2,hs,?_,hn⟩;have hh:Int.gcd t b=(frD t b).natAbs*Int.gcd (frI t b).1 (frI t b).2:=by
  have q:=Int.gcd_mul_left (frD t b) (frI t b).1 (frI t b).2;rw[<- e1,<- e2] at q;exact q
 rw[hn] at hh;exact Nat.eq_of_mul_eq_mul_left hg (by lia)
end G
namespace G
theorem nN {t b:Int}(h:0<b):0<frD t b:=by
 have h0:=(dX (t:=t) (b:=b) (by omega)).1;unfold frD at h0 ⊢;rw[if_neg (by omega)] at h0 ⊢;omega
theorem nO {t b t' b':Int}(h:0<b) (h':0<b'):(frI t b).1*(frI t' b').2<(frI t' b').1*(frI t b).2 ↔ t*b'<t'*b:=by
 obtain⟨_,_,e1,e2,_,_,_⟩:=dX (t:=t) (b:=b) (by omega);obtain⟨_,_,e3,e4,_,_,_⟩:=dX (t:=t') (b:=b') (by omega);have hd:=nN (t:=t) h;have hd':=nN (t:=t') h';generalize frD t b=d at *;generalize frD t' b'=d' at *;generalize (frI t b).1=y at *;generalize (frI t b).2=z at *;generalize (frI t' b').1=y' at *;generalize (frI t' b').2=z' at *;have hp:0<d*d':=Int.mul_pos hd hd';have x1:t*b'=d*d'*(y*z'):=by rw[e1,e4,aJg,aJg,aJk y d' z']
 have x2:t'*b=d*d'*(y'*z):=by rw[e3,e2,aJh d d',aJg,aJg,aJk y' d z]
 rw[x1,x2]
 constructor
 ·intro k;exact Int.mul_lt_mul_of_pos_left k hp
 ·intro k;exact Int.lt_of_mul_lt_mul_left k (aJd hp)
theorem jJ {t b t' b':Int}(h:0<b) (h':0<b') (e:t*b'=t'*b):frI t b=frI t' b':=by
 obtain⟨_,_,e1,e2,p1,g1,_⟩:=dX (t:=t) (b:=b) (by omega);obtain⟨_,_,e3,e4,p2,g2,_⟩:=dX (t:=t') (b:=b') (by omega);have hd:=nN (t:=t) h;have hd':=nN (t:=t') h';have key:(frI t b).1*(frI t' b').2=(frI t' b').1*(frI t b).2:=by
  have n1:¬ ((frI t b).1*(frI t' b').2<(frI t' b').1*(frI t b).2):=fun k=>by
   have:=(nO h h').mp k;omega
  have n2:¬ ((frI t' b').1*(frI t b).2<(frI t b).1*(frI t' b').2):=fun k=>by
   have:=(nO h' h).mp k;omega
  omega
 generalize (frI t b)=q at *;generalize (frI t' b')=q' at *;obtain⟨y,z⟩:=q;obtain⟨y',z'⟩:=q';have p1:0<z:=p1;have p2:0<z':=p2;have key:y*z'=y'*z:=key;have c1:Nat.Coprime y.natAbs z.natAbs:=g1;have c2:Nat.Coprime y'.natAbs z'.natAbs:=g2;have kn:y.natAbs*z'.natAbs=y'.natAbs*z.natAbs:=by rw[<- Int.natAbs_mul,<- Int.natAbs_mul,key]
 have d1:z.natAbs ∣ z'.natAbs:=by
  have:z.natAbs ∣ y.natAbs*z'.natAbs:=⟨y'.natAbs,by rw[kn,Nat.mul_comm]⟩;exact c1.symm.dvd_of_dvd_mul_left this
 have d2:z'.natAbs ∣ z.natAbs:=by
  have:z'.natAbs ∣ y'.natAbs*z.natAbs:=⟨y.natAbs,by rw[<- kn,Nat.mul_comm]⟩;exact c2.symm.dvd_of_dvd_mul_left this
 have hz:z=z':=by have:=Nat.dvd_antisymm d1 d2;omega
 subst hz;have hy:y=y':=Int.eq_of_mul_eq_mul_right (by omega) key;subst hy
 rfl
section
variable {n:Nat}{t w:List Int}
def cB (t:List Int) (a g:Nat):Int:=t.getD (a|||g) 0-t.getD a 0
structure Cnd (n a g:Nat):Prop where
 ne:g≠0
 lt:g<2^n
 off:g&&&a=0
structure Stp (n:Nat) (t w:List Int) (a m:Nat):Prop where
 cnd:Cnd n a m
 least:∀ y,Cnd n a y->cB t a m*gv w y<=cB t a y*gv w m
 top:∀ y,Cnd n a y->cB t a y*gv w m<=cB t a m*gv w y->y|||m=m
theorem GV (t:List Int) (a:Nat):cB t a 0=0:=by unfold cB;rw[Nat.or_zero];omega
theorem xQ {a b c p q r:Int}(hq:0<q) (hp:0<=p) (hr:0<=r) (h1:a*q<=b*p) (h2:b*r<=c*q):a*r<=c*p:=by
 have x1:a*q*r<=b*p*r:=aJj h1 hr;have x2:b*r*p<=c*q*p:=aJj h2 hp;have x3:b*p*r=b*r*p:=by rw[aJg,aJh p r,<- Int.mul_assoc]
 have x4:a*q*r=q*(a*r):=by rw[aJh a q,aJg]
 have x5:c*q*p=q*(c*p):=by rw[aJh c q,aJg]
 have x6:q*(a*r)<=q*(c*p):=by omega
 exact Int.le_of_mul_le_mul_left x6 hq
theorem KR {x y a:Nat}(hx:x&&&a=0) (hy:y&&&a=0):(x|||y)&&&a=0:=by
 rw[Nat.and_or_distrib_right,hx,hy];rfl
theorem RP {x y a:Nat}(hx:x&&&a=0):(x&&&y)&&&a=0:=by
 rw[Nat.and_comm x y,Nat.and_assoc,hx,Nat.and_zero]
theorem aF4 (hs:Sub n t) (ha:∀ g,g≠0->g<2^n->0<gv w g) {a m x:Nat}(hal:a<2^n) (hm:Cnd n a m) (hx:Cnd n a x) (hl:∀ y,Cnd n a y->cB t a m*gv w y<=cB t a y*gv w m) (hle:cB t a x*gv w m<=cB t a m*gv w x):
  cB t a (x|||m)*gv w m<=cB t a m*gv w (x|||m):=by
 have h1:=hs (a|||x) (a|||m) (aL6 hal hx.lt) (aL6 hal hm.lt);have e1:(a|||x)|||(a|||m)=a|||(x|||m):=by
  apply aKr;intro i;simp only[aLc]
  cases a.testBit i<;>simp
 have e2:(a|||x)&&&(a|||m)=a|||(x&&&m):=by
  apply aKr;intro i;simp only[aLc,aLb]
  cases a.testBit i<;>simp
 rw[e1,e2] at h1;have h2:=JI w x m;have h3:cB t a (x|||m)+cB t a (x&&&m)<=cB t a x+cB t a m:=by unfold cB;omega
 have h4:cB t a m*gv w (x&&&m)<=cB t a (x&&&m)*gv w m:=by
  by_cases h0:x&&&m=0
  ·rw[h0,GV,kM];simp
  ·exact hl _ ⟨h0,aKy aKq hx.lt,RP hx.off⟩
 have hw:=ha m hm.ne hm.lt;have h5:=aJj h3 (aJd hw);rw[Int.add_mul,Int.add_mul] at h5;have h6:cB t a m*gv w (x|||m)+cB t a m*gv w (x&&&m)=cB t a m*gv w x+cB t a m*gv w m:=by
  rw[<- Int.mul_add,<- Int.mul_add,h2]
 omega
theorem aF7 (hs:Sub n t) (ha:∀ g,g≠0->g<2^n->0<gv w g) {a m:Nat}(hal:a<2^n) (hm:Cnd n a m) (hl:∀ y,Cnd n a y->cB t a m*gv w y<=cB t a y*gv w m) (hlast:∀ y,Cnd n a y->m<y->cB t a m*gv w y<cB t a y*gv w m):Stp n t w a m:=by
 refine⟨hm,hl,fun y hy hle=>?_⟩;have h1:=aF4 hs ha hal hm hy hl hle;have hc:Cnd n a (y|||m):=⟨fun z=>hm.ne (by have:=Nat.right_le_or (n:=y) (m:=m);omega),aL6 hy.lt hm.lt,KR hy.off hm.off⟩;rcases aKz m (y|||m) with h | h
 ·have:=hlast _ hc h;omega
 ·have:=Nat.right_le_or (n:=y) (m:=m);omega
theorem aF6 (hs:Sub n t) {a m m':Nat}(hm:Stp n t w a m) (hm':Stp n t w (a|||m) m'):cB t a m*gv w m'<cB t (a|||m) m'*gv w m:=by
 rcases Int.lt_or_le (cB t a m*gv w m') (cB t (a|||m) m'*gv w m) with h | h
 ·exact h
 exfalso
 have ho:=hm'.cnd.off;rw[Nat.and_or_distrib_left] at ho;have o1:m'&&&a=0:=by have:=Nat.left_le_or (n:=m'&&&a) (m:=m'&&&m);omega
 have o2:m'&&&m=0:=by have:=Nat.right_le_or (n:=m'&&&a) (m:=m'&&&m);omega
 have hc:Cnd n a (m'|||m):=⟨fun z=>hm.cnd.ne (by have:=Nat.right_le_or (n:=m') (m:=m);omega),aL6 hm'.cnd.lt hm.cnd.lt,KR o1 hm.cnd.off⟩;have e1:cB t a (m'|||m)=cB t a m+cB t (a|||m) m':=by
  unfold cB;rw[show a|||(m'|||m)=a|||m|||m' by rw[Nat.or_comm m' m,Nat.or_assoc]];omega
 have e2:=JI w m' m;rw[o2,kM] at e2;have h1:=hm.top (m'|||m) hc (by
  rw[e1,Int.add_mul,show gv w (m'|||m)=gv w m'+gv w m by omega,aJf];omega)
 rw[Nat.or_assoc,Nat.or_self] at h1;have:m'&&&m=m':=by
  apply aKr;intro i
  have h2:=congrArg (fun z=>Nat.testBit z i) h1;simp only[aLc] at h2;rw[aLb];cases hx:m'.testBit i<;>cases hy:m.testBit i<;>simp_all
 exact hm'.cnd.ne (by omega)
def Chn (n:Nat) (t w:List Int):Nat->List Nat->Prop
 | a,[]=>a=2^n-1
 | a,m::L=>a<2^n-1/\Stp n t w a m/\Chn n t w (a|||m) L
theorem rG {a m:Nat}(ha:a<2^n) (h:Cnd n a m):a<a|||m/\a|||m<2^n:=by
 refine⟨?_,aL6 ha h.lt⟩;rcases aKz a (a|||m) with k | k
 ·exact k
 ·have e:a|||m=a:=by have:=Nat.left_le_or (n:=a) (m:=m);omega
  exfalso
  apply h.ne
  have:m&&&a=m:=by
   apply aKr;intro i
   have h2:=congrArg (fun z=>Nat.testBit z i) e;simp only[aLc] at h2;rw[aLb];cases hx:m.testBit i<;>cases hy:a.testBit i<;>simp_all
  rw[<- this];exact h.off
theorem HK (hst:∀ a,a<2^n-1->∃ m,Stp n t w a m):∀ k a,a<2^n->2^n-1-a<=k->∃ L:List Nat,Chn n t w a L/\L.length<=k
 | 0,a,h,hk=>⟨[],by show a=_;omega,aKv _⟩
 | k+1,a,h,hk=>by
  by_cases e:a=2^n-1
  ·exact⟨[],e,aLf _⟩
  ·obtain⟨m,hm⟩:=hst a (by omega)
   have hu:=rG h hm.cnd;obtain⟨L,hL,hl⟩:=HK hst k (a|||m) hu.2 (by omega);exact⟨m::L,⟨by omega,hm,hL⟩,by simp;omega⟩
def jT (t w:List Int) (a m:Nat):T:=.tup [.int ((a|||m:Nat):Int),.tup [.int (frI (cB t a m) (gv w m)).1,.int (frI (cB t a m) (gv w m)).2]]
def gA (t w:List Int):Nat->List Nat->List T
 | _,[]=>[]
 | a,m::L=>jT t w a m::gA t w (a|||m) L
end
end G
namespace G
theorem JD {r r':List Int}{k:Int}{x:Nat}:∀ ks:List Nat,(∀ h∈ks,x.testBit h=true->r.getD h 0=k*r'.getD h 0)->gvS r ks x=k*gvS r' ks x
 | [],_=>by simp[gvS]
 | h::ks,hh=>by
  have ih:=JD ks fun j hj=>hh j (aIr _ hj);rw[gvS,gvS,ih,aJf]
  congr 1
  cases hb:x.testBit h with
  | true=>rw[if_pos rfl,if_pos rfl];exact hh h aIs hb
  | false=>simp
theorem sA {r r':List Int}(hl:r.length=r'.length) {k:Int}{x:Nat}(h:∀ j,j<r.length->x.testBit j=true->r.getD j 0=k*r'.getD j 0):gv r x=k*gv r' x:=by
 unfold gv;rw[<- hl];exact JD _ fun j hj=>h j (aIv.mp hj)
def chD (w:List Int):List Nat->Int
 | []=>1
 | m::L=>gv w m*chD w L
def chS (t w:List Int):Nat->List Nat->Nat->Int
 | _,[],_=>0
 | a,m::L,h=>if (a|||m).testBit h then cB t a m*chD w L else gv w m*chS t w (a|||m) L h
def chF:Nat->List Nat->Nat->Nat × Nat
 | a,[],_=>(a,0)
 | a,m::L,h=>if (a|||m).testBit h then (a,m) else chF (a|||m) L h
section
variable {n:Nat}{t w:List Int}
theorem xK (ha:∀ g,g≠0->g<2^n->0<gv w g):∀ (L:List Nat) (a:Nat),Chn n t w a L->0<chD w L
 | [],_,_=>by show (0:Int)<1;decide
 | m::L,a,h=>Int.mul_pos (ha m h.2.1.cnd.ne h.2.1.cnd.lt) (xK ha L (a|||m) h.2.2)
theorem GZ:∀ (L:List Nat) (a:Nat),Chn n t w a L->∀ h,h<n->a.testBit h=false->Stp n t w (chF a L h).1 (chF a L h).2/\chS t w a L h*gv w (chF a L h).2=chD w L*cB t (chF a L h).1 (chF a L h).2
 | [],a,hL,h,hh,hb=>by
  exfalso
  have e:a=2^n-1:=hL;rw[e,Nat.testBit_two_pow_sub_one] at hb;simp at hb;lia
 | m::L,a,hL,h,hh,hb=>by
  rw[chF,chS,chD];cases hc:(a|||m).testBit h with
  | true=>
   simp only[if_true];refine⟨hL.2.1,?_⟩;rw[aJh (gv w m) (chD w L),aJg,aJh (cB t a m),aJg]
  | false=>
   simp only[aJ4,if_false];obtain⟨h1,h2⟩:=GZ L (a|||m) hL.2.2 h hh hc;refine⟨h1,?_⟩;rw[aJg,h2,aJg]
theorem SC {g a m:Nat}(hoff:m&&&a=0):(g&&&(a|||m)) ^^^ (g&&&a)=g&&&m:=by
 apply aKr;intro i
 have h2:=congrArg (fun z=>Nat.testBit z i) hoff;simp only[aLb,aLg] at h2;simp only[Nat.testBit_xor,aLb,aLc];cases g.testBit i<;>cases ha:a.testBit i<;>cases hm:m.testBit i<;>simp_all
theorem SD {g a m:Nat}:(g&&&a)&&&(g&&&(a|||m))=g&&&a:=by
 apply aKr;intro i
 simp only[aLb,aLc];cases g.testBit i<;>cases a.testBit i<;>cases m.testBit i<;>rfl
theorem HB (hs:Sub n t) (ha:∀ g,g≠0->g<2^n->0<gv w g) (hw:w.length=n):∀ (L:List Nat) (a:Nat),a<2^n->Chn n t w a L->∀ R:List Int,R.length=n->(∀ h,h<n->a.testBit h=false->R.getD h 0=w.getD h 0*chS t w a L h) ->
  (∀ g,g<2^n->gv R g-gv R (g&&&a)<=chD w L*(t.getD g 0-t.getD (g&&&a) 0))/\gv R (2^n-1)-gv R a=chD w L*(t.getD (2^n-1) 0-t.getD a 0)
 | [],a,hal,hL,R,hR,_=>by
  have e:a=2^n-1:=hL;refine⟨fun g hg=>?_,?_⟩
  ·have:g&&&a=g:=by
    rw[e]
    apply aKr;intro i
    rw[aLb,Nat.testBit_two_pow_sub_one];cases hb:g.testBit i with
    | false=>rfl
    | true=>
     have:i<n:=by
      rcases aKz i n with k | k
      ·exact k
      ·have:=Nat.testBit_lt_two_pow (aIw hg (aL8 (by decide) k))
       rw[this] at hb;cases hb
     simp[this]
   rw[this];simp
  ·rw[<- e];simp
 | m::L,a,hal,hL,R,hR,hRe=>by
  obtain⟨h1,hm,h3⟩:=hL;have hu:=rG hal hm.cnd;have hD:=xK ha L (a|||m) h3;have hW:=ha m hm.cnd.ne hm.cnd.lt;have hlR:((List.range n).map fun h=>w.getD h 0*chS t w (a|||m) L h).length=n:=by simp
  have hgR:∀ h,h<n->((List.range n).map fun h=>w.getD h 0*chS t w (a|||m) L h).getD h 0=w.getD h 0*chS t w (a|||m) L h:=fun h hh=>by
   rw[aIp,aJx,List.getElem?_range hh];rfl
  obtain⟨i1,i2⟩:=HB hs ha hw L (a|||m) hu.2 h3 ((List.range n).map fun h=>w.getD h 0*chS t w (a|||m) L h) hlR (fun h hh _=>hgR h hh);generalize ((List.range n).map fun h=>w.getD h 0*chS t w (a|||m) L h)=R' at hlR hgR i1 i2;have k1:∀ g,g<2^n->gv R g-gv R (g&&&(a|||m))=gv w m*(gv R' g-gv R' (g&&&(a|||m))):=fun g hg=>by
   have p:(g&&&(a|||m))&&&g=g&&&(a|||m):=by rw[Nat.and_comm,<- Nat.and_assoc,Nat.and_self]
   rw[<- yE R p,<- yE R' p];refine sA (by rw[hR,hlR]) fun j hj hb=>?_;have hj':j<n:=by lia
   rw[Nat.testBit_xor,aLb] at hb;have hc:(a|||m).testBit j=false:=by
    cases h0:(a|||m).testBit j with
    | false=>rfl
    | true=>rw[h0] at hb;simp at hb
   have hca:a.testBit j=false:=by
    rw[aLc] at hc;cases h0:a.testBit j with
    | false=>rfl
    | true=>rw[h0] at hc;simp at hc
   rw[hRe j hj' hca,hgR j hj',chS,hc];simp only[aJ4,if_false];rw[aJk]
  have k2:∀ g,g<2^n->gv R (g&&&(a|||m))-gv R (g&&&a)=cB t a m*chD w L*gv w (g&&&m):=fun g hg=>by
   rw[<- yE R SD,SC hm.cnd.off];refine sA (by rw[hR,hw]) fun j hj hb=>?_;have hj':j<n:=by lia
   rw[aLb] at hb;have hmj:m.testBit j=true:=by
    cases h0:m.testBit j with
    | true=>rfl
    | false=>rw[h0] at hb;simp at hb
   have haj:a.testBit j=false:=by
    have h2:=congrArg (fun z=>Nat.testBit z j) hm.cnd.off;simp only[aLb,aLg,hmj,Bool.true_and] at h2;exact h2
   rw[hRe j hj' haj,chS,aLc,hmj,Bool.or_true];simp only[if_true];rw[aJh]
  rw[chD];refine⟨fun g hg=>?_,?_⟩
  ·have x1:=k1 g hg
   have x2:=k2 g hg;have x3:=i1 g hg;have x4:cB t a m*gv w (g&&&m)<=cB t a (g&&&m)*gv w m:=by
    by_cases h0:g&&&m=0
    ·rw[h0,GV,kM];simp
    ·exact hm.least _ ⟨h0,aKy aKq hg,by rw[Nat.and_assoc,hm.cnd.off,Nat.and_zero]⟩
   have x5:cB t a (g&&&m)<=t.getD (g&&&(a|||m)) 0-t.getD (g&&&a) 0:=by
    have s:=hs (g&&&(a|||m)) a (aKy aKq hg) hal;have e1:g&&&(a|||m)|||a=a|||(g&&&m):=by
     apply aKr;intro i
     simp only[aLb,aLc];cases g.testBit i<;>cases a.testBit i<;>cases m.testBit i<;>rfl
    have e2:g&&&(a|||m)&&&a=g&&&a:=by
     apply aKr;intro i
     simp only[aLb,aLc];cases g.testBit i<;>cases a.testBit i<;>cases m.testBit i<;>rfl
    rw[e1,e2] at s;unfold cB;lia
   have y1:=Int.mul_le_mul_of_nonneg_left x3 (aJd hW);have y2:cB t a m*chD w L*gv w (g&&&m)<=gv w m*(chD w L*(t.getD (g&&&(a|||m)) 0-t.getD (g&&&a) 0)):=by
    have z1:cB t a m*chD w L*gv w (g&&&m)=chD w L*(cB t a m*gv w (g&&&m)):=by rw[aJh (cB t a m),aJg]
    have z2:=Int.mul_le_mul_of_nonneg_left x4 (aJd hD);have z3:=Int.mul_le_mul_of_nonneg_left (aJj x5 (aJd hW)) (aJd hD);have z4:chD w L*((t.getD (g&&&(a|||m)) 0-t.getD (g&&&a) 0)*gv w m)=gv w m*(chD w L*(t.getD (g&&&(a|||m)) 0-t.getD (g&&&a) 0)):=by
     rw[aJh _ (gv w m),aJk]
    lia
   have y3:gv w m*chD w L*(t.getD g 0-t.getD (g&&&a) 0)=gv w m*(chD w L*(t.getD g 0-t.getD (g&&&(a|||m)) 0))+gv w m*(chD w L*(t.getD (g&&&(a|||m)) 0-t.getD (g&&&a) 0)):=by
    rw[<- Int.mul_add,<- Int.mul_add,aJg]
    congr 2
    lia
   lia
  ·have hf:2^n-1<2^n:=by lia
   have full:∀ x,x<2^n->(2^n-1)&&&x=x:=fun x hx=>by
    apply aKr;intro i
    rw[aLb,Nat.testBit_two_pow_sub_one];cases hb:x.testBit i with
    | false=>simp
    | true=>
     have:i<n:=by
      rcases aKz i n with k | k
      ·exact k
      ·have:=Nat.testBit_lt_two_pow (aIw hx (aL8 (by decide) k))
       rw[this] at hb;cases hb
     simp[this]
   have x1:=k1 _ hf;have x2:=k2 _ hf;rw[full _ hu.2] at x1 x2;rw[full _ hal,full _ hm.cnd.lt] at x2;rw[i2] at x1;have y2:cB t a m*chD w L*gv w m=gv w m*(chD w L*(t.getD (a|||m) 0-t.getD a 0)):=by
    show (t.getD (a|||m) 0-t.getD a 0)*chD w L*gv w m=_;rw[aJh _ (gv w m),aJh _ (chD w L)]
   have y3:gv w m*chD w L*(t.getD (2^n-1) 0-t.getD a 0)=gv w m*(chD w L*(t.getD (2^n-1) 0-t.getD (a|||m) 0))+gv w m*(chD w L*(t.getD (a|||m) 0-t.getD a 0)):=by
    rw[<- Int.mul_add,<- Int.mul_add,aJg]
    congr 2
    lia
   lia
end
theorem WL {A B D:Int}(hD:0<D):frI ((frI A D).1*(frI B D).2+(frI B D).1*(frI A D).2) ((frI A D).2*(frI B D).2)=frI (A+B) D:=by
 obtain⟨_,_,e1,e2,p1,_,_⟩:=dX (t:=A) (b:=D) (by lia);obtain⟨_,_,e3,e4,p2,_,_⟩:=dX (t:=B) (b:=D) (by lia);refine jJ (Int.mul_pos p1 p2) hD ?_;generalize (frI A D).1=y at *;generalize (frI A D).2=z at *;generalize (frI B D).1=y' at *;generalize (frI B D).2=z' at *;generalize frD A D=d at *;generalize frD B D=d' at *;have x1:y*z'*D=A*(z*z'):=by
  rw[e1]
  conv=>lhs;rw[e2]
  rw[aJg,aJg,aJk z' d z,aJk y d,aJh z' z]
 have x2:y'*z*D=B*(z*z'):=by
  rw[e3]
  conv=>lhs;rw[e4]
  rw[aJg,aJg,aJk z d' z',aJk y' d']
 rw[Int.add_mul,Int.add_mul,x1,x2]
theorem nP (t:Int):frI t 1=(t,1):=by
 have h:frD t 1=1:=by unfold frD;simp
 unfold frI;rw[h];simp
end G
namespace G
open PySem PySem.Spec PyProof.Rows L2
section
variable {X:Cx}{B:Hp}{fl:List Nat}{k:Expr}{fk:Rho->Option T}{n nk:Bool}{l lk:Nat}{pos pos' pos2:Pos}{x y:Str}
end
abbrev FA (K:PySem.W.Frag) (x:Str) (f:Addr):Prop:=PySem.W.nsIn K mainGlobals x=some (some (.ref f))
abbrev FL (K:PySem.W.Frag) (f:Addr) (x:Str) (st:Stmt) (df oc:Value) (od:Option Addr) (kV dc pm:Value) (an:Option Addr) (cd ct:Value) (sl:Array (Option Value)):Prop:=K.lookup f=some ⟨oc,od,.func (PySem.W.fnOf x x (defArgs st) (defBody st) (defScope st) df kV dc pm an cd ct),sl⟩
abbrev FC (K:PySem.W.Frag) (cd:Value) (x:Str):Prop:=PySem.W.codeIn K cd x=true
abbrev FK (K:PySem.W.Frag) (f:Addr):Prop:=PySem.W.keepIn K (.ref f)=true
theorem zz0 {α:Type _}{a:α}{l:List α}:(a::l)[0]?=some a:=List.getElem?_cons_zero
theorem zz1 {α:Type _}{a:α}{i:Nat}{l:List α}:(a::l)[i+1]?=l[i]?:=List.getElem?_cons_succ
theorem zz2 {α β:Type _}(a:α) (f:α->Option β):(some a).bind f=f a:=aLi a f
theorem zz3 {α β:Type _}(a:α) (f:α->β):(some a).map f=some (f a):=Option.map_some ..
end G
namespace G
section
variable {n:Nat}{t w:List Int}
end
end G
namespace G
open PySem PySem.Spec PyProof.Rows L2
section
variable {X:Cx}{B:Hp}{fl:List Nat}{n:Bool}{l l':Nat}{e:Expr}{f:Rho->Option T}{x y:Str}{pos pos':Pos}
end
section
variable {X:Cx}{B:Hp}{fl:List Nat}{n n':Bool}{l l' k:Nat}{e:Expr}{es:List Expr}{f:Rho->Option T}{fa:Rho->Option (List T)}{x y:Str}{ps:List Str}{F:List T->Option T}{pos pos' p' cpos:Pos}
end
def aCo:Out->Option T
 | .rt t=>some t
 | _=>none
@[simp] theorem outO_rt (t:T):aCo (.rt t)=some t:=id rfl
end G
set_option maxRecDepth 100000
namespace HD
open PySem PySem.W PySem.Calls PyProof.Rows
noncomputable def vA (thr ok:Thread->Bool) (stp:SharedT->Thread->Option (SharedT × Thread)) (n:Nat):SharedT->Thread->Option SharedT:=
 @Nat.rec (fun _=>SharedT->Thread->Option SharedT) (fun _ _=>none)
  (fun _ ih s t=>@Bool.rec (fun _=>Option SharedT) (@Bool.rec (fun _=>Option SharedT) none
   (@Option.rec (SharedT × Thread) (fun _=>Option SharedT) none (fun r=>ih r.1 r.2) (stp s t)) (ok t)) (some s) (thr t)) n
theorem MB {tb:String->Option Builtin}{p:Program}{w:World}{n₀:Nat}{ann:Option Value}:∀ {n:Nat}{s s':SharedT}{t:Thread},
  vA through (stepOk n₀ ann) (stepT (denote tb) p w) n s t=some s'->topRun tb p w n₀ ann n s.abs t=some s'.abs
 | 0,_,_,_,h=>by cases h
 | n+1,s,s',t,h=>by
  have e:vA through (stepOk n₀ ann) (stepT (denote tb) p w) (n+1) s t=@Bool.rec (fun _=>Option SharedT) (@Bool.rec (fun _=>Option SharedT) none
   (@Option.rec (SharedT × Thread) (fun _=>Option SharedT) none (fun r=>vA through (stepOk n₀ ann) (stepT (denote tb) p w) n r.1 r.2) (stepT (denote tb) p w s t)) (stepOk n₀ ann t)) (some s) (through t):=rfl
  rw[e] at h;unfold topRun;cases h1:through t with
  | true=>rw[h1] at h;cases h;rfl
  | false=>
   rw[h1] at h;cases h2:stepOk n₀ ann t with
   | false=>rw[h2] at h;cases h
   | true=>
    rw[h2] at h;cases h3:stepT (denote tb) p w s t with
    | none=>rw[h3] at h;cases h
    | some r=>
     obtain⟨s₂,t₂⟩:=r;rw[h3] at h;rw[stepT_spec h3];exact MB h
theorem ZO {p q:Program}{loose:List Str}{Xt:Shared->Bool}{α:Type}{Yf:Shared->α}{Ya:World->α}{N:Nat}{g0:Bool}{B:Params->BT}{b:Nat}{life:Life}{m₀:Nat}{ann:Option Value}{M:Nat}
  (open_:∀ w:World,(fencedOpening treeTable p w N).map (fun s=>(s.heap,s.gens,s.drawn,s.toks))=some (boot_heap w.params,Array.mk [],boot_drawn,boot_toks))
  (hb:∀ P:Params,absHeap (B P) b life=boot_heap P)
  (size:∀ w:World,((boot_heap w.params).isNs mainGlobals&&(Array.mk []:Array GenState).size == 0,(boot_heap w.params).objs.size,(boot_heap w.params).nsMap mainGlobals "__annotations__")=(true,m₀,ann))
  (le:Nat.ble M N=true)
  (ev:∀ (w:World) (os:OsState),(vA through (stepOk m₀ ann) (stepT (denote treeTable) p w) M ⟨B w.params,b,life,Array.mk [],boot_drawn,boot_toks,os⟩ (topStub p)).map (fun s=>
    ((staticsOk (importedModules p.main.body) (boot_heap w.params) s.abs.heap&&namesBound p s.abs.heap&&gensDone s.abs&&laidKept (boot_heap w.params) s.abs.heap),
    openSeen q loose (importedModules p.main.body) Xt g0 s.abs,Yf s.abs))=some (true,openGood q loose,Ya w)):LeftO p q loose Xt Yf Ya N g0:=fun w=>by
 obtain⟨⟨h,gs,d,k,os⟩,e,e'⟩:=Option.map_eq_some_iff.mp (open_ w);obtain⟨rfl,rfl,rfl,rfl⟩:h=boot_heap w.params/\gs=Array.mk []/\d=boot_drawn/\k=boot_toks:=by simpa using e'
 obtain⟨z1,z2,z3⟩:_/\_/\_:=by simpa only [Prod.mk.injEq] using size w
 obtain⟨s₁,r0,r1⟩:=Option.map_eq_some_iff.mp (ev w os);obtain⟨l1,l2,l3⟩:_/\_/\_:=by simpa only [Prod.mk.injEq] using r1
 have r:=topRun_mono (N-M) _ _ _ _ (MB r0);rw[show M+(N-M)=N by have:=Nat.le_of_ble_eq_true le;lia] at r;have r:topRun treeTable p w m₀ ann N ⟨absHeap (B w.params) b life,Array.mk [],boot_drawn,boot_toks,os⟩ (topStub p)=some s₁.abs:=r;rw[hb] at r;have t:topFrom treeTable p w N ⟨boot_heap w.params,Array.mk [],boot_drawn,boot_toks,os⟩=some s₁.abs:=by
  unfold topFrom;dsimp only;rw[z1,z2,z3,r];show (match staticsOk (importedModules p.main.body) (boot_heap w.params) s₁.abs.heap&&namesBound p s₁.abs.heap&&gensDone s₁.abs&&laidKept (boot_heap w.params) s₁.abs.heap with | true=>_ | false=>_)=_
  rw[l1]
 unfold openEnds;rw[e];show (topFrom treeTable p w N _).map _=_;rw[t];exact congrArg some (Prod.ext l2 l3)
noncomputable def bT (P:Params):BT:=(BT.node (boot_o_0 P) (BT.node (boot_o_1 P) (BT.node (boot_o_3 P) (BT.node (boot_o_7 P) BT.nil BT.nil) BT.nil) (BT.node (boot_o_5 P) (BT.node (boot_o_9 P) BT.nil BT.nil) BT.nil)) (BT.node (boot_o_2 P) (BT.node (boot_o_4 P) (BT.node (boot_o_8 P) BT.nil BT.nil) BT.nil) (BT.node (boot_o_6 P) (BT.node (boot_o_10 P) BT.nil BT.nil) BT.nil)))
theorem RX:∀ P:Params,absHeap (bT P) 11 {}=boot_heap P:=fun P=>by kernel_rfl
theorem RY:∀ w:World,((boot_heap w.params).isNs mainGlobals&&(Array.mk []:Array GenState).size == 0,(boot_heap w.params).objs.size,(boot_heap w.params).nsMap mainGlobals "__annotations__")=(true,11,some (.ref 6)):=fun w=>by kernel_rfl
theorem left_of {p q:Program}{loose:List Str}{Xt:Shared->Bool}{α:Type}{Yf:Shared->α}{Ya:World->α}{N:Nat}
  (open_:∀ w:World,(fencedOpening treeTable p w N).map (fun s=>(s.heap,s.gens,s.drawn,s.toks))=some (boot_heap w.params,Array.mk [],boot_drawn,boot_toks))
  (ev:∀ (w:World) (os:OsState),(vA through (PySem.W.Fast.tw6613529449190102663 11 (some (.ref 6))) (PySem.W.Fast.tw10156331382660048174 (PySem.W.Fast.tw11892475500146522536 PySem.W.Fast.tw14364793385576792824) p w) N ⟨bT w.params,11,{},Array.mk [],boot_drawn,boot_toks,os⟩ (topStub p)).map (fun s=>
    ((staticsOk (importedModules p.main.body) (boot_heap w.params) s.abs.heap&&namesBound p s.abs.heap&&gensDone s.abs&&laidKept (boot_heap w.params) s.abs.heap),
    PySem.W.Fast.tw4187177175401517315 q loose (importedModules p.main.body) Xt true s.abs,Yf s.abs))=some (true,openGood q loose,Ya w)):LeftO p q loose Xt Yf Ya N:=
 ZO open_ RX RY (Nat.ble_eq_true_of_le (aKv N)) (by
  rw[PySem.W.Fast.te6613529449190102663,PySem.W.Fast.te10156331382660048174,PySem.W.Fast.te11892475500146522536,PySem.W.Fast.te14364793385576792824,PySem.W.Fast.te4187177175401517315];exact ev)
theorem said_of {l:OpenLaw}(h:PySem.W.Fast.tw9446332074065402090 l=true):l.wellSaid=true:=by rw[PySem.W.Fast.te9446332074065402090];exact h
noncomputable def kE (P:Params) (x:Str) (t:Nat) (v:Value):DictEntry:=⟨PyData.keyHash P x,.str x t,v⟩
noncomputable def kC (a:Str) (t:Nat) (l m x:Int) (r:Addr) (b:Bool) (u:Int) (r2:Addr) (v1 v2 v3 v4:Value) (z:Nat):Obj:=
 ⟨.type "code",none,.fields #[.str a t,.str a (t+1),.str "/claim/cut.py" (t+2),.int l 0,.int m 0,.int 0 0,.int 0 0,.int x 0,.ref r,.bool b,.int u 0,.ref r2,v1,v2,v3,v4,.int (z:Int) 0,.int l 0,.str "/claim/cut.py" (z+1)],#[]⟩
end HD
namespace G
open PySem PySem.Spec PyProof.Rows L2
section
variable {X:Cx}{B:Hp}{fl:List Nat}{n n':Bool}{l l':Nat}{e:Expr}{f:Rho->Option T}{x:Str}{pos pos':Pos}
end
section
variable {prog:Program}{w:World}{A:Around}{E:Value->Shared->Prop}{s:Shared}
end
section
variable {prog:Program}{w:World}{A:Around}{E:Value->Shared->Prop}{s:Shared}
end
section
variable {X:Cx}{elts:List Expr}{k:Nat}{p2:Pos}
end
section
variable {X:Cx}{B:Hp}{fl:List Nat}{e e' e'':Expr}{f g h:Rho->Option T}{n n' n'':Bool}{l l' l'':Nat}{pos p' p2:Pos}{x:Str}{elts:List Expr}{k:Nat}
end
end G
namespace G
open PySem
def iv:Value->Int
 | .int i _=>i
 | _=>0
section
variable {prog:Program}{w:World}{A:Around}{E:Value->Shared->Prop}{s:Shared}{a:Addr}{b:Bool}{ks:List Int}
end
def met (ns:List Int):List Int:=ns.foldl (fun ks k=>if k∈ks then ks else k::ks) []
section
variable {prog:Program}{w:World}{A:Around}{R:Result->Shared->Prop}{I:Addr}{fp wr:List Addr}{GG:Array GenState->Array GenState->Prop}{n:Nat}{P:Nat->Value->Prop}{St:Nat->Shared->Prop}{b:Bool}
end
section
variable {prog:Program}{w:World}{A:Around}{E:Value->Shared->Prop}{s:Shared}
end
section
variable {prog:Program}{w:World}{A:Around}{E:Value->Shared->Prop}{s:Shared}{a:Addr}{o:Obj}{es:Array (Int × Value)}{ep:Nat}{t:SetTable}
end
section
variable {prog:Program}{w:World}{A:Around}{E:Value->Shared->Prop}{s:Shared}{a it:Addr}{o:Obj}{es:Array (Int × Value)}{ep i:Nat}{t:SetTable}{first:Value}
end
section
variable {prog:Program}{w:World}{A:Around}{E:Value->Shared->Prop}{s:Shared}{a it T:Addr}{o:Obj}{es:Array (Int × Value)}{ep i:Nat}{t:SetTable}
end
section
variable {prog:Program}{w:World}{A:Around}{E:Value->Shared->Prop}{s:Shared}{a it:Addr}{o:Obj}{es:Array (Int × Value)}{ep:Nat}{t:SetTable}
end
end G
namespace G
open PySem PyProof.Rows
section
variable {prog:Program}{w:World}{A:Around}{E:Value->Shared->Prop}{s:Shared}{a:Addr}{ks:List Int}
end
end G
namespace G
open PySem PySem.Spec PyProof.Rows L2
section
variable {X:Cx}{pins:List (Addr × Obj)}{σ:St}{H:Hp}{s:Shared}{h':Heap}
end
section
variable {X:Cx}{B:Hp}{fl:List Nat}{e:Expr}{f:Rho->Option T}{n:Bool}{l:Nat}{p1 p2 p3 p4 q1 q2 q3 q4:Pos}
end
end G
namespace G
open PySem PySem.Calls PyProof.Rows
section
variable {prog:Program}{w:World}{A:Around}{E:Value->Shared->Prop}{s:Shared}
end
end G
namespace G
open PySem PySem.Spec PyProof.Rows L2
section
variable {prog:Program}{w:World}{A:Around}{E:Value->Shared->Prop}{s:Shared}{env:Env}{x y:Str}{cx pl:Addr}{m:Str->Option Value}{j:Int}{tj:Tok}{its:List Value}
end
section
variable {prog:Program}{w:World}{A:Around}
end
section
variable {X:Cx}{pins:List (Addr × Obj)}{σ:St}{H:Hp}{s:Shared}
end
section
variable {X:Cx}
end
section
variable {X:Cx}{B:Hp}{fl:List Nat}{e:Expr}{fa:Rho->Option (List T)}{l':Nat}
end
section
variable {X:Cx}{B:Hp}{fl:List Nat}{e:Expr}{es:List Expr}{f:Rho->Option T}{fa:Rho->Option (List T)}{n n':Bool}{l l' k:Nat}{pos p':Pos}{x:Str}{ps:List Str}{F:List T->Option T}{Pt:Addr}{o:HO}
end
section
variable {P:Program}{w:World}{K:PySem.W.Frag}{mg:Str->Option Value}{base:Heap}
end
section
variable {X:Cx}{B:Hp}{fl:List Nat}{e:Expr}{es:List Expr}{fa:Rho->Option (List T)}{l:Nat}{pos p':Pos}{x:Str}
end
section
variable {X:Cx}{B:Hp}{fl:List Nat}{n:Bool}{l:Nat}{pos pos':Pos}{x:Str}
end
section
variable {X:Cx}{B:Hp}{fl:List Nat}{a b:Expr}{f g:Rho->Option T}{n n':Bool}{l l':Nat}{pos:Pos}
open SeqAt in
end
section
variable {K:PySem.W.Frag}{B H H':Hp}{fl:List Nat}{Ex:List (T × V)}{σ:St}{ρ:Rho}{M:List Addr}{i:Nat}
end
section
variable {X:Cx}{B:Hp}{fl:List Nat}{a b k:Expr}{f g fk:Rho->Option T}{n n' nk:Bool}{l l' lk i:Nat}{pos pos' dpos p2 p3:Pos}{x:Str}
end
section
variable {X:Cx}{B:Hp}{fl:List Nat}{n:Bool}{l:Nat}{pos pos' dpos tpos p2 p3 p4 p5:Pos}{x d y:Str}
end
end G
namespace GN
open PySem PySem.Builtin PySem.Builtin.Str PySem.Builtin.Int PySem.Calls PySem.NumText PyProof.Rows
set_option maxRecDepth 100000
section
variable {prog:Program}{w:World}{A:Around}{E:Value->Shared->Prop}{s:Shared}{a:Int}{t:Tok}
end
end GN
namespace G
open PySem PySem.Spec PyProof.Rows L2
section
variable {X:Cx}{B:Hp}{fl:List Nat}{a b e:Expr}{es:List Expr}{f g:Rho->Option T}{fa:Rho->Option (List T)}{n n':Bool}{l l':Nat}{pos p':Pos}{x:Str}
end
section
variable {X:Cx}{B:Hp}{fl:List Nat}{a b:Expr}{f g:Rho->Option T}{n n':Bool}{l l':Nat}{apos cpos:Pos}
end
section
variable {X:Cx}{B:Hp}{fl:List Nat}{e:Expr}{es:List Expr}{fa:Rho->Option (List T)}{n:Bool}{l:Nat}{pos p':Pos}{x:Str}
end
section
variable {X:Cx}{B:Hp}{fl:List Nat}{tg e:Expr}{n n':Bool}{l l':Nat}{f:Rho->Option T}{x:Str}{pos pos':Pos}
end
section
variable {X:Cx}{B:Hp}{fl:List Nat}{e:Expr}{f:Rho->Option T}{n:Bool}{l:Nat}{pos apos cpos:Pos}{x:Str}{tab:List (Str × List Str)}
end
section
variable {prog:Program}{w:World}{A:Around}{E:Value->Shared->Prop}{s:Shared}
end
section
variable {prog:Program}{w:World}{A:Around}{E:Value->Shared->Prop}{s:Shared}
end
section
variable {X:Cx}{elts:List Expr}{k:Nat}{p2:Pos}
end
def YZ:T->Option (List T)
 | .tup ts=>some ts
 | _=>none
@[simp] theorem isTp_tup (ts:List T):YZ (.tup ts)=some ts:=rfl
section
variable {X:Cx}{B:Hp}{fl:List Nat}{e e':Expr}{f g:Rho->Option T}{n n':Bool}{l l':Nat}{pos p' p2:Pos}{x:Str}{elts:List Expr}{k:Nat}
end
section
variable {X:Cx}{B:Hp}{fl:List Nat}{a b:Expr}{f g:Rho->Option T}{n n':Bool}{l l':Nat}{pos:Pos}
end
section
variable {K:PySem.W.Frag}{B H H':Hp}{fl:List Nat}{Ex:List (T × V)}{σ:St}{ρ:Rho}{M:List Addr}{i:Nat}
end
section
variable {X:Cx}{B:Hp}{fl:List Nat}{n n':Bool}{l l':Nat}{e:Expr}{es:List Expr}{f:Rho->Option T}{fa:Rho->Option (List T)}{pos pos' lpos:Pos}{i:Nat}{x:Str}
end
section
variable {X:Cx}{B:Hp}{fl:List Nat}{n:Bool}{l k:Nat}{x y:Str}{ps:List Str}{p' p2 pos epos:Pos}
end
section
variable {X:Cx}{q1 q2 q3 q4 q5 q6 q7 q8 q9 q10 q11 q12 q13:Pos}{j1 j2 j3 j4:Nat}{x:Str}
end
section
variable {P:Program}{w:World}{K:PySem.W.Frag}{mg:Str->Option Value}{base:Heap}
end
section
variable {X:Cx}{K:PySem.W.Frag}{B H:Hp}{fl fl':List Nat}{src:List (Option Nat)}{N':List Str}{Ex:List (T × V)}{σ σ1:St}{ρ:Rho}{M:List Addr}{li l:Nat}{sc n:Bool}{fi:Rho->Option (List T)}{p:Rho->Option Bool}{f:Rho->Option T}
end
section
variable {X:Cx}{B:Hp}{fl fl':List Nat}{elt iter:Expr}{x0:Str}{p0 pos:Pos}{ifs:List Expr}{scope:Scope}{N':List Str}{src:List (Option Nat)}{fi:Rho->Option (List T)}{li l:Nat}{sc n:Bool}{p:Rho->Option Bool}{f:Rho->Option T}
end
section
variable {X:Cx}{B:Hp}{fl:List Nat}{n:Bool}{l:Nat}{x y:Str}{pos pos':Pos}
end
end G
namespace G
open PySem PySem.Calls PyProof.Rows
section
variable {prog:Program}{w:World}{A:Around}{E:Value->Shared->Prop}{s:Shared}
end
end G
namespace G
open PySem PySem.Spec PyProof.Rows L2
section
variable {X:Cx}
end
section
variable {X:Cx}{pins:List (Addr × Obj)}{σ:St}{H:Hp}{s:Shared}
end
section
variable {X:Cx}
end
section
variable {X:Cx}{B:Hp}{fl:List Nat}{e:Expr}{fa:Rho->Option (List T)}{l':Nat}
end
section
variable {X:Cx}{pins:List (Addr × Obj)}{σ:St}{H:Hp}{s:Shared}
theorem YU {b:Addr}{o:Obj}{xs:List V}(I:Inv X pins σ H s) (hb:H b=some (.frz o (.lst xs))) (h0:X.H₀ b=none):Inv X pins σ (upd H b (.lst xs)) s:=by
 have ne:∀ c,H c=none->c≠b:=fun c e z=>by rw[z,hb] at e;cases e
 have u:Un X.fs X.ex X.H₀ (upd H b (.lst xs)) X.s₀.heap s.heap:=by
  refine⟨I.base.keep,I.base.slot,fun c u e n hx=>?_,I.base.there,fun c ys e=>?_,fun c u v e=>?_,fun c ps e=>?_⟩
  ·have:=I.base.free c u e n hx
   rw[bG (ne c this)];exact this
  ·have hc:c≠b:=fun z=>by rw[z,h0] at e;cases e
   rw[bG hc];exact I.base.tups c ys e
  ·have hc:c≠b:=fun z=>by rw[z,h0] at e;cases e
   rw[bG hc];exact I.base.frzs c u v e
  ·have hc:c≠b:=fun z=>by rw[z,h0] at e;cases e
   rw[bG hc];exact I.base.tbls c ps e
 refine⟨I.ok,I.os,I.bare,u,I.loc,I.cell,by rw[bG (ne _ I.free)];exact I.free,fun x c e=>by rw[bG (ne _ (I.freeC x c e))];exact I.freeC x c e,fun p hp=>?_,fun c u e=>?_,I.len⟩
 ·obtain⟨a1,a2,a3⟩:=I.pin p hp
  exact⟨a1,by rw[bG (ne _ a2)];exact a2,a3⟩
 ·by_cases hc:c=b
  ·subst hc
   rw[eJ] at e;cases e;exact (I.hok c _ hb).2
  ·rw[bG hc] at e
   refine (I.hok c u e).stay (fun b' w _ e'=>e') (fun b' e'=>?_) fun b' ys e'=>?_
   ·have:b'≠b:=fun z=>by rw[z,hb] at e';cases e'
    rw[bG this];exact e'
   ·have:b'≠b:=fun z=>by rw[z,hb] at e';cases e'
    rw[bG this];exact e'
end
section
variable {X:Cx}
end
def NoL (K:PySem.W.Frag):Prop:=∀ a o,K.lookup a=some o->o.cls≠.type "list"
theorem NoL.kl {K:PySem.W.Frag}(h:NoL K) {a:Addr}{xs:List V}(k:KL K a xs):False:=by
 obtain⟨o,_,_,h1,h2,_⟩:=k;exact h a o h1 h2
section
variable {X:Cx}{B:Hp}{fl:List Nat}{i:Nat}{W:List Nat}{dp:T->Bool}{body:List Stmt}{rp:Rho->Option Out}{e:Expr}{f:Rho->Option T}{x y:Str}{n':Bool}{l':Nat}{pos pos':Pos}
end
section
variable {K:PySem.W.Frag}{B H:Hp}{fl:List Nat}{Ex:List (T × V)}{σ:St}{ρ:Rho}{M:List Addr}
end
section
variable {K:PySem.W.Frag}
end
section
variable {P:Program}{w:World}{K:PySem.W.Frag}{mg:Str->Option Value}{base:Heap}
end
section
variable {X:Cx}{B:Hp}{fl:List Nat}{e:Expr}{es:List Expr}{f:Rho->Option T}{fa:Rho->Option (List T)}{n n':Bool}{l l' k i p:Nat}{pos p' pos' apos:Pos}{x y:Str}{ps:List Str}{F:List T->Option T}
end
def yK:PySem.W.Frag->Bool
 | []=>true
 | p::K=>(match p.2.cls with | .type n=>!(n == "list") | _=>true)&&yK K
theorem NoL.of:∀ {K:PySem.W.Frag},yK K=true->NoL K
 | [],_,a,o,e,_=>by cases e
 | p::K,h,a,o,e,hc=>by
  have h:((match p.2.cls with | .type n=>!(n == "list") | _=>true)&&yK K)=true:=h
  rw[aJ1] at h;have e:List.lookup a (p::K)=some o:=e;rw[aKb] at e;split at e
  ·cases e
   have h1:=h.1;rw[hc] at h1;simp at h1
  ·exact NoL.of h.2 a o e hc
end G
namespace G
open PySem PySem.Calls PySem.Spec PyProof.Rows L2
section
variable {prog:Program}{w:World}{A:Around}{E:Value->Shared->Prop}{s:Shared}
end
section
variable {X:Cx}{B:Hp}{fl:List Nat}{a b:Expr}{f g:Rho->Option T}{n n':Bool}{l l':Nat}{pos:Pos}
end
section
variable {X:Cx}{B:Hp}{fl:List Nat}{e:Expr}{es:List Expr}{fa:Rho->Option (List T)}{l:Nat}{pos p':Pos}{x:Str}
end
end G
namespace G
open PySem PySem.Spec PyProof.Rows L2
section
variable {X:Cx}{B:Hp}{fl:List Nat}{i k:Nat}{W:List Nat}{dp dq:T->Bool}{body:List Stmt}{rp:Rho->Option Out}{e:Expr}{f:Rho->Option T}{x y:Str}{n':Bool}{l':Nat}{pos pos':Pos}
end
end G
namespace G
open PySem PySem.Calls PyProof.Rows
structure J (R:Keyed->Keyed->Prop) (T out P Q:List Keyed):Prop where
 perm:(out++P++Q).Perm T
 so:out.Pairwise R
 sp:P.Pairwise R
 sq:Q.Pairwise R
 up:∀ x∈out,∀ y,y∈P\/y∈Q->R x y
section
variable {prog:Program}{w:World}{A:Around}{E:Value->Shared->Prop}{s:Shared}
end
section
variable {a b out:Array Keyed}{ia ib:Nat}
end
section
variable {prog:Program}{w:World}{A:Around}{E:Value->Shared->Prop}{s:Shared}
end
def tr (a:Array Keyed) (n:Nat):List Keyed:=(a.toList.take n).reverse
section
variable {a b out:Array Keyed}{na nb:Nat}
end
section
variable {prog:Program}{w:World}{A:Around}{E:Value->Shared->Prop}{s:Shared}
end
section
variable {prog:Program}{w:World}{A:Around}{E:Value->Shared->Prop}{s:Shared}
end
def Sg (xs:Array Keyed) (lo n:Nat):Prop:=∀ i j,lo<=i->i<=j->j<lo+n->K xs i<=K xs j
structure SB (a₀:Array Keyed) (pe:Array (Nat × Nat × Nat)) (st:SortSt):Prop where
 perm:(arrOf st).toList.Perm a₀.toList
 kind:PyProof.Rows.kindOf st=oneType'
 failed:failedOf st=none
 pend:pendingOf st=pe
section
variable {prog:Program}{w:World}{A:Around}{E:Value->Shared->Prop}{s:Shared}{a₀:Array Keyed}{pe:Array (Nat × Nat × Nat)}{st:SortSt}
end
section
variable {prog:Program}{w:World}{A:Around}{E:Value->Shared->Prop}{s:Shared}{a₀:Array Keyed}{pe:Array (Nat × Nat × Nat)}{st:SortSt}
def Rn (a₀:Array Keyed) (c lo:Nat) (st:SortSt):Prop:=
 (c=0/\lo=0/\SB a₀ #[] st)\/(c=1/\32<=lo/\lo<64/\SB a₀ #[(0,lo,0)] st/\Sg (arrOf st) 0 lo) \/
 (1<=c/\lo=64/\((SB a₀ #[(0,64,0)] st/\Sg (arrOf st) 0 64)\/∃ n1 p,0<n1/\n1<64/\SB a₀ #[(0,n1,p),(n1,64-n1,0)] st/\Sg (arrOf st) 0 n1/\Sg (arrOf st) n1 (64-n1)))
end
end G
namespace G
open PySem PySem.Calls PySem.Spec PyProof.Rows L2
section
variable {prog:Program}{w:World}{A:Around}{E:Value->Shared->Prop}{s:Shared}
end
section
variable {X:Cx}{B:Hp}{fl:List Nat}{e:Expr}{es:List Expr}{fa:Rho->Option (List T)}{l:Nat}{pos p':Pos}{x:Str}
end
end G
namespace G
open PySem PySem.Spec PyProof.Rows L2
def FP (cs:List (Nat × Addr)) (σ:St):Prop:=∀ c∈cs,σ[c.1]?=some (some (.ref c.2))
def tCB (K:PySem.W.Frag) (B:Hp) (fl:List Nat) (cs:List (Nat × Addr)) (rp:Rho->Option Out):TS:=fun D σ H=>∃ Ex ρ M o,Sl K B fl Ex σ ρ M H/\FP cs σ/\rp ρ=some o /\
 match o with
 | .nx ρ'=>∀ σ' M' H',Sl K B fl Ex σ' ρ' M' H'->FP cs σ'->D.nx σ' H'
 | _=>False
def CB (X:Cx) (B:Hp) (fl:List Nat) (cs:List (Nat × Addr)) (body:List Stmt) (rp:Rho->Option Out):Prop:=PSs X body (tCB X.K B fl cs rp)
def CB1 (X:Cx) (B:Hp) (fl:List Nat) (cs:List (Nat × Addr)) (st:Stmt) (rp:Rho->Option Out):Prop:=PS X st (tCB X.K B fl cs rp)
section
variable {X:Cx}{B:Hp}{fl:List Nat}{cs:List (Nat × Addr)}{body rest:List Stmt}{st:Stmt}{rp rq:Rho->Option Out}{e k:Expr}{f fk:Rho->Option T}{x y:Str}{n' nk:Bool}{l' lk:Nat}{pos pos':Pos}
theorem gW:CB X B fl cs [] aQ:=by
 refine uZ DL ?_;rintro D σ H ⟨Ex,ρ,M,o,S,hk,hr,q⟩;cases (aIo hr);exact q σ M H S hk
theorem cM (h1:CB1 X B fl cs st rp) (h2:CB X B fl cs rest rq):CB X B fl cs (st::rest) (aH rp rq):=by
 refine uZ (yW h1 h2) ?_;rintro D σ H ⟨Ex,ρ,M,o,S,hk,hr,q⟩;obtain⟨o1,h3,hr⟩:=bind_some hr;refine⟨Ex,ρ,M,o1,S,hk,h3,?_⟩;cases o1 with
 | nx ρ1=>exact fun σ' M' H' S' hk'=>⟨Ex,ρ1,M',o,S',hk',hr,q⟩
 | rt t=>
  cases (aIo hr);exact q
 | bk _=>
  cases (aIo hr);exact q
 | ct _=>
  cases (aIo hr);exact q
theorem rO (j:Nat) (he:GE X B fl e f n' l') (hN:X.N.Nodup) (hj:X.N[j]?=some y) (hy:Loc X.env.scope y) (hfl:(decide (j<fl.length)&&decide (1<=fl.getD j 1)&&decide (fl.getD j 1<=l'))=true) (hc:(cs.map (·.1)).contains j=false)
  (hs:swapsWith e (some (.Name y pos')) pos.line X.env=pure false:=by rfl) (hf:X.fn y=true\/X.env.scope.names.lookup y=some .local:=by first | exact .inl rfl | exact .inr rfl | assumption):
  CB1 X B fl cs (.Assign [.Name y pos'] e pos) (aJ j f):=by
 simp only[aJ1,decide_eq_true_eq] at hfl;refine dS (DK hN hj hy he hs hf) ?_;rintro D σ H ⟨Ex,ρ,M,o,S,hk,hr,q⟩;cases e1:f ρ with
 | none=>simp only[aJ,e1] at hr;cases hr
 | some u=>
  simp only[aJ,e1] at hr;cases (aIo hr);refine⟨Ex,ρ,M,u,S,e1,fun w H1 s1 rx=>?_⟩;refine q _ M H1 ((S.grow s1).set (i:=j) (t:=u) (v:=w) hfl.1.1 (.inl hfl.1.2) ((rx.rep S).weak fun b z=>⟨fun k=>z.1 (by have:=hfl.2;lia),fun k=>z.2.1 (by have:=hfl.2;lia),fun k=>by lia⟩)) fun c hcs=>?_;have hne:j≠c.1:=fun z=>by
   have:(cs.map (·.1)).contains j=true:=List.contains_iff_mem.mpr (by rw[z];exact aKj.mpr ⟨c,hcs,rfl⟩);rw[this] at hc;cases hc
  rw[aIy hne];exact hk c hcs
theorem kG {c:Expr}{p:Rho->Option Bool}(hc:GT X B fl c p) (hb:CB X B fl cs body rp):CB1 X B fl cs (.If c body [] pos) (rIf p rp aQ):=by
 refine dS (DJ hc hb (gW (B:=B) (fl:=fl) (cs:=cs))) ?_;rintro D σ H ⟨Ex,ρ,M,o,S,hk,hr,q⟩;obtain⟨d,h2,h1⟩:=bind_some hr;refine⟨Ex,ρ,M,d,S,h2,fun H1 s1=>?_⟩;cases d with
 | true=>exact hU ⟨Ex,ρ,M,o,S.grow s1,hk,h1,q⟩
 | false=>exact hG ⟨Ex,ρ,M,o,S.grow s1,hk,h1,q⟩
theorem rN (i:Nat) {p2 p3:Pos}(he:GE X B fl e f n' l') (hk:GE X B fl k fk nk lk) (h1:(decide (fl.getD i 1=0)&&decide (lc fl<=l'))=true) (hN:X.N[i]?=some x:=by rfl)
  (hv:Vis X.env.scope x:=by first | exact Or.inl rfl | exact Or.inr (Or.inl rfl) | exact Or.inr (Or.inr rfl))
  (hd:(x == ("__debug__" : Str))=false:=by decide) (hcd:(x == ("__classdict__" : Str))=false:=by decide)
  (ha:∀ v,assign (.Subscript (.Name x p2) k p3) X.env v=(do
   let ov <- holding [v] (eval (.Name x p2) X.env)
   let iv <- holding [v,ov] (eval k X.env)
   standAt p3
   holding [v,ov,iv] (setItem ov iv v)
   release [v,ov,iv] []):=by intro _;rfl)
  (hs:swapsWithSole [.Subscript (.Name x p2) k p3] e pos.line X.env=pure false:=by rfl) (hw:swappedStores [.Subscript (.Name x p2) k p3] e X.env=pure none:=by rfl)
  (h2:(assignEach [.Subscript (.Name x p2) k p3] X.env).map (·.2)=[assign (.Subscript (.Name x p2) k p3) X.env]:=by rfl):
  CB1 X B fl cs (.Assign [.Subscript (.Name x p2) k p3] e pos) (cY i fk f):=by
 simp only[aJ1,decide_eq_true_eq] at h1;have lcl:=hV fl;have lcp:=kS fl;refine dS (DI he (LD (pv (X:=X) i hN hv hd hcd) hk MR ha) hs hw h2) ?_;rintro D σ H ⟨Ex,ρ,M,o,S,hkp,hr,q⟩;obtain⟨y,e2,hr⟩:=bind_some hr;obtain⟨t,e1,hr⟩:=bind_some hr;obtain⟨kk,ek,hr⟩:=bind_some hr;have ht2:∃ ts j,t=.lst ts/\kk=.int j:=by
  cases t<;>first | (cases hr;done) | skip
  cases kk<;>first | (cases hr;done) | exact⟨_,_,rfl,rfl⟩
 obtain⟨ts,j,rfl,rfl⟩:=ht2;dsimp only at hr;cases ej:ixN ts.length j with
 | none=>rw[ej] at hr;cases hr
 | some j'=>
  rw[ej] at hr;cases (aIo hr);have e1':=gC e1;refine⟨Ex,ρ,M,y,S,e2,fun v H1 s1 rx=>?_⟩;obtain⟨a,ts',xs,e3,e4,e5,e6,e7⟩:=S.muL i _ e1' h1.1;cases e3;refine⟨_,e4,?_⟩;refine⟨Ex,ρ,M,_,S.grow s1,ek,fun vk H2 s2 rk=>?_⟩;have S2:=S.grow (s1.trans s2);refine⟨a,xs,j,j',rfl,(aX.scal rfl).mp rk,(s1.trans s2) _ _ e5,by rw[<- e6.length];exact ej,?_⟩;refine q σ M _ (S2.write h1.1 e1' e4 e7 ((s1.trans s2) _ _ e5) (RepL.set j' ((rx.rep S).grow s2 |>.weak fun b x=>?_) ((e6.grow (s1.trans s2)).weak fun b x=>x.any (by lia)))) hkp;exact⟨fun z=>x.1 (by lia),fun z=>x.2.1 (by lia),fun z=>by lia⟩
theorem SU (i:Nat) {apos p2:Pos}(hk:GE X B fl k fk nk lk) (he:GE X B fl e f n' l') (h1:(decide (fl.getD i 1=0)&&decide (lc fl<=l'))=true) (hN:X.N[i]?=some x:=by rfl) (hv:Vis X.env.scope x:=by first | exact Or.inl rfl | exact Or.inr (Or.inl rfl) | exact Or.inr (Or.inr rfl))
  (hd:(x == ("__debug__" : Str))=false:=by decide) (hcd:(x == ("__classdict__" : Str))=false:=by decide)
  (hbase:attributeBase (.Name x p2) "insert" X.env (eval (.Name x p2) X.env)=eval (.Name x p2) X.env:=by rfl)
  (hfew:((backTo pos' (starEach [k,e] X.env)).all (fun x=>!x.1)&&(backToKw pos' (keywordEach [] X.env)).all (fun x=>x.1.isSome)
   && decide (([k,e]:List Expr).length+([]:List Keyword).length+(if ([]:List Keyword).isEmpty then 0 else 1)<30))=true:=by rfl)
  (hline:(apos.endLine == pos'.line)=true:=by rfl) (hs:starEach [k,e] X.env=(false,eval k X.env)::starEach [e] X.env:=by rfl) (hs2:starEach [e] X.env=[(false,eval e X.env)]:=by rfl) (hpl:(backTo pos' (starEach [e] X.env)).any (·.1)=false:=by rfl) (hsw:swapsWith (.Call (.Attribute (.Name x p2) "insert" apos) [k,e] [] pos') none pos.line X.env=pure false:=by rfl):
  CB1 X B fl cs (.Expr (.Call (.Attribute (.Name x p2) "insert" apos) [k,e] [] pos') pos) (pC i fk f):=by
 simp only[aJ1,decide_eq_true_eq] at h1;refine dS (sI (uW PySem.F.plainAttrs_list PySem.F.slot_list_insert PySem.F.type_list_insert KD (pv (X:=X) i hN hv hd hcd) (eP hk (eP he jR hs2) hs) hbase hfew hline hs hpl) hsw) ?_;rintro D σ H ⟨Ex,ρ,M,o,S,hkp,hr,q⟩;obtain⟨t,e1,hr⟩:=bind_some hr;obtain⟨j,e0,hr⟩:=bind_some hr;obtain⟨y,e2,hr⟩:=bind_some hr;cases t<;>first | (cases hr;done) | skip
 cases j<;>first | (cases hr;done) | skip
 dsimp only at hr;split at hr
 ·rename_i hl
  cases (aIo hr);have e1':=gC e1;have lcl:=hV fl;have lcp:=kS fl;obtain⟨a,ts,xs,e3,e4,e5,e6,e7⟩:=S.muL i _ e1' h1.1;cases e3;refine⟨_,e4,.inl ⟨rfl,xs,SqL.of e5⟩,?_⟩;refine⟨Ex,ρ,M,_,S,e0,fun v0 H0 s0 r0=>?_⟩;cases (aX.scal rfl).mp r0;have S0:=S.grow s0;refine⟨Ex,ρ,M,y,S0,e2,fun v H1 s1 rx=>?_⟩;refine⟨a,xs,_,v,rfl,rfl,s1 _ _ (s0 _ _ e5),hl.2.1,hl.2.2,by rw[<- e6.length];exact gU (aKu hl.1),?_⟩;refine q σ M _ ((S0.grow s1).write h1.1 e1' e4 e7 (s1 _ _ (s0 _ _ e5)) (LU (((e6.grow s0).grow s1).weak fun b x=>x.any (by lia)) ((rx.rep S0).weak fun b x=>?_) _)) hkp;exact⟨fun z=>x.1 (by lia),fun z=>x.2.1 (by lia),fun z=>by lia⟩
 ·cases hr
def yY (i:Nat):Rho->Option Out:=fun ρ=>(aA i ρ).bind fun t=>match t with | .lst _=>some (.nx (ρ.set i (some (.lst [])))) | _=>none
@[simp] theorem rClr_at (i:Nat) (ρ:Rho):yY i ρ=(aA i ρ).bind fun t=>match t with | .lst _=>some (.nx (ρ.set i (some (.lst [])))) | _=>none:=id rfl
theorem ST (i:Nat) {apos p2:Pos}(h1:decide (fl.getD i 1=0)=true) (hN:X.N[i]?=some x:=by rfl) (hv:Vis X.env.scope x:=by first | exact Or.inl rfl | exact Or.inr (Or.inl rfl) | exact Or.inr (Or.inr rfl))
  (hd:(x == ("__debug__" : Str))=false:=by decide) (hcd:(x == ("__classdict__" : Str))=false:=by decide)
  (hbase:attributeBase (.Name x p2) "clear" X.env (eval (.Name x p2) X.env)=eval (.Name x p2) X.env:=by rfl)
  (hline:(apos.endLine == pos'.line)=true:=by rfl) (hsw:swapsWith (.Call (.Attribute (.Name x p2) "clear" apos) [] [] pos') none pos.line X.env=pure false:=by rfl):
  CB1 X B fl cs (.Expr (.Call (.Attribute (.Name x p2) "clear" apos) [] [] pos') pos) (yY i):=by
 simp only[decide_eq_true_eq] at h1;refine dS (sI (KU PySem.F.plainAttrs_list PySem.F.slot_list_clear PySem.F.type_list_clear ZV (pv (X:=X) i hN hv hd hcd) hbase hline) hsw) ?_;rintro D σ H ⟨Ex,ρ,M,o,S,hkp,hr,q⟩;obtain⟨t,e1,hr⟩:=bind_some hr;cases t<;>first | (cases hr;done) | skip
 cases (aIo hr);have e1':=gC e1;obtain⟨a,ts,xs,e3,e4,e5,e6,e7⟩:=S.muL i _ e1' h1;refine⟨_,e4,.inl ⟨rfl,xs,SqL.of e5⟩,a,xs,rfl,rfl,e5,?_⟩;exact q σ M _ (S.write h1 e1' e4 e7 e5 rfl) hkp
def zA (i:Nat) (fk:Rho->Option T):Rho->Option Out:=fun ρ=>(aA i ρ).bind fun t=>(fk ρ).bind fun k=>match t,k with | .lst ts,.int j=>if 0<=j/\j<ts.length/\j<2^63 then some (.nx (ρ.set i (some (.lst (ts.eraseIdx j.toNat))))) else none | _,_=>none
@[simp] theorem rPopI_at (i:Nat) (fk:Rho->Option T) (ρ:Rho):zA i fk ρ=(aA i ρ).bind fun t=>(fk ρ).bind fun k=>match t,k with | .lst ts,.int j=>if 0<=j/\j<ts.length/\j<2^63 then some (.nx (ρ.set i (some (.lst (ts.eraseIdx j.toNat))))) else none | _,_=>none:=id rfl
theorem LT {K:PySem.W.Frag}{H:Hp}{A:Addr->Prop}:∀ {ts:List T}{xs:List V}(i:Nat),RepL K H A ts xs->RepL K H A (ts.eraseIdx i) (xs.eraseIdx i)
 | [],_,i,h=>by cases (show _=[] from h);rfl
 | t::ts,_,0,⟨x,r,rfl,h1,h2⟩=>h2
 | t::ts,_,i+1,⟨x,r,rfl,h1,h2⟩=>⟨x,r.eraseIdx i,rfl,h1,LT i h2⟩
theorem SV (i:Nat) {apos p2:Pos}(hk:GE X B fl k fk nk lk) (h1:decide (fl.getD i 1=0)=true) (hN:X.N[i]?=some x:=by rfl) (hv:Vis X.env.scope x:=by first | exact Or.inl rfl | exact Or.inr (Or.inl rfl) | exact Or.inr (Or.inr rfl))
  (hd:(x == ("__debug__" : Str))=false:=by decide) (hcd:(x == ("__classdict__" : Str))=false:=by decide)
  (hbase:attributeBase (.Name x p2) "pop" X.env (eval (.Name x p2) X.env)=eval (.Name x p2) X.env:=by rfl)
  (hfew:((backTo pos' (starEach [k] X.env)).all (fun x=>!x.1)&&(backToKw pos' (keywordEach [] X.env)).all (fun x=>x.1.isSome)
   && decide (([k]:List Expr).length+([]:List Keyword).length+(if ([]:List Keyword).isEmpty then 0 else 1)<30))=true:=by rfl)
  (hline:(apos.endLine == pos'.line)=true:=by rfl) (hs:starEach [k] X.env=[(false,eval k X.env)]:=by rfl) (hsw:swapsWith (.Call (.Attribute (.Name x p2) "pop" apos) [k] [] pos') none pos.line X.env=pure false:=by rfl):
  CB1 X B fl cs (.Expr (.Call (.Attribute (.Name x p2) "pop" apos) [k] [] pos') pos) (zA i fk):=by
 simp only[decide_eq_true_eq] at h1;refine dS (sI (uW PySem.F.plainAttrs_list PySem.F.slot_list_pop PySem.F.type_list_pop ZX (pv (X:=X) i hN hv hd hcd) (eP hk jR hs) hbase hfew hline hs rfl) hsw) ?_;rintro D σ H ⟨Ex,ρ,M,o,S,hkp,hr,q⟩;obtain⟨t,e1,hr⟩:=bind_some hr;obtain⟨j,e0,hr⟩:=bind_some hr;cases t<;>first | (cases hr;done) | skip
 cases j<;>first | (cases hr;done) | skip
 rename_i ts0 j;dsimp only at hr;split at hr
 ·rename_i hl
  cases (aIo hr);have e1':=gC e1;obtain⟨a,ts,xs,e3,e4,e5,e6,e7⟩:=S.muL i _ e1' h1;cases e3;refine⟨_,e4,.inl ⟨rfl,xs,SqL.of e5⟩,?_⟩;refine⟨Ex,ρ,M,_,S,e0,fun v0 H0 s0 r0=>?_⟩;cases (aX.scal rfl).mp r0;have S0:=S.grow s0;have hlen:=e6.length;have hj:j.toNat<xs.length:=by lia
  refine⟨a,xs,j,j.toNat,xs[j.toNat],rfl,rfl,s0 _ _ e5,by lia,hl.2.2,?_,aIq hj,?_⟩
  ·unfold seqIndex?
   simp only[]
   first
    | (rw[if_neg (by lia)];simp;lia)
    | (simp;lia)
  exact q σ M _ (S0.write h1 e1' e4 e7 (s0 _ _ e5) (LT _ ((e6.grow s0).weak fun b x=>x.any (hV fl)))) hkp
 ·cases hr
end
def uL (as:List Addr) (H:Hp):Hp:=fun b=>if b∈as then none else H b
theorem JZ {H:Hp}{as:List Addr}{b:Addr}(h:b∈as):uL as H b=none:=if_pos h
theorem KB {H:Hp}{as:List Addr}{b:Addr}(h:b ∉ as):uL as H b=H b:=if_neg h
def AI (pl:List Nat) (K:PySem.W.Frag) (F:List T->Option (List T)):Sp:=fun vs H Q _=>∃ (ts rs:List T) (ad:Nat->Addr),ts.length=vs.length/\(∀ p∈pl,∀ q∈pl,p≠q->ad p≠ad q) /\
 (∀ p∈pl,vs[p]?=some (.ref (ad p))/\∃ us xs,ts[p]?=some (.lst us)/\bF us=true/\H (ad p)=some (.lst xs)/\RepL K H (fun _=>True) us xs) /\
 (∀ (j:Nat) (u:T) (v:V),j ∉ pl->ts[j]?=some u->vs[j]?=some v->Rep K H (fun b=>b ∉ pl.map ad) u v)/\F ts=some rs /\
 ∀ H',aZ (uL (pl.map ad) H) H'->(∀ (c p:Nat),pl[c]?=some p->∃ us ys,rs[c]?=some (.lst us)/\bF us=true/\H' (ad p)=some (.lst ys)/\RepL K H' (fun _=>True) us ys)->Q .non H'
def fO (ρ:Rho):List Nat->Option (List T)
 | []=>some []
 | p::pl=>match (ρ[p]?).join with
  | some (.lst us)=>if bF us=true then (fO ρ pl).map fun r=>.lst us::r else none
  | _=>none
theorem LG {ρ:Rho}:∀ {pl:List Nat}{rs:List T},fO ρ pl=some rs->∀ (c p:Nat),pl[c]?=some p->∃ us,rs[c]?=some (.lst us)/\bF us=true/\ρ[p]?=some (some (.lst us))
 | [],_,_,c,p,e=>by simp at e
 | q::pl,rs,h,c,p,e=>by
  unfold fO at h;cases e1:(ρ[q]?).join with
  | none=>rw[e1] at h;cases h
  | some t=>
   rw[e1] at h;cases t<;>first | (cases h;done) | skip
   rename_i us;dsimp only at h;split at h
   rotate_left
   ·cases h
   rename_i hf;cases e2:fO ρ pl with
   | none=>rw[e2] at h;cases h
   | some r=>
    rw[e2] at h;cases (aIo h);cases c with
    | zero=>
     cases (aIo e);exact⟨us,rfl,hf,gC e1⟩
    | succ c=>exact LG e2 c p e
def tN (np k:Nat) (pl:List Nat) (run:Rho->Option Out) (ts:List T):Option (List T):=if ts.length=np then (run (ts.map some++List.replicate k none)).bind fun o=>match o with | .nx ρ'=>fO ρ' pl | _=>none else none
theorem RE {np k:Nat}{pl:List Nat}{run:Rho->Option Out}{ts rs:List T}(h:tN np k pl run ts=some rs):ts.length=np:=by
 unfold tN at h;split at h
 ·assumption
 ·cases h
theorem RF {np k:Nat}{pl:List Nat}{run:Rho->Option Out}{ts rs:List T}(h:tN np k pl run ts=some rs):∃ ρ',run (ts.map some++List.replicate k none)=some (.nx ρ')/\fO ρ' pl=some rs:=by
 unfold tN at h;split at h
 ·obtain⟨o,e,h⟩:=bind_some h
  cases o<;>first | (cases h;done) | skip
  exact⟨_,e,h⟩
 ·cases h
section
variable {K:PySem.W.Frag}
theorem aEz {H:Hp}{fl:List Nat}{N ps:List Str}{ts:List T}{vs:List V}{pl:List Nat}{ad:Nat->Addr}(hfl:fl.length=N.length) (hp:∀ i,i<ps.length->i ∉ pl->fl.getD i 1=1) (hl:ts.length=ps.length) (hlv:ts.length=vs.length) (hN:ps.length<=N.length)
  (h0:∀ p∈pl,fl.getD p 1=0) (hinj:∀ p∈pl,∀ q∈pl,p≠q->ad p≠ad q) (h1:∀ p∈pl,vs[p]?=some (.ref (ad p))/\∃ us xs,ts[p]?=some (.lst us)/\bF us=true/\H (ad p)=some (.lst xs)/\RepL K H (fun _=>True) us xs)
  (h6:∀ (j:Nat) (u:T) (v:V),j ∉ pl->ts[j]?=some u->vs[j]?=some v->Rep K H (fun b=>b ∉ pl.map ad) u v):
  Sl K (uL (pl.map ad) H) fl [] (L2.start N vs) (ts.map some++List.replicate (N.length-ps.length) none) (pl.map ad) H:=by
 have get:∀ i t,(ts.map some++List.replicate (N.length-ps.length) none)[i]?=some (some t)->ts[i]?=some t/\i<ps.length:=fun i t e=>by
  by_cases hi:i<ts.length
  ·rw[aJt (by simpa using hi),aJx] at e
   rw[aIq hi] at e ⊢;exact⟨aIo e,by lia⟩
  ·rw[List.getElem?_append_right (by simpa using hi),aJz] at e
   split at e<;>cases e
 have sv:∀ i v,i<ps.length->vs[i]?=some v->(L2.start N vs)[i]?=some (some v):=fun i v hi e=>by
  unfold L2.start;rw[aJt (by rw[aK5];lia),aJx,e]
  rfl
 have inM:∀ p∈pl,ad p∈pl.map ad:=fun p hp=>aKj.mpr ⟨p,hp,rfl⟩;have flz:∀ i,i<ps.length->fl.getD i 1=0->i∈pl:=fun i hi z=>Classical.byContradiction fun hn=>by rw[hp i hi hn] at z;cases z
 refine⟨fun b o e=>?_,fun i t e k=>?_,⟨fun i _=>ad i,fun i t e k hm=>?_,fun i j c d t u us' ws hne e e' k k' hh hh'=>?_⟩,fun p hp=>by simp at hp,fun b hb=>?_,?_⟩
 ·by_cases hb:b∈pl.map ad
  ·rw[JZ hb] at e;cases e
  ·rw[KB hb] at e;exact e
 ·obtain⟨e1,hi⟩:=get i t e
  by_cases hip:i∈pl
  ·obtain⟨_,us,xs,h2,_⟩:=h1 i hip
   rw[h2] at e1;cases e1;rcases k with k | k
   ·rw[h0 i hip] at k;lia
   ·simp[im] at k
  ·obtain⟨v,ev⟩:∃ v,vs[i]?=some v:=⟨_,aIq (by lia)⟩
   refine⟨v,sv i v hi ev,(h6 i t v hip e1 ev).weak fun b hb=>?_⟩;rw[hp i hi hip];exact⟨fun _ z=>hb z,fun z=>by lia,fun z=>by lia⟩
 ·obtain⟨e1,hi⟩:=get i t e
  have hip:=flz i hi k;obtain⟨hv,us,xs,h2,h3,h4,h5⟩:=h1 i hip;rw[h2] at e1;cases e1;refine⟨.ref (ad i),sv i _ hi hv,rfl,fun c us' hh=>?_⟩;obtain⟨_,rfl⟩:=hh;exact⟨xs,h4,jS h3 h5,inM i hip⟩
 ·obtain⟨e1,hi⟩:=get i t e
  obtain⟨e2,hj⟩:=get j u e';have hip:=flz i hi k;have hjp:=flz j hj k';rcases hne with z | z
  ·exact hinj i hip j hjp z
  ·obtain⟨_,us,xs,h2,_⟩:=h1 i hip
   obtain⟨_,us2,xs2,h2',_⟩:=h1 j hjp;rw[h2] at e1;rw[h2'] at e2;cases e1;cases e2;exact absurd (hh.1.trans hh'.1.symm) z.1
 ·rw[JZ hb]
  obtain⟨p,hp',rfl⟩:=aKj.mp hb;obtain⟨_,us,xs,_,_,h4,_⟩:=h1 p hp';rw[h4];exact⟨rfl,by simp⟩
 ·unfold L2.start
  rw[hfl,aK2,aK5,aK8];lia
end
section
variable {P:Program}{w:World}{K:PySem.W.Frag}{mg:Str->Option Value}{base:Heap}
theorem XH {x qual:Str}{st:Stmt}{f:Addr}{fd:FuncData}{N ps:List Str}{k:Nat}{fl:List Nat}{F:List T->Option (List T)}{run:Rho->Option Out}(pl:List Nat) (Fu:Fun K x qual st f fd) (S:FnScope N ps (defScope st))
  (hfl:fl.length=N.length) (hp:∀ i,i<ps.length->i ∉ pl->fl.getD i 1=1) (h0:∀ p∈pl,fl.getD p 1=0) (hlt:∀ p∈pl,p<ps.length) (hlen:∀ ts t,F ts=some t->ts.length=ps.length)
  (hb:∀ (B:Hp) (ad:Nat->Addr) (cdv:Value) (A:Around) (outer:List Env) (s:Shared) (H:Hp) (E:XK),Room k (A.deeper (envOfC qual (defScope st) s.heap.objs.size f cdv)) ->
   CB (bA CX0 P w K mg base N qual (defScope st) f cdv A outer s H E).nox B fl (pl.map fun p=>(p,ad p)) (defBody st) run)
  (hrun:∀ ts rs,F ts=some rs->∃ ρ',run (ts.map some++List.replicate (N.length-ps.length) none)=some (.nx ρ')/\fO ρ' pl=some rs):FnOk P w K mg base CX0 (k+1) f fd ps (AI pl K F):=by
 have hN:ps.length<=N.length:=by have:=congrArg List.length S.pre;rw[List.length_take] at this;lia
 refine Fu.ok S (fun vs H Q E h=>?_) (fun cdv A outer s H vs Q E hr h=>?_)
 ·obtain⟨ts,rs,_,hl,_,_,_,hf,_⟩:=h
  rw[<- hl];exact hlen ts rs hf
 ·obtain⟨ts,rs,ad,hl,hinj,h1,h6,hf,q⟩:=h
  refine⟨_,hb (uL (pl.map ad) H) ad cdv A outer s H E hr,?_⟩;obtain⟨ρ',ho,hpk⟩:=hrun ts rs hf;refine⟨[],_,pl.map ad,.nx ρ',aEz hfl hp (hlen ts rs hf) hl hN h0 hinj h1 h6,fun c hc=>?_,ho,fun σ' M' H' S' hkp=>?_⟩
  ·obtain⟨p,hp',rfl⟩:=aKj.mp hc
   show (L2.start N vs)[p]?=some (some (.ref (ad p)));have hv:=(h1 p hp').1;have hpl:=hlt p hp';have:=hlen ts rs hf;unfold L2.start;rw[aJt (by rw[aK5];lia),aJx,hv]
   rfl
  ·refine q H' S'.same fun c p hc=>?_
   obtain⟨us,r1,r2,r3⟩:=LG hpk c p hc;have hmem:p∈pl:=aKl hc;obtain⟨a,ts',xs,e3,e4,e5,e6,e7⟩:=S'.muL p us r3 (h0 p hmem);cases e3;have hk:=hkp (p,ad p) (aKj.mpr ⟨p,hmem,rfl⟩);have hk:σ'[p]?=some (some (.ref (ad p))):=hk;rw[hk] at e4;have ea:ad p=a:=by
    have:=aIo (aIo e4)
    injection this
   subst ea;exact⟨us,xs,r1,r2,e5,jS r2 e6⟩
structure CalC3 (P:Program) (w:World) (K:PySem.W.Frag) (mg:Str->Option Value) (base:Heap) (x:Str) (k:Nat) (ps:List Str) (pl:List Nat) (F:List T->Option (List T)):Prop where
 ex:∃ f fd,FnOk P w K mg base CX0 k f fd ps (AI pl K F)/\mg x=some (.ref f)/\PySem.W.keepIn K (.ref f)=true/\mN K fd ps []
end
theorem RS {prog:Program}{w:World}{A:Around}{E:Value->Shared->Prop}{s:Shared}{env:Env}{elts:List Expr}{x1:Nat}{pos:Pos}{t:Addr}{items:Array Value}{Q:Unit->Shared->Prop}(hh:A.handled=none) (hl:s.heap.IsList t items) (hn:(assignEach elts env).length=items.size) (hst:(assignEach elts env).findIdx? (·.1)=none)
  (h:∀ h':Heap,Heap.ExtBut s.heap.objs.size s.heap h'->wpAny (model prog w) A (assignInOrder ((assignEach elts env).map (·.2)) items.toList) Q E { s with heap:=h' }):wpAny (model prog w) A (assign (.Tuple elts x1 pos) env (.ref t)) Q E s:=by
 rw[assign_Tuple];refine wpAny_bind (wpAny_standAt ?_);unfold unpack;rw[hst,hn];exact wpAny_bind (wpAny_holding (PySem.W.kun_itemsOf hh hl fun h' hx=>h h' hx))
def WP (K:PySem.W.Frag) (n:Nat) (t:TGs):TG:=fun v σ H Q=>∃ a xs,v=.ref a/\SqL K H a xs/\xs.length=n/\t xs σ H Q
theorem aD0 {X:Cx}{pos:Pos}{es:List Expr}{k:Nat}{t:TGs}{n:Nat}(hc:X.calm=true) (h:PGs X es t)
  (hn:(assignEach es X.env).length=n:=by rfl) (hst:(assignEach es X.env).findIdx? (·.1)=none:=by rfl):PG X (.Tuple es k pos) (WP X.K n t):=by
 intro pins s σ H v u Q I r hw;obtain⟨a,xs,e1,hq,hl,hw⟩:=hw;subst e1;cases r;obtain⟨its,rv,ht,hz⟩:=I.list hq;refine RS (I.ok.hd hc) ht.isList (by simp[hn,<- hl,rv.length]) hst fun h' hx=>?_;have I1:Inv X pins σ H { s with heap:=h' }:=I.kept (t':=s.toks) fun b o e=>hx b o (aL5 (aJ9 e)) e;exact h pins _ σ H xs _ Q I1 (by simpa using rv) hw
section
variable {X:Cx}{pins:List (Addr × Obj)}{σ:St}{H:Hp}{s:Shared}
theorem CQ {a:Addr}{xs:List V}(I:Inv X pins σ H s) (h:Rd H a (.lst xs)) (h0:X.H₀ a=none):∃ H',Inv X pins σ H' s/\H' a=some (.lst xs)/\∀ b,b≠a->H' b=H b:=by
 rcases h with h | ⟨o,h⟩
 ·exact⟨H,I,h,fun _ _=>rfl⟩
 ·exact⟨upd H a (.lst xs),YU I h h0,eJ,fun b hb=>bG hb⟩
end
def LF (K:PySem.W.Frag) (H:Hp) (a:Addr) (us:List T) (xs:List V):Prop:=Rd H a (.lst xs)/\bF us=true/\RepL K H (fun _=>True) us xs/\dep (.lst us)<=60
def un4 (u0 u1 u2 u3:List T):Bool:=!eqT (.lst u0) (.lst u1) && !eqT (.lst u0) (.lst u2) && !eqT (.lst u0) (.lst u3) && !eqT (.lst u1) (.lst u2) && !eqT (.lst u1) (.lst u3) && !eqT (.lst u2) (.lst u3)
def ND (X:Cx) (i0 i1 i2 i3:Nat) (F:List T->Option (List T)):TS:=fun D σ H=>∃ (v0:V) (ut u0 u1 u2 u3 r1 r2 r3:List T) (a0 a1 a2 a3:Addr) (xs0 xs1 xs2 xs3:List V),
 σ[i0]?=some (some v0)/\σ[i1]?=some (some (.ref a1))/\σ[i2]?=some (some (.ref a2))/\σ[i3]?=some (some (.ref a3)) /\
 LF X.K H a0 u0 xs0/\LF X.K H a1 u1 xs1/\LF X.K H a2 u2 xs2/\LF X.K H a3 u3 xs3/\X.H₀ a1=none/\X.H₀ a2=none/\X.H₀ a3=none/\un4 u0 u1 u2 u3=true /\
 bF ut=true/\Rep X.K H (fun b=>b≠a1/\b≠a2/\b≠a3) (.lst ut) v0/\F [.lst ut,.lst u1,.lst u2,.lst u3]=some [.lst r1,.lst r2,.lst r3] /\
 ∀ H',a0≠a1->a0≠a2->a0≠a3->(∀ b o,b≠a1->b≠a2->b≠a3->H b=some o->H' b=some o)->(∃ ys,H' a1=some (.lst ys)/\RepL X.K H' (fun _=>True) r1 ys)->(∃ ys,H' a2=some (.lst ys)/\RepL X.K H' (fun _=>True) r2 ys)->(∃ ys,H' a3=some (.lst ys)/\RepL X.K H' (fun _=>True) r3 ys) ->
  bF r1=true->bF r2=true->bF r3=true->D.nx σ H'
theorem sK {H:Hp}{a b:Addr}{xs:List V}{u:HO}(hu:(∃ ys,u=.tup ys)\/∃ φ,u=.ext φ) (ha:Rd H a (.lst xs)) (h:Rd H b u):b≠a:=fun z=>by
 subst z;rcases hu with ⟨ys,rfl⟩ | ⟨φ,rfl⟩
 ·rcases ha with ha | ⟨o,ha⟩<;>rcases h with h | ⟨o',h⟩<;>rw[ha] at h<;>cases h
 ·rcases ha with ha | ⟨o,ha⟩<;>rcases h with h | ⟨o',h⟩<;>rw[ha] at h<;>cases h
section
variable {K:PySem.W.Frag}{H H':Hp}{A A':Addr->Prop}
mutual
theorem aE4 (kt:∀ b (u:HO),((∃ ys,u=.tup ys)\/∃ φ,u=.ext φ)->Rd H b u->Rd H' b u):∀ (t:T) {v:V},im t=true->Rep K H A t v->Rep K H' A' t v
 | .non,_,_,h=>h
 | .bl _,_,_,h=>h
 | .int _,_,_,h=>h
 | .str _,_,_,h=>h
 | .lst _,_,e,_=>by simp[im] at e
 | .tup ts,_,e,h=>by
  obtain⟨a,xs,e1,c,r⟩:=h;refine⟨a,xs,e1,?_,repL_imt kt ts (by simpa [im] using e) r⟩;rcases c with c | c
  ·exact .inl (kt a _ (.inl ⟨_,rfl⟩) c)
  ·exact .inr c
 | .exc _,_,_,h=>by
  obtain⟨a,C,e,c,r⟩:=h;exact⟨a,C,e,c,kt a _ (.inr ⟨_,rfl⟩) r⟩
 | .dct _,_,e,_=>by simp[im] at e
 | .own _,_,e,_=>by simp[im] at e
theorem repL_imt (kt:∀ b (u:HO),((∃ ys,u=.tup ys)\/∃ φ,u=.ext φ)->Rd H b u->Rd H' b u):∀ (ts:List T) {xs:List V},imL ts=true->RepL K H A ts xs->RepL K H' A' ts xs
 | [],_,_,h=>h
 | t::ts,_,e,h=>by
  obtain⟨x,r,e1,h1,h2⟩:=h;have e':im t=true/\imL ts=true:=by simpa [imL] using e
  exact⟨x,r,e1,aE4 kt t e'.1 h1,repL_imt kt ts e'.2 h2⟩
end
end
section
variable {X:Cx}{B:Hp}{fl:List Nat}{i0 i1 i2 i3 k:Nat}{ps:List Str}{F:List T->Option (List T)}{x y0 y1 y2 y3:Str}{p' q0 q1 q2 q3 pos epos:Pos}
theorem aDf (C:CalC3 X.prog X.w X.K X.mg X.base x k ps [1,2,3] F) (hr:Room k X.A) (hg:Gl X x)
  (hN0:X.N[i0]?=some y0:=by rfl) (hv0:Vis X.env.scope y0:=by first | exact Or.inl rfl | exact Or.inr (Or.inl rfl) | exact Or.inr (Or.inr rfl)) (hd0:(y0 == ("__debug__" : Str))=false:=by decide) (hc0:(y0 == ("__classdict__" : Str))=false:=by decide)
  (hN1:X.N[i1]?=some y1:=by rfl) (hv1:Vis X.env.scope y1:=by first | exact Or.inl rfl | exact Or.inr (Or.inl rfl) | exact Or.inr (Or.inr rfl)) (hd1:(y1 == ("__debug__" : Str))=false:=by decide) (hc1:(y1 == ("__classdict__" : Str))=false:=by decide)
  (hN2:X.N[i2]?=some y2:=by rfl) (hv2:Vis X.env.scope y2:=by first | exact Or.inl rfl | exact Or.inr (Or.inl rfl) | exact Or.inr (Or.inr rfl)) (hd2:(y2 == ("__debug__" : Str))=false:=by decide) (hc2:(y2 == ("__classdict__" : Str))=false:=by decide)
  (hN3:X.N[i3]?=some y3:=by rfl) (hv3:Vis X.env.scope y3:=by first | exact Or.inl rfl | exact Or.inr (Or.inl rfl) | exact Or.inr (Or.inr rfl)) (hd3:(y3 == ("__debug__" : Str))=false:=by decide) (hc3:(y3 == ("__classdict__" : Str))=false:=by decide)
  (hdb:(x == ("__debug__" : Str))=false:=by decide)
  (he:starEach [.Name y0 q0,.Name y1 q1,.Name y2 q2,.Name y3 q3] X.env=(false,eval (.Name y0 q0) X.env)::starEach [.Name y1 q1,.Name y2 q2,.Name y3 q3] X.env:=by rfl)
  (he1:starEach [.Name y1 q1,.Name y2 q2,.Name y3 q3] X.env=(false,eval (.Name y1 q1) X.env)::starEach [.Name y2 q2,.Name y3 q3] X.env:=by rfl)
  (he2:starEach [.Name y2 q2,.Name y3 q3] X.env=(false,eval (.Name y2 q2) X.env)::starEach [.Name y3 q3] X.env:=by rfl)
  (he3:starEach [.Name y3 q3] X.env=(false,eval (.Name y3 q3) X.env)::starEach [] X.env:=by rfl)
  (hpl:(backTo pos (starEach [.Name y1 q1,.Name y2 q2,.Name y3 q3] X.env)).any (·.1)=false:=by rfl)
  (hsw:swapsWith (.Call (.Name x p') [.Name y0 q0,.Name y1 q1,.Name y2 q2,.Name y3 q3] [] pos) none epos.line X.env=pure false:=by rfl):
  PS X (.Expr (.Call (.Name x p') [.Name y0 q0,.Name y1 q1,.Name y2 q2,.Name y3 q3] [] pos) epos) (ND X i0 i1 i2 i3 F):=by
 obtain⟨f,fd,FO,hm,hk,hb⟩:=C.ex;have base:=sI (KW FO hr hg hm hk hb .nil KS (eP (pv (X:=X) i0 hN0 hv0 hd0 hc0) (eP (pv (X:=X) i1 hN1 hv1 hd1 hc1) (eP (pv (X:=X) i2 hN2 hv2 hd2 hc2) (eP (pv (X:=X) i3 hN3 hv3 hd3 hc3) jR he3) he2) he1) he) hdb he hpl) hsw;intro pins s σ H D I h;obtain⟨v0,ut,u0,u1,u2,u3,r1,r2,r3,a0,a1,a2,a3,xs0,xs1,xs2,xs3,e0,e1,e2,e3,⟨d0,f0,l0,p0⟩,⟨d1,f1,l1,p1⟩,⟨d2,f2,l2,p2⟩,⟨d3,f3,l3,p3⟩,b1,b2,b3,hun,hft,hrt,hF,q⟩:=h;have mk:∀ (a:Addr) (us:List T) (xs:List V),Rd H a (.lst xs)->RepL X.K H (fun _=>True) us xs->Rep X.K H (fun _=>True) (.lst us) (.ref a):=fun a us xs d l=>⟨a,xs,rfl,.inl ⟨trivial,d⟩,l⟩;simp only[un4,aJ1,Bool.not_eq_true'] at hun;obtain⟨⟨⟨⟨⟨n01,n02⟩,n03⟩,n12⟩,n13⟩,n23⟩:=hun;have neq:∀ (a b:Addr) (us ws:List T) (xs ys:List V),Rd H a (.lst xs)->RepL X.K H (fun _=>True) us xs->Rd H b (.lst ys)->RepL X.K H (fun _=>True) ws ys->dep (.lst us)<=60->dep (.lst ws)<=60->eqT (.lst us) (.lst ws)=false->a≠b:=fun a b us ws xs ys g1 g2 g3 g4 g5 g6 g7 z=>by
  subst z;have:=zC I (.lst us) (.lst ws) g5 g6 (mk a us xs g1 g2) (mk a ws ys g3 g4);rw[g7] at this;cases this
 have m01:=neq _ _ _ _ _ _ d0 l0 d1 l1 p0 p1 n01;have m02:=neq _ _ _ _ _ _ d0 l0 d2 l2 p0 p2 n02;have m03:=neq _ _ _ _ _ _ d0 l0 d3 l3 p0 p3 n03;have m12:=neq _ _ _ _ _ _ d1 l1 d2 l2 p1 p2 n12;have m13:=neq _ _ _ _ _ _ d1 l1 d3 l3 p1 p3 n13;have m23:=neq _ _ _ _ _ _ d2 l2 d3 l3 p2 p3 n23;obtain⟨H1,I1,t1,o1⟩:=CQ I d1 b1;obtain⟨H2,I2,t2,o2⟩:=CQ I1 (show Rd H1 a2 (.lst xs2) by unfold Rd;rw[o1 a2 m12.symm];exact d2) b2;obtain⟨H3,I3,t3,o3⟩:=CQ I2 (show Rd H2 a3 (.lst xs3) by unfold Rd;rw[o2 a3 m23.symm,o1 a3 m13.symm];exact d3) b3;have oo:∀ b,b≠a1->b≠a2->b≠a3->H3 b=H b:=fun b h1 h2 h3=>by rw[o3 b h3,o2 b h2,o1 b h1]
 have g1:H3 a1=some (.lst xs1):=by rw[o3 a1 m13,o2 a1 m12];exact t1
 have g2:H3 a2=some (.lst xs2):=by rw[o3 a2 m23];exact t2
 have kt:∀ b (u:HO),((∃ ys,u=.tup ys)\/∃ φ,u=.ext φ)->Rd H b u->Rd H3 b u:=fun b u hu h=>by
  have z1:=sK hu d1 h;have z2:=sK hu d2 h;have z3:=sK hu d3 h;unfold Rd at h ⊢;rw[oo b z1 z2 z3];exact h
 have ad:∃ ad:Nat->Addr,ad 1=a1/\ad 2=a2/\ad 3=a3:=⟨fun n=>if n=1 then a1 else if n=2 then a2 else a3,rfl,rfl,rfl⟩;obtain⟨ad,ad1,ad2,ad3⟩:=ad;have eas:[1,2,3].map ad=[a1,a2,a3]:=by simp[ad1,ad2,ad3]
 refine base pins s σ H3 D I3 ?_;refine⟨v0,e0,.ref a1,e1,.ref a2,e2,.ref a3,e3,?_⟩;show AI [1,2,3] X.K F [v0,.ref a1,.ref a2,.ref a3] H3 (fun x H1=>D.nx σ H1) E0;refine⟨[.lst ut,.lst u1,.lst u2,.lst u3],[.lst r1,.lst r2,.lst r3],ad,rfl,?_,?_,?_,hF,?_⟩
 ·intro p hp q hq hne
  simp only[aJ0,List.not_mem_nil,or_false] at hp hq;rcases hp with rfl | rfl | rfl<;>rcases hq with rfl | rfl | rfl<;>first | exact absurd rfl hne | skip
  ·rw[ad1,ad2];exact m12
  ·rw[ad1,ad3];exact m13
  ·rw[ad1,ad2];exact m12.symm
  ·rw[ad2,ad3];exact m23
  ·rw[ad1,ad3];exact m13.symm
  ·rw[ad2,ad3];exact m23.symm
 ·intro p hp
  simp only[aJ0,List.not_mem_nil,or_false] at hp;rcases hp with rfl | rfl | rfl
  ·rw[ad1];exact⟨rfl,u1,xs1,rfl,f1,g1,repL_imt kt _ (nM f1) l1⟩
  ·rw[ad2];exact⟨rfl,u2,xs2,rfl,f2,g2,repL_imt kt _ (nM f2) l2⟩
  ·rw[ad3];exact⟨rfl,u3,xs3,rfl,f3,t3,repL_imt kt _ (nM f3) l3⟩
 ·intro j u v hj eu ev
  have j0:j=0:=by
   have hl:j<4:=by
    have:=(aIt.mp eu).1
    simpa using this
   simp only[aJ0,List.not_mem_nil,or_false] at hj;lia
  subst j0;cases (show some (T.lst ut)=some u from eu);cases (show some v0=some v from ev);rw[eas];obtain⟨b,ys,rfl,hb',rl⟩:=hrt;refine⟨b,ys,rfl,?_,repL_imt kt _ (nM hft) rl⟩;rcases hb' with ⟨z,rd⟩ | kl
  ·refine .inl ⟨by simp;exact⟨z.1,z.2.1,z.2.2⟩,?_⟩
   unfold Rd at rd ⊢;rw[oo b z.1 z.2.1 z.2.2];exact rd
  ·exact .inr kl
 ·intro H' sm hh
  rw[eas] at sm;have w1:=hh 0 1 rfl;have w2:=hh 1 2 rfl;have w3:=hh 2 3 rfl;rw[ad1] at w1;rw[ad2] at w2;rw[ad3] at w3;obtain⟨us1,ys1,w11,w12,w13,w14⟩:=w1;obtain⟨us2,ys2,w21,w22,w23,w24⟩:=w2;obtain⟨us3,ys3,w31,w32,w33,w34⟩:=w3;cases (show some (T.lst r1)=some (T.lst us1) from w11);cases (show some (T.lst r2)=some (T.lst us2) from w21);cases (show some (T.lst r3)=some (T.lst us3) from w31);refine q H' m01 m02 m03 (fun b o z1 z2 z3 e=>sm b o ?_) ⟨ys1,w13,w14⟩ ⟨ys2,w23,w24⟩ ⟨ys3,w33,w34⟩ w12 w22 w32;rw[KB (by simp;exact⟨z1,z2,z3⟩),oo b z1 z2 z3];exact e
end
def okC (u0 u1 u2 u3:List T):Bool:=bF u0&&bF u1&&bF u2&&bF u3&&un4 u0 u1 u2 u3&&decide (dep (.lst u0)<=60)&&decide (dep (.lst u1)<=60)&&decide (dep (.lst u2)<=60)&&decide (dep (.lst u3)<=60)
def jC (ρ:Rho) (j0 j1 j2 j3:Nat) (u0 u1 u2 u3:List T):Rho:=(((ρ.set j0 (some (.lst u0))).set j1 (some (.lst u1))).set j2 (some (.lst u2))).set j3 (some (.lst u3))
def yX (j0 j1 j2 j3 jc i0:Nat) (f:Rho->Option T) (F:List T->Option (List T)):Rho->Option Out:=fun ρ=>(f ρ).bind fun t=>match t with
 | .lst [.lst u0,.lst u1,.lst u2,.lst u3]=>if okC u0 u1 u2 u3=true then (aA jc ρ).bind fun c=>(match c with
  | .bl true=>(aA i0 ρ).bind fun s=>(match s with
   | .lst ut=>if bF ut=true then (F [.lst ut,.lst u1,.lst u2,.lst u3]).bind fun rs=>(match rs with
    | [.lst r1,.lst r2,.lst r3]=>some (.nx (jC ρ j0 j1 j2 j3 u0 r1 r2 r3))
    | _=>none) else none
   | _=>none)
  | .bl false=>some (.nx (jC ρ j0 j1 j2 j3 u0 u1 u2 u3))
  | _=>none) else none
 | _=>none
@[simp] theorem rCase_at (j0 j1 j2 j3 jc i0:Nat) (f:Rho->Option T) (F:List T->Option (List T)) (ρ:Rho):yX j0 j1 j2 j3 jc i0 f F ρ=(f ρ).bind fun t=>match t with
 | .lst [.lst u0,.lst u1,.lst u2,.lst u3]=>if okC u0 u1 u2 u3=true then (aA jc ρ).bind fun c=>(match c with
  | .bl true=>(aA i0 ρ).bind fun s=>(match s with
   | .lst ut=>if bF ut=true then (F [.lst ut,.lst u1,.lst u2,.lst u3]).bind fun rs=>(match rs with
    | [.lst r1,.lst r2,.lst r3]=>some (.nx (jC ρ j0 j1 j2 j3 u0 r1 r2 r3))
    | _=>none) else none
   | _=>none)
  | .bl false=>some (.nx (jC ρ j0 j1 j2 j3 u0 u1 u2 u3))
  | _=>none) else none
 | _=>none:=id rfl
section
variable {X:Cx}{B:Hp}{fl:List Nat}{i0 j0 j1 j2 j3 jc k:Nat}{ps:List Str}{F:List T->Option (List T)}{f:Rho->Option T}{x y0 y1 y2 y3 yt yc:Str}{p' q0 q1 q2 q3 pos epos p2 pc ip apos:Pos}{e:Expr}{elts:List Expr}{kt:Nat}{n n':Bool}{l:Nat}{rest:List Stmt}{rr:Rho->Option Out}
theorem XX (hNo:NoL X.K) (hB0:∀ b,B b=none->X.H₀ b=none) (he:GE X B fl e f n' 3) (hc:X.calm=true) (hg:PGs X elts (gNs [j0,j1,j2,j3]))
  (hch:PS X (.Expr (.Call (.Name x p') [.Name y0 q0,.Name y1 q1,.Name y2 q2,.Name y3 q3] [] pos) epos) (ND X i0 j1 j2 j3 F))
  (ht:GT X B fl (.Name yc pc) (fT (aA jc))) (hrest:GSs X B fl n l rest rr)
  (hfl:(([j0,j1,j2,j3]:List Nat).all fun j=>decide (j<fl.length)&&decide (fl.getD j 1=1)&&decide (j≠jc)&&decide (j≠i0))=true) (hnd:decide ([j0,j1,j2,j3]:List Nat).Nodup=true) (hi0:decide (1<=fl.getD i0 1)=true)
  (hn:(assignEach elts X.env).length=4:=by rfl) (hst:(assignEach elts X.env).findIdx? (·.1)=none:=by rfl)
  (hs:swapsWithSole [.Tuple elts kt p2] e apos.line X.env=pure false:=by rfl) (hw:swappedStores [.Tuple elts kt p2] e X.env=pure none:=by rfl)
  (h1:(assignEach [.Tuple elts kt p2] X.env).map (·.2)=[assign (.Tuple elts kt p2) X.env]:=by rfl):
  GSs X B fl n l (.Assign [.Tuple elts kt p2] e apos :: .If (.Name yc pc) [.Expr (.Call (.Name x p') [.Name y0 q0,.Name y1 q1,.Name y2 q2,.Name y3 q3] [] pos) epos] [] ip::rest) (aH (yX j0 j1 j2 j3 jc i0 f F) rr):=by
 have hfl':∀ j∈([j0,j1,j2,j3]:List Nat),j<fl.length/\fl.getD j 1=1/\j≠jc/\j≠i0:=fun j hj=>by
  have:=aIu.mp hfl j hj;simp only[aJ1,decide_eq_true_eq] at this;exact⟨this.1.1.1,this.1.1.2,this.1.2,this.2⟩
 have hfl2:∀ j∈([j0,j1,j2,j3]:List Nat),j<fl.length/\1<=fl.getD j 1/\min (fl.getD j 1) 2<=2:=fun j hj=>by
  have:=hfl' j hj;exact⟨this.1,by lia,by lia⟩
 have hnd:=of_decide_eq_true hnd;have hi0:=of_decide_eq_true hi0;obtain⟨g0,_,c0,z0⟩:=hfl' j0 (by simp);obtain⟨g1,_,c1,z1⟩:=hfl' j1 (by simp);obtain⟨g2,_,c2,z2⟩:=hfl' j2 (by simp);obtain⟨g3,_,c3,z3⟩:=hfl' j3 (by simp);simp only[aKn,aJ0,List.not_mem_nil,or_false,not_or,not_false_eq_true,List.nodup_nil,and_true] at hnd;obtain⟨⟨n01,n02,n03⟩,⟨n12,n13⟩,n23⟩:=hnd;refine uZ (yW (DI he (aD0 hc hg hn hst) hs hw h1) (yW (DJ ht (LK hch) DL) hrest)) ?_;rintro D σ H ⟨Ex,ρ,M,o,S,hr,q⟩;obtain⟨o1,hr1,hr⟩:=bind_some hr;obtain⟨t,ht,hr1⟩:=bind_some hr1;refine⟨Ex,ρ,M,t,S,ht,fun v H1 s1 rx=>?_⟩
 match t,hr1,rx with
 | .lst [.lst u0,.lst u1,.lst u2,.lst u3],hr1,rx=>
  dsimp only at hr1;split at hr1
  rotate_left
  ·cases hr1
  rename_i hok;obtain⟨c,ec,hr1⟩:=bind_some hr1;obtain⟨a,xs,rfl,hsq,rl⟩:=rx.rep S;have hsq':SqL X.K H1 a xs:=by
   rcases hsq with ⟨_,z⟩ | z
   ·exact .inl z
   ·exact .inr z
  simp only[okC,aJ1,decide_eq_true_eq] at hok;obtain⟨⟨⟨⟨⟨⟨⟨⟨f0,f1⟩,f2⟩,f3⟩,hun⟩,dp0⟩,dp1⟩,dp2⟩,dp3⟩:=hok;have rl':=rl;obtain⟨x0,rx0,rfl,k0,rl⟩:=rl;obtain⟨x1,rx1,rfl,k1,rl⟩:=rl;obtain⟨x2,rx2,rfl,k2,rl⟩:=rl;obtain⟨x3,rx3,rfl,k3,rl⟩:=rl;cases (show rx3=[] from rl);obtain⟨a0,xs0,rfl,w0,l0⟩:=k0;obtain⟨a1,xs1,rfl,w1,l1⟩:=k1;obtain⟨a2,xs2,rfl,w2,l2⟩:=k2;obtain⟨a3,xs3,rfl,w3,l3⟩:=k3;rcases w0 with ⟨A0,w0⟩ | w0
  rotate_left
  ·exact (hNo.kl w0).elim
  rcases w1 with ⟨A1,w1⟩ | w1
  rotate_left
  ·exact (hNo.kl w1).elim
  rcases w2 with ⟨A2,w2⟩ | w2
  rotate_left
  ·exact (hNo.kl w2).elim
  rcases w3 with ⟨A3,w3⟩ | w3
  rotate_left
  ·exact (hNo.kl w3).elim
  refine⟨a,_,rfl,hsq',rfl,rfl,?_⟩;have hset:setL ρ [j0,j1,j2,j3] [.lst u0,.lst u1,.lst u2,.lst u3]=some (jC ρ j0 j1 j2 j3 u0 u1 u2 u3):=rfl;have S1:=(S.grow s1).setL [j0,j1,j2,j3] [.lst u0,.lst u1,.lst u2,.lst u3] [.ref a0,.ref a1,.ref a2,.ref a3] hfl2 (rl'.weak fun b z=>⟨fun k=>z.1 (by lia),fun k=>z.2.1 (by lia),fun k=>by lia⟩) hset;have fc:∀ w0 w1 w2 w3,aA jc (jC ρ j0 j1 j2 j3 w0 w1 w2 w3)=aA jc ρ:=fun w0 w1 w2 w3=>by
   unfold aA jC;rw[aIy c3,aIy c2,aIy c1,aIy c0]
  have sl:σ.length >= fl.length:=S.len;have sg:∀ (s0:St) (w0 w1 w2 w3:V),s0.length=σ.length->(eZ s0 [j0,j1,j2,j3] [w0,w1,w2,w3])[j1]?=some (some w1)/\(eZ s0 [j0,j1,j2,j3] [w0,w1,w2,w3])[j2]?=some (some w2)/\(eZ s0 [j0,j1,j2,j3] [w0,w1,w2,w3])[j3]?=some (some w3)/\(eZ s0 [j0,j1,j2,j3] [w0,w1,w2,w3])[i0]?=s0[i0]?:=fun s0 w0 w1 w2 w3 hl=>by
   show ((((s0.set j0 (some w0)).set j1 (some w1)).set j2 (some w2)).set j3 (some w3))[j1]?=_/\((((s0.set j0 (some w0)).set j1 (some w1)).set j2 (some w2)).set j3 (some w3))[j2]?=_/\((((s0.set j0 (some w0)).set j1 (some w1)).set j2 (some w2)).set j3 (some w3))[j3]?=_/\((((s0.set j0 (some w0)).set j1 (some w1)).set j2 (some w2)).set j3 (some w3))[i0]?=_;refine⟨?_,?_,?_,?_⟩
   ·rw[aIy (Ne.symm n13),aIy (Ne.symm n12),aK0 (by rw[aK9];lia)]
   ·rw[aIy (Ne.symm n23),aK0 (by rw[aK9,aK9];lia)]
   ·rw[aK0 (by rw[aK9,aK9,aK9];lia)]
   ·rw[aIy z3,aIy z2,aIy z1,aIy z0]
  match c,ec,hr1 with
  | .bl false,ec,hr1=>
   cases (aIo hr1);refine⟨Ex,_,M,false,S1,?_,fun H2 s2=>hG ?_⟩
   ·unfold fT
    rw[fc,ec]
    rfl
   ·exact⟨Ex,_,M,o,S1.grow s2,hr,q⟩
  | .bl true,ec,hr1=>
   refine⟨Ex,_,M,true,S1,?_,fun H2 s2=>hU ?_⟩
   ·unfold fT
    rw[fc,ec]
    rfl
   obtain⟨s0,es,hr1⟩:=bind_some hr1
   match s0,es,hr1 with
   | .lst ut,es,hr1=>
    dsimp only at hr1;split at hr1
    rotate_left
    ·cases hr1
    rename_i hft;obtain⟨rs,hF,hr1⟩:=bind_some hr1
    match rs,hF,hr1 with
    | [.lst r1,.lst r2,.lst r3],hF,hr1=>
     cases (aIo hr1);obtain⟨v0,ev0,rv0⟩:=S.slot i0 _ (gC es) (.inl hi0);obtain⟨q1,q2,q3,q4⟩:=sg σ (.ref a0) (.ref a1) (.ref a2) (.ref a3) rfl;have s12:=s1.trans s2;have rdg:∀ {b:Addr} {ys:List V},Rd H1 b (.lst ys)->Rd H2 b (.lst ys):=fun h=>eQ (fun o e=>s2 _ o e) h;have lf:∀ {b:Addr} {us:List T} {ys:List V},Rd H1 b (.lst ys)->bF us=true->RepL X.K H1 (Ad B H M 3) us ys->dep (.lst us)<=60->LF X.K H2 b us ys:=fun h hf hl hd=>⟨rdg h,hf,(hl.grow s2).weak fun _ _=>trivial,hd⟩;refine⟨v0,ut,u0,u1,u2,u3,r1,r2,r3,a0,a1,a2,a3,xs0,xs1,xs2,xs3,q4.trans ev0,q1,q2,q3,lf w0 f0 l0 dp0,lf w1 f1 l1 dp1,lf w2 f2 l2 dp2,lf w3 f3 l3 dp3,hB0 _ (A1.2.1 (by decide)),hB0 _ (A2.2.1 (by decide)),hB0 _ (A3.2.1 (by decide)),hun,hft,?_,hF,fun H' m01 m02 m03 kp y1 y2 y3 fr1 fr2 fr3=>?_⟩
     ·refine Rep.keep (fun b u h=>eQ (fun o e=>s12 _ o e) h) (fun b o _ e=>s12 _ o e) (fun b _ hb=>⟨fun z=>hb (by rw[z];exact A1.2.2 (by decide)),fun z=>hb (by rw[z];exact A2.2.2 (by decide)),fun z=>hb (by rw[z];exact A3.2.2 (by decide))⟩) _ rv0
     ·have sH:aZ H H':=fun b ob e=>kp b ob (fun z=>by rw[z,A1.2.2 (by decide)] at e;cases e) (fun z=>by rw[z,A2.2.2 (by decide)] at e;cases e) (fun z=>by rw[z,A3.2.2 (by decide)] at e;cases e) (s12 _ _ e)
      obtain⟨ys1,h11,h12⟩:=y1;obtain⟨ys2,h21,h22⟩:=y2;obtain⟨ys3,h31,h32⟩:=y3;have d0:Rd H' a0 (.lst xs0):=eQ (fun ob e=>kp a0 ob m01 m02 m03 e) (rdg w0);have adk:∀ {b:Addr},Ad B H M 3 b->Ad B H' M 2 b:=fun z=>⟨fun _=>z.1 (by decide),fun _=>z.2.1 (by decide),fun k=>by lia⟩;have ktt:∀ b (u:HO),((∃ ys,u=.tup ys)\/∃ φ,u=.ext φ)->Rd H2 b u->Rd H' b u:=fun b u hu h=>eQ (fun ob e=>kp b ob (sK hu (rdg w1) h) (sK hu (rdg w2) h) (sK hu (rdg w3) h) e) h;have r0':RepL X.K H' (Ad B H' M 2) u0 xs0:=repL_imt ktt _ (nM f0) (l0.grow s2);have S3:=(S.grow sH).setL [j0,j1,j2,j3] [.lst u0,.lst r1,.lst r2,.lst r3] [.ref a0,.ref a1,.ref a2,.ref a3] hfl2 ⟨_,_,rfl,⟨a0,xs0,rfl,.inl ⟨adk A0,d0⟩,r0'⟩,_,_,rfl,⟨a1,ys1,rfl,.inl ⟨adk A1,.inl h11⟩,jS fr1 h12⟩,_,_,rfl,⟨a2,ys2,rfl,.inl ⟨adk A2,.inl h21⟩,jS fr2 h22⟩,_,_,rfl,⟨a3,ys3,rfl,.inl ⟨adk A3,.inl h31⟩,jS fr3 h32⟩,rfl⟩ (show setL ρ _ _=some (jC ρ j0 j1 j2 j3 u0 r1 r2 r3) from rfl);exact⟨Ex,_,M,o,S3,hr,q⟩
end
end G
namespace My
open PySem PySem.Spec PyProof.Rows L2 G
def top (i:Nat):Stmt:=PySem.Challenge.pw_groupcost_k65_papers_of_the_fairest.main.body.getD i (.Pass ⟨0,0,0,0⟩)
local macro_rules | `(tactic| trivial)=>`(tactic| first | exact Or.inl rfl | exact Or.inr rfl | exact Or.inr (Or.inl rfl) | exact Or.inr (Or.inr rfl))
set_option maxRecDepth 100000
variable {P:Program}{w:World}{K:PySem.W.Frag}{mg:Str->Option Value}{base:Heap}{f:Addr}
abbrev pX:Stmt:=top 30
theorem DZ:FnScope ["script","k","cell"] ["script","k"] (defScope pX):=⟨rfl,rfl,rfl,by decide +kernel,rfl,by decide +kernel,by decide +kernel⟩
def vR:Rho->Option Out:=
 aH (aJ 2 (fC (.int 0)))
  (aH (rIf (fB (f2 (aI (aC (aA 0) aF) bS) (fC (.int 0)) oGt)) (aJ 2 (f2 (f2 (aA 0) (f2 (aA 1) (aI (aC (aA 0) aF) bS) aS) oIx) (fC (.int 2147483647)) aS)) aQ)
  (aV (f2 (f2 (f2 (f2 (aA 2) (f2 (fC (.int 7919)) (aA 1) bD) cA) (fC (.int 1)) cA) (f2 (fC (.int 48271)) (f2 (f2 (fC (.int 2)) (aA 1) bD) (aA 1) bD) cA) bD) (fC (.int 2147483647)) aS)))
def aT:List T->Option T:=Fof 2 1 vR
theorem OG (t0 t1:T):aT [t0,t1]=(vR [some t0,some t1,none]).bind bC:=rfl
theorem UQ (aGo:mg "len" = none) (cdv:Value) (A:Around) (outer:List Env) (s:Shared) (H:Hp) (E:XK)
  (hr:Room 0 (A.deeper (envOfC "_law_mixed" (defScope pX) s.heap.objs.size f cdv))):
  GSs (bA CX0 P w K mg base ["script","k","cell"] "_law_mixed" (defScope pX) f cdv A outer s H E).nox H [1,1,1] false 3 (defBody pX) vR:=by
 have hu:=hr.units;unfold vR;exact @aK _ _ _ _ _ _ _ _ _ (@aR _ _ _ _ _ _ _ _ _ _ _ _ 2 aE DZ.nd (by rfl) (Or.inl (by rfl)) (by rfl) (by rfl) (by trivial)) (@aK _ _ _ _ _ _ _ _ _ (@bV _ _ _ _ _ _ _ _ _ _ _ _ (@rZ _ _ _ _ _ _ _ _ _ _ _ _ (cJ (by rfl) (by rfl) aGo (aD (aB 0) aG)) aE) (@aL _ _ _ _ _ _ _ (@aR _ _ _ _ _ _ _ _ _ _ _ _ 2 (@bO _ _ _ _ _ _ _ _ _ _ _ _ (@aM _ _ _ _ _ _ _ _ _ _ _ _ (aB 0) (@bO _ _ _ _ _ _ _ _ _ _ _ _ (aB 1) (cJ (by rfl) (by rfl) aGo (aD (aB 0) aG))) (by exact fun _ _=>rfl)) aE) DZ.nd (by rfl) (Or.inl (by rfl)) (by rfl) (by rfl) (by trivial))) bW) (@aL _ _ _ _ _ _ _ (@aW _ _ _ _ _ _ _ _ (@bB _ _ _ _ _ _ _ _ _ (@bO _ _ _ _ _ _ _ _ _ _ _ _ (@cD _ _ _ _ _ _ _ _ _ _ _ _ (@cI _ _ _ _ _ _ _ _ _ _ _ _ (@cI _ _ _ _ _ _ _ _ _ _ _ _ (aB 2) (@cD _ _ _ _ _ _ _ _ _ _ _ _ aE (aB 1))) aE) (@cI _ _ _ _ _ _ _ _ _ _ _ _ aE (@cD _ _ _ _ _ _ _ _ _ _ _ _ (@cD _ _ _ _ _ _ _ _ _ _ _ _ aE (aB 1)) (aB 1)))) aE) (by rfl)))))
theorem aB4 {fd:FuncData}(aGo:mg "len" = none) (Fu:Fun K "_law_mixed" "_law_mixed" pX f fd):
  FnOk P w K mg base CX0 1 f fd ["script","k"] (spT K aT false 3):=
 gfn Fu DZ rfl (by decide) (fun ts t h=>bI h) (fun cdv A outer s H E hr=>@UQ _ _ _ _ _ _ aGo cdv A outer s H E hr) (fun ts t h=>bJ h)
abbrev pT:Stmt:=top 31
theorem aEd:FnScope ["script"] ["script"] (defScope pT):=⟨rfl,rfl,rfl,by decide +kernel,rfl,by decide +kernel,by decide +kernel⟩
def vP:Rho->Option Out:=
 aV (f1 (f2 (fC (.lst (tI [1,2,3,4,3,4,5,6]))) (f2 (f2 (aI (aC (aA 0) (aC (fC (.int 0)) aF)) aT) (fC (.int 3)) aY) (fC (.int 8)) aS) oIx) aN)
def jX:List T->Option T:=Fof 1 0 vP
theorem OE (t0:T):jX [t0]=(vP [some t0]).bind bC:=rfl
theorem UM (aGm:Cal P w K mg base "_law_mixed" 1 ["script","k"] aT false 3) (cdv:Value) (A:Around) (outer:List Env) (s:Shared) (H:Hp) (E:XK)
  (hr:Room 1 (A.deeper (envOfC "_law_hands" (defScope pT) s.heap.objs.size f cdv))):
  GSs (bA CX0 P w K mg base ["script"] "_law_hands" (defScope pT) f cdv A outer s H E).nox H [1] false 3 (defBody pT) vP:=by
 have hu:=hr.units;unfold vP;exact @aL _ _ _ _ _ _ _ (@aW _ _ _ _ _ _ _ _ (@bB _ _ _ _ _ _ _ _ _ (@GE.sc _ _ _ _ _ _ _ (@aM _ _ _ _ _ _ _ _ _ _ _ _ (@uB _ _ _ _ _ ([ 1 ,2 ,3 ,4 ,3 ,4 ,5 ,6 ]) (by rfl) (by decide +kernel)) (@bO _ _ _ _ _ _ _ _ _ _ _ _ (@cC _ _ _ _ _ _ _ _ _ _ _ _ (aO aGm (hr.mono (by decide)) (by rfl) (aD (aB 0) (aD aE aG))) aE) aE) (by exact fun _ _=>rfl))) (by rfl)))
theorem aB0 {fd:FuncData}(aGm:Cal P w K mg base "_law_mixed" 1 ["script","k"] aT false 3) (Fu:Fun K "_law_hands" "_law_hands" pT f fd):
  FnOk P w K mg base CX0 2 f fd ["script"] (spT K jX false 3):=
 gfn Fu aEd rfl (by decide) (fun ts t h=>bI h) (fun cdv A outer s H E hr=>@UM _ _ _ _ _ _ aGm cdv A outer s H E hr) (fun ts t h=>bJ h)
abbrev qI:Stmt:=top 45
theorem ML:FnScope ["script","hands","way"] ["script","hands"] (defScope qI):=⟨rfl,rfl,rfl,by decide +kernel,rfl,by decide +kernel,by decide +kernel⟩
def zS:Rho->Option T:=
 f2 (fC (.int 1)) (f2 (f2 (aI (aC (aA 1) (aC (f2 (fC (.int 111)) (aA 0) cA) aF)) aT) (fC (.int 5)) aY) (fC (.int 5)) aS) cA
def zT:Rho->Option T:=
 f2 (fC (.int 1)) (f2 (aI (aC (aA 1) (aC (f2 (fC (.int 111)) (aA 0) cA) aF)) aT) (fC (.int 1000000000)) aS) cA
def wG:Rho->Option Out:=
 aH (aJ 2 (f2 (f2 (aI (aC (aA 0) (aC (fC (.int 110)) aF)) aT) (fC (.int 3)) aY) (fC (.int 3)) aS))
  (aH (rIf (fB (f2 (aA 2) (fC (.int 0)) oEq)) (aV (f2 (fC (.lst (tI [1]))) (aA 1) sG)) aQ)
  (aH (rIf (fB (f2 (aA 2) (fC (.int 1)) oEq)) (aV (cE (cH (aC (aA 1) aF) cK) [none,some 0] bE zS)) aQ)
  (aV (cE (cH (aC (aA 1) aF) cK) [none,some 0] bE zT))))
def kD:List T->Option T:=Fof 2 1 wG
theorem OQ (t0 t1:T):kD [t0,t1]=(wG [some t0,some t1,none]).bind bC:=rfl
theorem VB (aGm:Cal P w K mg base "_law_mixed" 1 ["script","k"] aT false 3) (aGn:mg "range" = none) (cdv:Value) (A:Around) (outer:List Env) (s:Shared) (H:Hp) (E:XK)
  (hr:Room 1 (A.deeper (envOfC "_law_weights" (defScope qI) s.heap.objs.size f cdv))):
  GSs (bA CX0 P w K mg base ["script","hands","way"] "_law_weights" (defScope qI) f cdv A outer s H E).nox H [1,1,1] true 3 (defBody qI) wG:=by
 have hu:=hr.units;unfold wG zT zS;exact @aK _ _ _ _ _ _ _ _ _ (@aR _ _ _ _ _ _ _ _ _ _ _ _ 2 (@bO _ _ _ _ _ _ _ _ _ _ _ _ (@cC _ _ _ _ _ _ _ _ _ _ _ _ (aO aGm (hr.mono (by decide)) (by rfl) (aD (aB 0) (aD aE aG))) aE) aE) ML.nd (by rfl) (Or.inl (by rfl)) (by rfl) (by rfl) (by trivial)) (@aK _ _ _ _ _ _ _ _ _ (@bV _ _ _ _ _ _ _ _ _ _ _ _ (@bX _ _ _ _ _ _ _ _ _ _ _ _ hu (aB 2) aE) (@aL _ _ _ _ _ _ _ (@aW _ _ _ _ _ _ _ _ (@bB _ _ _ _ _ _ _ _ _ (@IP _ _ _ _ _ _ _ _ _ _ _ (@uB _ _ _ _ _ ([ 1 ]) (by rfl) (by decide +kernel)) (aB 1)) (by rfl)))) bW) (@aK _ _ _ _ _ _ _ _ _ (@bV _ _ _ _ _ _ _ _ _ _ _ _ (@bX _ _ _ _ _ _ _ _ _ _ _ _ hu (aB 2) aE) (@aL _ _ _ _ _ _ _ (@aW _ _ _ _ _ _ _ _ (@bB _ _ _ _ _ _ _ _ _ (@fJ _ _ _ _ _ _ _ _ _ _ _ _ _ _ _ _ _ _ _ _ (cV (by kernel_rfl) (N':=[ "hand" ,"script" ]) (src:=[ none ,some 0 ])) (eA (by kernel_rfl) (fl':=[ 2 ,1 ])) (by decide) (by rfl) (dI (by rfl) (by rfl) aGn (aD (aB 1) aG)) (by rfl) (by rfl) (fun cl C s H ex=>⟨dY,@cI _ _ _ _ _ _ _ _ _ _ _ _ aE (@bO _ _ _ _ _ _ _ _ _ _ _ _ (@cC _ _ _ _ _ _ _ _ _ _ _ _ (aO aGm (hr.mono (by decide)) (by rfl) (aD (aB 1) (aD (@cI _ _ _ _ _ _ _ _ _ _ _ _ aE (aB 0)) aG))) aE) aE)⟩) (by intro _;rfl)) (by rfl)))) bW) (@aL _ _ _ _ _ _ _ (@aW _ _ _ _ _ _ _ _ (@bB _ _ _ _ _ _ _ _ _ (@fJ _ _ _ _ _ _ _ _ _ _ _ _ _ _ _ _ _ _ _ _ (cV (by kernel_rfl) (N':=[ "hand" ,"script" ]) (src:=[ none ,some 0 ])) (eA (by kernel_rfl) (fl':=[ 2 ,1 ])) (by decide) (by rfl) (dI (by rfl) (by rfl) aGn (aD (aB 1) aG)) (by rfl) (by rfl) (fun cl C s H ex=>⟨dY,@cI _ _ _ _ _ _ _ _ _ _ _ _ aE (@bO _ _ _ _ _ _ _ _ _ _ _ _ (aO aGm (hr.mono (by decide)) (by rfl) (aD (aB 1) (aD (@cI _ _ _ _ _ _ _ _ _ _ _ _ aE (aB 0)) aG))) aE)⟩) (by intro _;rfl)) (by rfl))))))
theorem aBf {fd:FuncData}(aGm:Cal P w K mg base "_law_mixed" 1 ["script","k"] aT false 3) (aGn:mg "range" = none) (Fu:Fun K "_law_weights" "_law_weights" qI f fd):
  FnOk P w K mg base CX0 2 f fd ["script","hands"] (spT K kD true 3):=
 gfn Fu ML rfl (by decide) (fun ts t h=>bI h) (fun cdv A outer s H E hr=>@VB _ _ _ _ _ _ aGm aGn cdv A outer s H E hr) (fun ts t h=>bJ h)
abbrev pO:Stmt:=top 32
theorem AD:FnScope ["script","many","far","parts","k","at"] ["script","many","far"] (defScope pO):=⟨rfl,rfl,rfl,by decide +kernel,rfl,by decide +kernel,by decide +kernel⟩
def DS:Rho->Option T:=
 fC (.int 0)
def zH:Rho->Option Out:=
 aH (aJ 5 (f2 (aA 4) (aA 1) aS))
  (cY 3 (aA 5) (f2 (f2 (f2 (f2 (aA 3) (aA 5) oIx) (fC (.int 1009)) bD) (f2 (aA 0) (aA 4) oIx) cA) (aA 2) aS))
def vK:Rho->Option Out:=
 aH (fP 3 (cE (cH (aC (aA 1) aF) cK) [none] bE DS))
  (aH (dL 4 (cH (aC (aI (aC (aA 0) aF) bS) aF) cK)
  zH)
  (aV (gB 3)))
def eS:List T->Option T:=Fof 3 3 vK
theorem OA (t0 t1 t2:T):eS [t0,t1,t2]=(vK [some t0,some t1,some t2,none,none,none]).bind bC:=rfl
theorem UH (aGn:mg "range" = none) (aGo:mg "len" = none) (cdv:Value) (A:Around) (outer:List Env) (s:Shared) (H:Hp) (E:XK)
  (hr:Room 0 (A.deeper (envOfC "_law_folded" (defScope pO) s.heap.objs.size f cdv))):
  GSs (bA CX0 P w K mg base ["script","many","far","parts","k","at"] "_law_folded" (defScope pO) f cdv A outer s H E).nox H [1,1,1,0,1,1] true 3 (defBody pO) vK:=by
 have hu:=hr.units;unfold vK zH DS;exact @aK _ _ _ _ _ _ _ _ _ (@CJ _ _ _ _ _ _ _ _ _ _ _ _ _ _ _ _ _ _ _ _ _ _ _ _ _ 3 (cV (by kernel_rfl) (N':=[ "k" ]) (src:=[ none ])) (eA (by kernel_rfl) (fl':=[ 2 ])) (by rfl) (dI (by rfl) (by rfl) aGn (aD (aB 1) aG)) (by rfl) (by rfl) (fun cl C s H ex=>⟨dY,@aE _ _ _ _ _ _⟩) AD.nd (by rfl) (Or.inl (by rfl)) (by rfl) (by rfl) (by intro _;rfl) (by trivial)) (@aK _ _ _ _ _ _ _ _ _ (@dZ _ _ _ _ _ _ _ _ _ 4 _ _ _ _ _ PassesOwn.never (by rfl) (dI (by rfl) (by rfl) aGn (aD (cJ (by rfl) (by rfl) aGo (aD (aB 0) aG)) aG)) AD.nd (by rfl) (Or.inl (by rfl)) (@aK _ _ _ _ _ _ _ _ _ (@aR _ _ _ _ _ _ _ _ _ _ _ _ 5 (@bO _ _ _ _ _ _ _ _ _ _ _ _ (aB 4) (aB 1)) AD.nd (by rfl) (Or.inl (by rfl)) (by rfl) (by rfl) (by trivial)) (@aL _ _ _ _ _ _ _ (@rW _ _ _ _ _ _ _ _ _ _ _ 3 _ _ _ _ _ _ (@bO _ _ _ _ _ _ _ _ _ _ _ _ (@cI _ _ _ _ _ _ _ _ _ _ _ _ (@cD _ _ _ _ _ _ _ _ _ _ _ _ (@aM _ _ _ _ _ _ _ _ _ _ _ _ (aB 3) (aB 5) (by exact fun _ _=>rfl)) aE) (@aM _ _ _ _ _ _ _ _ _ _ _ _ (aB 0) (aB 4) (by exact fun _ _=>rfl))) (aB 2)) (aB 5) (by rfl) (by rfl) (by trivial) (by decide) (by decide) (by intro _;rfl) (by rfl) (by rfl) (by rfl)))) (by rfl) (by intro _;rfl) (by trivial)) (@aL _ _ _ _ _ _ _ (@aW _ _ _ _ _ _ _ _ (@jM _ _ _ _ _ _ _ 3 (by rfl) (by trivial) (by rfl) (by decide) (by decide)))))
theorem aAv {fd:FuncData}(aGn:mg "range" = none) (aGo:mg "len" = none) (Fu:Fun K "_law_folded" "_law_folded" pO f fd):
  FnOk P w K mg base CX0 1 f fd ["script","many","far"] (spT K eS true 3):=
 gfn Fu AD rfl (by decide) (fun ts t h=>bI h) (fun cdv A outer s H E hr=>@UH _ _ _ _ _ _ aGn aGo cdv A outer s H E hr) (fun ts t h=>bJ h)
abbrev pW:Stmt:=top 33
theorem AG:FnScope ["group","many"] ["group"] (defScope pW):=⟨rfl,rfl,rfl,by decide +kernel,rfl,by decide +kernel,by decide +kernel⟩
def MC:Rho->Option Out:=
 aH (aJ 1 (f2 (aA 1) (f2 (aA 0) (fC (.int 2)) aS) cA))
  (aJ 0 (f2 (aA 0) (fC (.int 2)) aY))
def MD:Rho->Option Bool:=
 fB (f2 (aA 0) (fC (.int 0)) oGt)
def DT:Rho->Option Out:=
 aH (aJ 1 (fC (.int 0)))
  (aH (gI MD MC)
  (aV (f1 (aA 1) aN)))
def gK:List T->Option T:=Fof 1 1 DT
theorem UP (cdv:Value) (A:Around) (outer:List Env) (s:Shared) (H:Hp) (E:XK)
  (hr:Room 0 (A.deeper (envOfC "_law_many" (defScope pW) s.heap.objs.size f cdv))):
  GSs (bA CX0 P w K mg base ["group","many"] "_law_many" (defScope pW) f cdv A outer s H E).nox H [1,1] false 3 (defBody pW) DT:=by
 have hu:=hr.units;unfold DT MD MC;exact @aK _ _ _ _ _ _ _ _ _ (@aR _ _ _ _ _ _ _ _ _ _ _ _ 1 aE AG.nd (by rfl) (Or.inl (by rfl)) (by rfl) (by rfl) (by trivial)) (@aK _ _ _ _ _ _ _ _ _ (@uF _ _ _ _ _ _ _ _ _ _ PassesOwn.never (@rZ _ _ _ _ _ _ _ _ _ _ _ _ (aB 0) aE) (@aK _ _ _ _ _ _ _ _ _ (@aR _ _ _ _ _ _ _ _ _ _ _ _ 1 (@cI _ _ _ _ _ _ _ _ _ _ _ _ (aB 1) (@bO _ _ _ _ _ _ _ _ _ _ _ _ (aB 0) aE)) AG.nd (by rfl) (Or.inl (by rfl)) (by rfl) (by rfl) (by trivial)) (@aL _ _ _ _ _ _ _ (@aR _ _ _ _ _ _ _ _ _ _ _ _ 0 (@cC _ _ _ _ _ _ _ _ _ _ _ _ (aB 0) aE) AG.nd (by rfl) (Or.inl (by rfl)) (by rfl) (by rfl) (by trivial))))) (@aL _ _ _ _ _ _ _ (@aW _ _ _ _ _ _ _ _ (@bB _ _ _ _ _ _ _ _ _ (@GE.sc _ _ _ _ _ _ _ (aB 1)) (by rfl)))))
theorem aB3 {fd:FuncData}(Fu:Fun K "_law_many" "_law_many" pW f fd):
  FnOk P w K mg base CX0 1 f fd ["group"] (spT K gK false 3):=
 gfn Fu AG rfl (by decide) (fun ts t h=>bI h) (fun cdv A outer s H E hr=>@UP _ _ _ _ _ _  cdv A outer s H E hr) (fun ts t h=>bJ h)
abbrev pY:Stmt:=top 34
theorem tE:FnScope ["script","hands","far","noise","table","group","count"] ["script","hands"] (defScope pY):=⟨rfl,rfl,rfl,by decide +kernel,rfl,by decide +kernel,by decide +kernel⟩
def zK:Rho->Option Out:=
 aH (aJ 6 (f1 (aI (aC (aA 5) aF) gK) aN))
  (sJ 4 (f2 (f2 (aA 3) (aA 5) oIx) (f2 (f2 (aA 2) (aA 6) bD) (aA 6) bD) cQ))
def vS:Rho->Option Out:=
 aH (aJ 2 (f1 (f2 (cO (aC (fC (.int 8)) (aC (fC (.int 1000)) (aC (f2 (fC (.int 10)) (fC (.int 59)) eF) aF)))) (f2 (f2 (aI (aC (aA 0) (aC (fC (.int 1)) aF)) aT) (fC (.int 5)) aY) (fC (.int 3)) aS) oIx) aN))
  (aH (aJ 3 (f2 (fC (.lst (tI [0]))) (aI (aC (aA 0) (aC (f2 (f2 (fC (.int 1)) (aA 1) cX) (fC (.int 1)) cQ) (aC (aA 2) aF))) eS) gF))
  (aH (fP 4 (cO aF))
  (aH (dL 5 (cH (aC (f2 (fC (.int 1)) (aA 1) cX) aF) cK)
  zK)
  (aV (gB 4)))))
def mR:List T->Option T:=Fof 2 5 vS
theorem OH (t0 t1:T):mR [t0,t1]=(vS [some t0,some t1,none,none,none,none,none]).bind bC:=rfl
theorem UR (aGm:Cal P w K mg base "_law_mixed" 1 ["script","k"] aT false 3) (aGs:Cal P w K mg base "_law_folded" 1 ["script","many","far"] eS true 3) (aH0:Cal P w K mg base "_law_many" 1 ["group"] gK false 3) (aGn:mg "range" = none) (cdv:Value) (A:Around) (outer:List Env) (s:Shared) (H:Hp) (E:XK)
  (hr:Room 1 (A.deeper (envOfC "_law_noise_table" (defScope pY) s.heap.objs.size f cdv))):
  GSs (bA CX0 P w K mg base ["script","hands","far","noise","table","group","count"] "_law_noise_table" (defScope pY) f cdv A outer s H E).nox H [1,1,1,1,0,1,1] true 3 (defBody pY) vS:=by
 have hu:=hr.units;unfold vS zK;exact @aK _ _ _ _ _ _ _ _ _ (@aR _ _ _ _ _ _ _ _ _ _ _ _ 2 (@GE.sc _ _ _ _ _ _ _ (@aM _ _ _ _ _ _ _ _ _ _ _ _ (@eB _ _ _ _ _ _ _ (aD aE (aD aE (aD (@nQ _ _ _ _ _ _ _ _ _ _ _ _ aE aE) aG)))) (@bO _ _ _ _ _ _ _ _ _ _ _ _ (@cC _ _ _ _ _ _ _ _ _ _ _ _ (aO aGm (hr.mono (by decide)) (by rfl) (aD (aB 0) (aD aE aG))) aE) aE) (by exact fun _ _=>rfl))) tE.nd (by rfl) (Or.inl (by rfl)) (by rfl) (by rfl) (by trivial)) (@aK _ _ _ _ _ _ _ _ _ (@aR _ _ _ _ _ _ _ _ _ _ _ _ 3 (@CD _ _ _ _ _ _ _ _ _ _ _ _ (@uB _ _ _ _ _ ([ 0 ]) (by rfl) (by decide +kernel)) (aO aGs (hr.mono (by decide)) (by rfl) (aD (aB 0) (aD (@dH _ _ _ _ _ _ _ _ _ _ _ _ (@eM _ _ _ _ _ _ _ _ _ _ _ _ aE (aB 1)) aE) (aD (aB 2) aG))))) tE.nd (by rfl) (Or.inl (by rfl)) (by rfl) (by rfl) (by trivial)) (@aK _ _ _ _ _ _ _ _ _ (@rX _ _ _ _ _ _ _ _ _ _ _ 4 (@eB _ _ _ _ _ _ _ aG) tE.nd (by rfl) (Or.inl (by rfl)) (by rfl) (by rfl) (by trivial)) (@aK _ _ _ _ _ _ _ _ _ (@dZ _ _ _ _ _ _ _ _ _ 5 _ _ _ _ _ PassesOwn.never (by rfl) (dI (by rfl) (by rfl) aGn (aD (@eM _ _ _ _ _ _ _ _ _ _ _ _ aE (aB 1)) aG)) tE.nd (by rfl) (Or.inl (by rfl)) (@aK _ _ _ _ _ _ _ _ _ (@aR _ _ _ _ _ _ _ _ _ _ _ _ 6 (@GE.sc _ _ _ _ _ _ _ (aO aH0 (hr.mono (by decide)) (by rfl) (aD (aB 5) aG))) tE.nd (by rfl) (Or.inl (by rfl)) (by rfl) (by rfl) (by trivial)) (@aL _ _ _ _ _ _ _ (@yD _ _ _ _ _ _ _ _ _ _ _ _ 4 _ _ (@dH _ _ _ _ _ _ _ _ _ _ _ _ (@aM _ _ _ _ _ _ _ _ _ _ _ _ (aB 3) (aB 5) (by exact fun _ _=>rfl)) (@cD _ _ _ _ _ _ _ _ _ _ _ _ (@cD _ _ _ _ _ _ _ _ _ _ _ _ (aB 2) (aB 6)) (aB 6))) (by rfl) (by rfl) (by trivial) (by decide) (by decide) (by rfl) (by rfl) (by rfl) (by rfl) (by rfl)))) (by rfl) (by intro _;rfl) (by trivial)) (@aL _ _ _ _ _ _ _ (@aW _ _ _ _ _ _ _ _ (@jM _ _ _ _ _ _ _ 4 (by rfl) (by trivial) (by rfl) (by decide) (by decide)))))))
theorem aB5 {fd:FuncData}(aGm:Cal P w K mg base "_law_mixed" 1 ["script","k"] aT false 3) (aGs:Cal P w K mg base "_law_folded" 1 ["script","many","far"] eS true 3) (aH0:Cal P w K mg base "_law_many" 1 ["group"] gK false 3) (aGn:mg "range" = none) (Fu:Fun K "_law_noise_table" "_law_noise_table" pY f fd):
  FnOk P w K mg base CX0 2 f fd ["script","hands"] (spT K mR true 3):=
 gfn Fu tE rfl (by decide) (fun ts t h=>bI h) (fun cdv A outer s H E hr=>@UR _ _ _ _ _ _ aGm aGs aH0 aGn cdv A outer s H E hr) (fun ts t h=>bJ h)
abbrev qH:Stmt:=top 35
theorem fF:FnScope ["script","hands","terms","table","term","some","most","weight","group","more","hand","own"] ["script","hands"] (defScope qH):=⟨rfl,rfl,rfl,by decide +kernel,rfl,by decide +kernel,by decide +kernel⟩
def DV:Rho->Option T:=
 fC (.int 0)
def zQ:Rho->Option Out:=
 aH (aJ 9 (f2 (aA 7) (aI (aC (aI (aC (f2 (aA 8) (aA 5) fN) aF) gK) (aC (aA 6) aF)) DB) bD))
  (cY 3 (aA 8) (f2 (f2 (aA 3) (aA 8) oIx) (aA 9) cA))
def zR:Rho->Option Out:=
 aH (aJ 5 (f2 (aA 4) (f2 (fC (.int 1)) (aA 1) cX) aS))
  (aH (aJ 6 (f2 (fC (.int 1)) (f2 (f2 (aA 4) (fC (.int 64)) aY) (fC (.int 6)) aS) cA))
  (aH (aJ 7 (f1 (f2 (cO (aC (f2 (f2 (aA 4) (fC (.int 512)) aY) (fC (.int 4)) aS) (aC (f2 (f2 (aA 4) (fC (.int 4096)) aY) (f2 (fC (.int 10)) (fC (.int 40)) eF) aS) aF))) (f2 (f2 (aA 4) (fC (.int 2048)) aY) (fC (.int 2)) aS) oIx) aN))
  (dL 8 (cH (aC (f2 (fC (.int 1)) (aA 1) cX) aF) cK)
  zQ)))
def wE:Rho->Option Out:=
 cY 3 (aA 8) (f2 (f2 (aA 3) (aA 8) oIx) (f2 (aA 11) (f2 (f2 (aA 8) (aA 10) jQ) (fC (.int 1)) fN) bD) cA)
def wF:Rho->Option Out:=
 aH (aJ 11 (f2 (f2 (f2 (aI (aC (aA 0) (aC (f2 (fC (.int 30)) (aA 10) cA) aF)) aT) (fC (.int 3)) aY) (fC (.int 13)) aS) (fC (.int 6)) cQ))
  (aH (rIf (fB (f2 (f2 (f2 (aI (aC (aA 0) (aC (fC (.int 36)) aF)) aT) (fC (.int 7)) aY) (fC (.int 3)) aS) (fC (.int 1)) oEq)) (aJ 11 (f2 (f2 (f2 (aA 2) (aA 10) oIx) (f2 (f2 (fC (.int 2)) (f2 (fC (.int 10)) (fC (.int 40)) eF) bD) (fC (.int 1)) cA) aS) (f2 (fC (.int 10)) (fC (.int 40)) eF) cQ)) aQ)
  (dL 8 (cH (aC (f2 (fC (.int 1)) (aA 1) cX) aF) cK)
  wE))
def wD:Rho->Option Out:=
 aH (aJ 2 (aI (aC (aA 0) (aC (fC (.int 12)) (aC (f2 (fC (.int 10)) (fC (.int 60)) eF) aF))) eS))
  (aH (fP 3 (cE (cH (aC (f2 (fC (.int 1)) (aA 1) cX) aF) cK) [none] bE DV))
  (aH (dL 4 (fFL (aA 2))
  zR)
  (aH (dL 10 (cH (aC (aA 1) aF) cK)
  wF)
  (aV (gB 3)))))
def mV:List T->Option T:=Fof 2 10 wD
theorem OP (t0 t1:T):mV [t0,t1]=(wD [some t0,some t1,none,none,none,none,none,none,none,none,none,none]).bind bC:=rfl
theorem VA (aGs:Cal P w K mg base "_law_folded" 1 ["script","many","far"] eS true 3) (aH0:Cal P w K mg base "_law_many" 1 ["group"] gK false 3) (aGm:Cal P w K mg base "_law_mixed" 1 ["script","k"] aT false 3) (aGn:mg "range" = none) (aI4:mg "min" = none) (cdv:Value) (A:Around) (outer:List Env) (s:Shared) (H:Hp) (E:XK)
  (hr:Room 1 (A.deeper (envOfC "_law_ties_table" (defScope qH) s.heap.objs.size f cdv))):
  GSs (bA CX0 P w K mg base ["script","hands","terms","table","term","some","most","weight","group","more","hand","own"] "_law_ties_table" (defScope qH) f cdv A outer s H E).nox H [1,1,1,0,1,1,1,1,1,1,1,1] true 3 (defBody qH) wD:=by
 have hu:=hr.units;unfold wD wF wE zR zQ DV;exact @aK _ _ _ _ _ _ _ _ _ (@aR _ _ _ _ _ _ _ _ _ _ _ _ 2 (aO aGs (hr.mono (by decide)) (by rfl) (aD (aB 0) (aD aE (aD (@nQ _ _ _ _ _ _ _ _ _ _ _ _ aE aE) aG)))) fF.nd (by rfl) (Or.inl (by rfl)) (by rfl) (by rfl) (by trivial)) (@aK _ _ _ _ _ _ _ _ _ (@CJ _ _ _ _ _ _ _ _ _ _ _ _ _ _ _ _ _ _ _ _ _ _ _ _ _ 3 (cV (by kernel_rfl) (N':=[ "group" ]) (src:=[ none ])) (eA (by kernel_rfl) (fl':=[ 2 ])) (by rfl) (dI (by rfl) (by rfl) aGn (aD (@eM _ _ _ _ _ _ _ _ _ _ _ _ aE (aB 1)) aG)) (by rfl) (by rfl) (fun cl C s H ex=>⟨dY,@aE _ _ _ _ _ _⟩) fF.nd (by rfl) (Or.inl (by rfl)) (by rfl) (by rfl) (by intro _;rfl) (by trivial)) (@aK _ _ _ _ _ _ _ _ _ (@dZ _ _ _ _ _ _ _ _ _ 4 _ _ _ _ _ PassesOwn.never (by rfl) (eC (aB 2)) fF.nd (by rfl) (Or.inl (by rfl)) (@aK _ _ _ _ _ _ _ _ _ (@aR _ _ _ _ _ _ _ _ _ _ _ _ 5 (@bO _ _ _ _ _ _ _ _ _ _ _ _ (aB 4) (@eM _ _ _ _ _ _ _ _ _ _ _ _ aE (aB 1))) fF.nd (by rfl) (Or.inl (by rfl)) (by rfl) (by rfl) (by trivial)) (@aK _ _ _ _ _ _ _ _ _ (@aR _ _ _ _ _ _ _ _ _ _ _ _ 6 (@cI _ _ _ _ _ _ _ _ _ _ _ _ aE (@bO _ _ _ _ _ _ _ _ _ _ _ _ (@cC _ _ _ _ _ _ _ _ _ _ _ _ (aB 4) aE) aE)) fF.nd (by rfl) (Or.inl (by rfl)) (by rfl) (by rfl) (by trivial)) (@aK _ _ _ _ _ _ _ _ _ (@aR _ _ _ _ _ _ _ _ _ _ _ _ 7 (@GE.sc _ _ _ _ _ _ _ (@aM _ _ _ _ _ _ _ _ _ _ _ _ (@eB _ _ _ _ _ _ _ (aD (@bO _ _ _ _ _ _ _ _ _ _ _ _ (@cC _ _ _ _ _ _ _ _ _ _ _ _ (aB 4) aE) aE) (aD (@bO _ _ _ _ _ _ _ _ _ _ _ _ (@cC _ _ _ _ _ _ _ _ _ _ _ _ (aB 4) aE) (@nQ _ _ _ _ _ _ _ _ _ _ _ _ aE aE)) aG))) (@bO _ _ _ _ _ _ _ _ _ _ _ _ (@cC _ _ _ _ _ _ _ _ _ _ _ _ (aB 4) aE) aE) (by exact fun _ _=>rfl))) fF.nd (by rfl) (Or.inl (by rfl)) (by rfl) (by rfl) (by trivial)) (@aL _ _ _ _ _ _ _ (@dZ _ _ _ _ _ _ _ _ _ 8 _ _ _ _ _ PassesOwn.never (by rfl) (dI (by rfl) (by rfl) aGn (aD (@eM _ _ _ _ _ _ _ _ _ _ _ _ aE (aB 1)) aG)) fF.nd (by rfl) (Or.inl (by rfl)) (@aK _ _ _ _ _ _ _ _ _ (@aR _ _ _ _ _ _ _ _ _ _ _ _ 9 (@cD _ _ _ _ _ _ _ _ _ _ _ _ (aB 7) (XC (by rfl) (by rfl) (by rfl) aI4 (aD (aO aH0 (hr.mono (by decide)) (by rfl) (aD (@jK _ _ _ _ _ _ _ _ _ _ _ _ (aB 8) (aB 5)) aG)) (aD (aB 6) aG)))) fF.nd (by rfl) (Or.inl (by rfl)) (by rfl) (by rfl) (by trivial)) (@aL _ _ _ _ _ _ _ (@rW _ _ _ _ _ _ _ _ _ _ _ 3 _ _ _ _ _ _ (@cI _ _ _ _ _ _ _ _ _ _ _ _ (@aM _ _ _ _ _ _ _ _ _ _ _ _ (aB 3) (aB 8) (by exact fun _ _=>rfl)) (aB 9)) (aB 8) (by rfl) (by rfl) (by trivial) (by decide) (by decide) (by intro _;rfl) (by rfl) (by rfl) (by rfl)))) (by rfl) (by intro _;rfl) (by trivial)))))) (by rfl) (by intro _;rfl) (by trivial)) (@aK _ _ _ _ _ _ _ _ _ (@dZ _ _ _ _ _ _ _ _ _ 10 _ _ _ _ _ PassesOwn.never (by rfl) (dI (by rfl) (by rfl) aGn (aD (aB 1) aG)) fF.nd (by rfl) (Or.inl (by rfl)) (@aK _ _ _ _ _ _ _ _ _ (@aR _ _ _ _ _ _ _ _ _ _ _ _ 11 (@dH _ _ _ _ _ _ _ _ _ _ _ _ (@bO _ _ _ _ _ _ _ _ _ _ _ _ (@cC _ _ _ _ _ _ _ _ _ _ _ _ (aO aGm (hr.mono (by decide)) (by rfl) (aD (aB 0) (aD (@cI _ _ _ _ _ _ _ _ _ _ _ _ aE (aB 10)) aG))) aE) aE) aE) fF.nd (by rfl) (Or.inl (by rfl)) (by rfl) (by rfl) (by trivial)) (@aK _ _ _ _ _ _ _ _ _ (@bV _ _ _ _ _ _ _ _ _ _ _ _ (@bX _ _ _ _ _ _ _ _ _ _ _ _ hu (@bO _ _ _ _ _ _ _ _ _ _ _ _ (@cC _ _ _ _ _ _ _ _ _ _ _ _ (aO aGm (hr.mono (by decide)) (by rfl) (aD (aB 0) (aD aE aG))) aE) aE) aE) (@aL _ _ _ _ _ _ _ (@aR _ _ _ _ _ _ _ _ _ _ _ _ 11 (@dH _ _ _ _ _ _ _ _ _ _ _ _ (@bO _ _ _ _ _ _ _ _ _ _ _ _ (@aM _ _ _ _ _ _ _ _ _ _ _ _ (aB 2) (aB 10) (by exact fun _ _=>rfl)) (@cI _ _ _ _ _ _ _ _ _ _ _ _ (@cD _ _ _ _ _ _ _ _ _ _ _ _ aE (@nQ _ _ _ _ _ _ _ _ _ _ _ _ aE aE)) aE)) (@nQ _ _ _ _ _ _ _ _ _ _ _ _ aE aE)) fF.nd (by rfl) (Or.inl (by rfl)) (by rfl) (by rfl) (by trivial))) bW) (@aL _ _ _ _ _ _ _ (@dZ _ _ _ _ _ _ _ _ _ 8 _ _ _ _ _ PassesOwn.never (by rfl) (dI (by rfl) (by rfl) aGn (aD (@eM _ _ _ _ _ _ _ _ _ _ _ _ aE (aB 1)) aG)) fF.nd (by rfl) (Or.inl (by rfl)) (@aL _ _ _ _ _ _ _ (@rW _ _ _ _ _ _ _ _ _ _ _ 3 _ _ _ _ _ _ (@cI _ _ _ _ _ _ _ _ _ _ _ _ (@aM _ _ _ _ _ _ _ _ _ _ _ _ (aB 3) (aB 8) (by exact fun _ _=>rfl)) (@cD _ _ _ _ _ _ _ _ _ _ _ _ (aB 11) (@jK _ _ _ _ _ _ _ _ _ _ _ _ (@uD _ _ _ _ _ _ _ _ _ _ _ _ (aB 8) (aB 10)) aE))) (aB 8) (by rfl) (by rfl) (by trivial) (by decide) (by decide) (by intro _;rfl) (by rfl) (by rfl) (by rfl))) (by rfl) (by intro _;rfl) (by trivial))))) (by rfl) (by intro _;rfl) (by trivial)) (@aL _ _ _ _ _ _ _ (@aW _ _ _ _ _ _ _ _ (@jM _ _ _ _ _ _ _ 3 (by rfl) (by trivial) (by rfl) (by decide) (by decide)))))))
theorem aBe {fd:FuncData}(aGs:Cal P w K mg base "_law_folded" 1 ["script","many","far"] eS true 3) (aH0:Cal P w K mg base "_law_many" 1 ["group"] gK false 3) (aGm:Cal P w K mg base "_law_mixed" 1 ["script","k"] aT false 3) (aGn:mg "range" = none) (aI4:mg "min" = none) (Fu:Fun K "_law_ties_table" "_law_ties_table" qH f fd):
  FnOk P w K mg base CX0 2 f fd ["script","hands"] (spT K mV true 3):=
 gfn Fu fF rfl (by decide) (fun ts t h=>bI h) (fun cdv A outer s H E hr=>@VA _ _ _ _ _ _ aGs aH0 aGm aGn aI4 cdv A outer s H E hr) (fun ts t h=>bJ h)
abbrev pM:Stmt:=top 36
theorem aEa:FnScope ["script","hands"] ["script","hands"] (defScope pM):=⟨rfl,rfl,rfl,by decide +kernel,rfl,by decide +kernel,by decide +kernel⟩
def sR:Rho->Option Out:=
 aH (rIf (fB (f2 (f2 (f2 (aI (aC (aA 0) (aC (fC (.int 2)) aF)) aT) (fC (.int 7)) aY) (fC (.int 2)) aS) (fC (.int 0)) oEq)) (aV (aI (aC (aA 0) (aC (aA 1) aF)) mR)) aQ)
  (aV (aI (aC (aA 0) (aC (aA 1) aF)) mV))
def fV:List T->Option T:=Fof 2 0 sR
theorem ET (t0 t1:T):fV [t0,t1]=(sR [some t0,some t1]).bind bC:=rfl
theorem UF (aGm:Cal P w K mg base "_law_mixed" 1 ["script","k"] aT false 3) (aH3:Cal P w K mg base "_law_noise_table" 2 ["script","hands"] mR true 3) (aH4:Cal P w K mg base "_law_ties_table" 2 ["script","hands"] mV true 3) (cdv:Value) (A:Around) (outer:List Env) (s:Shared) (H:Hp) (E:XK)
  (hr:Room 2 (A.deeper (envOfC "_law_falling" (defScope pM) s.heap.objs.size f cdv))):
  GSs (bA CX0 P w K mg base ["script","hands"] "_law_falling" (defScope pM) f cdv A outer s H E).nox H [1,1] true 3 (defBody pM) sR:=by
 have hu:=hr.units;unfold sR;exact @aK _ _ _ _ _ _ _ _ _ (@bV _ _ _ _ _ _ _ _ _ _ _ _ (@bX _ _ _ _ _ _ _ _ _ _ _ _ hu (@bO _ _ _ _ _ _ _ _ _ _ _ _ (@cC _ _ _ _ _ _ _ _ _ _ _ _ (aO aGm (hr.mono (by decide)) (by rfl) (aD (aB 0) (aD aE aG))) aE) aE) aE) (@aL _ _ _ _ _ _ _ (@aW _ _ _ _ _ _ _ _ (@bB _ _ _ _ _ _ _ _ _ (aO aH3 (hr.mono (by decide)) (by rfl) (aD (aB 0) (aD (aB 1) aG))) (by rfl)))) bW) (@aL _ _ _ _ _ _ _ (@aW _ _ _ _ _ _ _ _ (@bB _ _ _ _ _ _ _ _ _ (aO aH4 (hr.mono (by decide)) (by rfl) (aD (aB 0) (aD (aB 1) aG))) (by rfl))))
theorem aAt {fd:FuncData}(aGm:Cal P w K mg base "_law_mixed" 1 ["script","k"] aT false 3) (aH3:Cal P w K mg base "_law_noise_table" 2 ["script","hands"] mR true 3) (aH4:Cal P w K mg base "_law_ties_table" 2 ["script","hands"] mV true 3) (Fu:Fun K "_law_falling" "_law_falling" pM f fd):
  FnOk P w K mg base CX0 3 f fd ["script","hands"] (spT K fV true 3):=
 gfn Fu aEa rfl (by decide) (fun ts t h=>bI h) (fun cdv A outer s H E hr=>@UF _ _ _ _ _ _ aGm aH3 aH4 cdv A outer s H E hr) (fun ts t h=>bJ h)
abbrev pG:Stmt:=top 37
theorem DY:FnScope ["script","hands","far","parts"] ["script","hands"] (defScope pG):=⟨rfl,rfl,rfl,by decide +kernel,rfl,by decide +kernel,by decide +kernel⟩
def zE:Rho->Option T:=
 f2 (aA 0) (aA 1) cQ
def sN:Rho->Option Out:=
 aH (rIf (fB (f2 (f2 (f2 (aI (aC (aA 0) (aC (fC (.int 3)) aF)) aT) (fC (.int 5)) aY) (fC (.int 2)) aS) (fC (.int 0)) oEq)) (aV (aI (aC (aA 0) (aC (aA 1) aF)) fV)) aQ)
  (aH (aJ 2 (f1 (f2 (cO (aC (fC (.int 3)) (aC (fC (.int 1000)) (aC (f2 (fC (.int 10)) (fC (.int 60)) eF) aF)))) (f2 (f2 (aI (aC (aA 0) (aC (fC (.int 4)) aF)) aT) (fC (.int 3)) aY) (fC (.int 3)) aS) oIx) aN))
  (aH (aJ 3 (aI (aC (aA 0) (aC (f2 (f2 (fC (.int 1)) (aA 1) cX) (fC (.int 1)) cQ) (aC (f2 (f2 (fC (.int 2)) (aA 2) bD) (fC (.int 1)) cA) aF))) eS))
  (aV (f2 (fC (.lst (tI [0]))) (cE (fFL (aA 3)) [none,some 2] bE zE) gF))))
def jV:List T->Option T:=Fof 2 2 sN
theorem ER (t0 t1:T):jV [t0,t1]=(sN [some t0,some t1,none,none]).bind bC:=rfl
theorem TZ (aGm:Cal P w K mg base "_law_mixed" 1 ["script","k"] aT false 3) (aGu:Cal P w K mg base "_law_falling" 3 ["script","hands"] fV true 3) (aGs:Cal P w K mg base "_law_folded" 1 ["script","many","far"] eS true 3) (cdv:Value) (A:Around) (outer:List Env) (s:Shared) (H:Hp) (E:XK)
  (hr:Room 3 (A.deeper (envOfC "_law_any_table" (defScope pG) s.heap.objs.size f cdv))):
  GSs (bA CX0 P w K mg base ["script","hands","far","parts"] "_law_any_table" (defScope pG) f cdv A outer s H E).nox H [1,1,1,1] true 3 (defBody pG) sN:=by
 have hu:=hr.units;unfold sN zE;exact @aK _ _ _ _ _ _ _ _ _ (@bV _ _ _ _ _ _ _ _ _ _ _ _ (@bX _ _ _ _ _ _ _ _ _ _ _ _ hu (@bO _ _ _ _ _ _ _ _ _ _ _ _ (@cC _ _ _ _ _ _ _ _ _ _ _ _ (aO aGm (hr.mono (by decide)) (by rfl) (aD (aB 0) (aD aE aG))) aE) aE) aE) (@aL _ _ _ _ _ _ _ (@aW _ _ _ _ _ _ _ _ (@bB _ _ _ _ _ _ _ _ _ (aO aGu (hr.mono (by decide)) (by rfl) (aD (aB 0) (aD (aB 1) aG))) (by rfl)))) bW) (@aK _ _ _ _ _ _ _ _ _ (@aR _ _ _ _ _ _ _ _ _ _ _ _ 2 (@GE.sc _ _ _ _ _ _ _ (@aM _ _ _ _ _ _ _ _ _ _ _ _ (@eB _ _ _ _ _ _ _ (aD aE (aD aE (aD (@nQ _ _ _ _ _ _ _ _ _ _ _ _ aE aE) aG)))) (@bO _ _ _ _ _ _ _ _ _ _ _ _ (@cC _ _ _ _ _ _ _ _ _ _ _ _ (aO aGm (hr.mono (by decide)) (by rfl) (aD (aB 0) (aD aE aG))) aE) aE) (by exact fun _ _=>rfl))) DY.nd (by rfl) (Or.inr (by rfl)) (by rfl) (by rfl) (by trivial)) (@aK _ _ _ _ _ _ _ _ _ (@aR _ _ _ _ _ _ _ _ _ _ _ _ 3 (aO aGs (hr.mono (by decide)) (by rfl) (aD (aB 0) (aD (@dH _ _ _ _ _ _ _ _ _ _ _ _ (@eM _ _ _ _ _ _ _ _ _ _ _ _ aE (aB 1)) aE) (aD (@cI _ _ _ _ _ _ _ _ _ _ _ _ (@cD _ _ _ _ _ _ _ _ _ _ _ _ aE (aB 2)) aE) aG)))) DY.nd (by rfl) (Or.inl (by rfl)) (by rfl) (by rfl) (by trivial)) (@aL _ _ _ _ _ _ _ (@aW _ _ _ _ _ _ _ _ (@bB _ _ _ _ _ _ _ _ _ (@CD _ _ _ _ _ _ _ _ _ _ _ _ (@uB _ _ _ _ _ ([ 0 ]) (by rfl) (by decide +kernel)) (@fJ _ _ _ _ _ _ _ _ _ _ _ _ _ _ _ _ _ _ _ _ (cV (by kernel_rfl) (N':=[ "part" ,"far" ]) (src:=[ none ,some 2 ])) (eA (by kernel_rfl) (fl':=[ 2 ,1 ])) (by decide) (by rfl) (eC (aB 3)) (by rfl) (by rfl) (fun cl C s H ex=>⟨dY,@dH _ _ _ _ _ _ _ _ _ _ _ _ (aB 0) (aB 1)⟩) (by intro _;rfl))) (by rfl))))))
theorem aAn {fd:FuncData}(aGm:Cal P w K mg base "_law_mixed" 1 ["script","k"] aT false 3) (aGu:Cal P w K mg base "_law_falling" 3 ["script","hands"] fV true 3) (aGs:Cal P w K mg base "_law_folded" 1 ["script","many","far"] eS true 3) (Fu:Fun K "_law_any_table" "_law_any_table" pG f fd):
  FnOk P w K mg base CX0 4 f fd ["script","hands"] (spT K jV true 3):=
 gfn Fu DY rfl (by decide) (fun ts t h=>bI h) (fun cdv A outer s H E hr=>@TZ _ _ _ _ _ _ aGm aGu aGs cdv A outer s H E hr) (fun ts t h=>bJ h)
abbrev pR:Stmt:=top 38
theorem aEc:FnScope ["row","group"] ["row","group"] (defScope pR):=⟨rfl,rfl,rfl,by decide +kernel,rfl,by decide +kernel,by decide +kernel⟩
def zJ:Rho->Option Bool:=
 fB (f2 (f2 (f2 (aA 1) (aA 0) jQ) (fC (.int 1)) fN) (fC (.int 1)) oEq)
def zI:Rho->Option T:=
 f1 (f2 (aA 2) (aA 0) oIx) aN
def vO:Rho->Option Out:=
 aV (aI (aC (cE (cH (aC (aI (aC (aA 0) aF) bS) aF) cK) [none,some 1,some 0] zJ zI) aF) pA)
def fX:List T->Option T:=Fof 2 0 vO
theorem OD (t0 t1:T):fX [t0,t1]=(vO [some t0,some t1]).bind bC:=rfl
theorem UK (aGo:mg "len" = none) (aGn:mg "range" = none) (aHh:mg "sum" = none) (cdv:Value) (A:Around) (outer:List Env) (s:Shared) (H:Hp) (E:XK)
  (hr:Room 0 (A.deeper (envOfC "_law_given" (defScope pR) s.heap.objs.size f cdv))):
  GSs (bA CX0 P w K mg base ["row","group"] "_law_given" (defScope pR) f cdv A outer s H E).nox H [1,1] false 3 (defBody pR) vO:=by
 have hu:=hr.units;unfold vO zI zJ;exact @aL _ _ _ _ _ _ _ (@aW _ _ _ _ _ _ _ _ (@bB _ _ _ _ _ _ _ _ _ (CH (by rfl) (by rfl) (by rfl) aHh (aD (@fJ _ _ _ _ _ _ _ _ _ _ _ _ _ _ _ _ _ _ _ _ (cV (by kernel_rfl) (N':=[ "hand" ,"group" ,"row" ]) (src:=[ none ,some 1 ,some 0 ])) (eA (by kernel_rfl) (fl':=[ 2 ,1 ,1 ])) (by decide) (by rfl) (dI (by rfl) (by rfl) aGn (aD (cJ (by rfl) (by rfl) aGo (aD (aB 0) aG)) aG)) (by rfl) (by rfl) (fun cl C s H ex=>⟨@xY _ _ _ _ _ (@bX _ _ _ _ _ _ _ _ _ _ _ _ hu (@jK _ _ _ _ _ _ _ _ _ _ _ _ (@uD _ _ _ _ _ _ _ _ _ _ _ _ (aB 1) (aB 0)) aE) aE),@GE.sc _ _ _ _ _ _ _ (@aM _ _ _ _ _ _ _ _ _ _ _ _ (aB 2) (aB 0) (by exact fun _ _=>rfl))⟩) (by intro _;rfl)) aG)) (by rfl)))
theorem aAy {fd:FuncData}(aGo:mg "len" = none) (aGn:mg "range" = none) (aHh:mg "sum" = none) (Fu:Fun K "_law_given" "_law_given" pR f fd):
  FnOk P w K mg base CX0 1 f fd ["row","group"] (spT K fX false 3):=
 gfn Fu aEc rfl (by decide) (fun ts t h=>bI h) (fun cdv A outer s H E hr=>@UK _ _ _ _ _ _ aGo aGn aHh cdv A outer s H E hr) (fun ts t h=>bJ h)
abbrev pN:Stmt:=top 54
theorem aEb:FnScope ["row"] ["row"] (defScope pN):=⟨rfl,rfl,rfl,by decide +kernel,rfl,by decide +kernel,by decide +kernel⟩
def zG:Rho->Option T:=
 f1 (aI (aC (aA 1) (aC (aA 0) aF)) fX) aN
def vJ:Rho->Option Out:=
 aV (cE (cH (aC (f2 (fC (.int 1)) (aI (aC (aA 0) aF) bS) cX) aF) cK) [none,some 0] bE zG)
def gJ:List T->Option T:=Fof 1 0 vJ
theorem NZ (t0:T):gJ [t0]=(vJ [some t0]).bind bC:=rfl
theorem UG (aGw:Cal P w K mg base "_law_given" 1 ["row","group"] fX false 3) (aGo:mg "len" = none) (aGn:mg "range" = none) (cdv:Value) (A:Around) (outer:List Env) (s:Shared) (H:Hp) (E:XK)
  (hr:Room 1 (A.deeper (envOfC "_law_flat" (defScope pN) s.heap.objs.size f cdv))):
  GSs (bA CX0 P w K mg base ["row"] "_law_flat" (defScope pN) f cdv A outer s H E).nox H [1] true 3 (defBody pN) vJ:=by
 have hu:=hr.units;unfold vJ zG;exact @aL _ _ _ _ _ _ _ (@aW _ _ _ _ _ _ _ _ (@bB _ _ _ _ _ _ _ _ _ (@fJ _ _ _ _ _ _ _ _ _ _ _ _ _ _ _ _ _ _ _ _ (cV (by kernel_rfl) (N':=[ "group" ,"row" ]) (src:=[ none ,some 0 ])) (eA (by kernel_rfl) (fl':=[ 2 ,1 ])) (by decide) (by rfl) (dI (by rfl) (by rfl) aGn (aD (@eM _ _ _ _ _ _ _ _ _ _ _ _ aE (cJ (by rfl) (by rfl) aGo (aD (aB 0) aG))) aG)) (by rfl) (by rfl) (fun cl C s H ex=>⟨dY,@GE.sc _ _ _ _ _ _ _ (aO aGw (hr.mono (by decide)) (by rfl) (aD (aB 1) (aD (aB 0) aG)))⟩) (by intro _;rfl)) (by rfl)))
theorem aAu {fd:FuncData}(aGw:Cal P w K mg base "_law_given" 1 ["row","group"] fX false 3) (aGo:mg "len" = none) (aGn:mg "range" = none) (Fu:Fun K "_law_flat" "_law_flat" pN f fd):
  FnOk P w K mg base CX0 2 f fd ["row"] (spT K gJ true 3):=
 gfn Fu aEb rfl (by decide) (fun ts t h=>bI h) (fun cdv A outer s H E hr=>@UG _ _ _ _ _ _ aGw aGo aGn cdv A outer s H E hr) (fun ts t h=>bJ h)
abbrev qA:Stmt:=top 41
theorem AH:FnScope ["one","other","rest"] ["one","other"] (defScope qA):=⟨rfl,rfl,rfl,by decide +kernel,rfl,by decide +kernel,by decide +kernel⟩
def zM:Rho->Option Out:=
 aH (aJ 2 (f2 (aA 0) (aA 1) aS))
  (aH (aJ 0 (f1 (aA 1) aN))
  (aJ 1 (f1 (aA 2) aN)))
def zN:Rho->Option Bool:=
 fB (f2 (aA 1) (fC (.int 0)) oGt)
def vU:Rho->Option Out:=
 aH (gI zN zM)
  (aV (f1 (aA 0) aN))
def jZ:List T->Option T:=Fof 2 1 vU
theorem OJ (t0 t1:T):jZ [t0,t1]=(vU [some t0,some t1,none]).bind bC:=rfl
theorem UT (cdv:Value) (A:Around) (outer:List Env) (s:Shared) (H:Hp) (E:XK)
  (hr:Room 0 (A.deeper (envOfC "_law_part" (defScope qA) s.heap.objs.size f cdv))):
  GSs (bA CX0 P w K mg base ["one","other","rest"] "_law_part" (defScope qA) f cdv A outer s H E).nox H [1,1,1] false 3 (defBody qA) vU:=by
 have hu:=hr.units;unfold vU zN zM;exact @aK _ _ _ _ _ _ _ _ _ (@uF _ _ _ _ _ _ _ _ _ _ PassesOwn.never (@rZ _ _ _ _ _ _ _ _ _ _ _ _ (aB 1) aE) (@aK _ _ _ _ _ _ _ _ _ (@aR _ _ _ _ _ _ _ _ _ _ _ _ 2 (@bO _ _ _ _ _ _ _ _ _ _ _ _ (aB 0) (aB 1)) AH.nd (by rfl) (Or.inl (by rfl)) (by rfl) (by rfl) (by trivial)) (@aK _ _ _ _ _ _ _ _ _ (@aR _ _ _ _ _ _ _ _ _ _ _ _ 0 (@GE.sc _ _ _ _ _ _ _ (aB 1)) AH.nd (by rfl) (Or.inl (by rfl)) (by rfl) (by rfl) (by trivial)) (@aL _ _ _ _ _ _ _ (@aR _ _ _ _ _ _ _ _ _ _ _ _ 1 (@GE.sc _ _ _ _ _ _ _ (aB 2)) AH.nd (by rfl) (Or.inl (by rfl)) (by rfl) (by rfl) (by trivial)))))) (@aL _ _ _ _ _ _ _ (@aW _ _ _ _ _ _ _ _ (@bB _ _ _ _ _ _ _ _ _ (@GE.sc _ _ _ _ _ _ _ (aB 0)) (by rfl))))
theorem aB7 {fd:FuncData}(Fu:Fun K "_law_part" "_law_part" qA f fd):
  FnOk P w K mg base CX0 1 f fd ["one","other"] (spT K jZ false 3):=
 gfn Fu AH rfl (by decide) (fun ts t h=>bI h) (fun cdv A outer s H E hr=>@UT _ _ _ _ _ _  cdv A outer s H E hr) (fun ts t h=>bJ h)
abbrev pP:Stmt:=top 42
theorem MK:FnScope ["top","bottom","part"] ["top","bottom"] (defScope pP):=⟨rfl,rfl,rfl,by decide +kernel,rfl,by decide +kernel,by decide +kernel⟩
def vL:Rho->Option Out:=
 aH (aJ 2 (f1 (aI (aC (aI (aC (aA 0) aF) uN) (aC (aA 1) aF)) jZ) aN))
  (aV (bP (aC (f2 (aA 0) (aA 2) fD) (aC (f2 (aA 1) (aA 2) fD) aF))))
def cR:List T->Option T:=Fof 2 1 vL
theorem OB (t0 t1:T):cR [t0,t1]=(vL [some t0,some t1,none]).bind bC:=rfl
theorem UI (aHv:Cal P w K mg base "_law_part" 1 ["one","other"] jZ false 3) (aI2:mg "abs" = none) (cdv:Value) (A:Around) (outer:List Env) (s:Shared) (H:Hp) (E:XK)
  (hr:Room 1 (A.deeper (envOfC "_law_fraction" (defScope pP) s.heap.objs.size f cdv))):
  GSs (bA CX0 P w K mg base ["top","bottom","part"] "_law_fraction" (defScope pP) f cdv A outer s H E).nox H [1,1,1] false 3 (defBody pP) vL:=by
 have hu:=hr.units;unfold vL;exact @aK _ _ _ _ _ _ _ _ _ (@aR _ _ _ _ _ _ _ _ _ _ _ _ 2 (@GE.sc _ _ _ _ _ _ _ (aO aHv (hr.mono (by decide)) (by rfl) (aD (CA (by rfl) (by rfl) aI2 (aD (aB 0) aG)) (aD (aB 1) aG)))) MK.nd (by rfl) (Or.inl (by rfl)) (by rfl) (by rfl) (by trivial)) (@aL _ _ _ _ _ _ _ (@aW _ _ _ _ _ _ _ _ (@yA _ _ _ _ _ _ _ _ _ (@kK _ _ _ _ _ _ _ _ (@bB _ _ _ _ _ _ _ _ _ (@uA _ _ _ _ _ _ _ _ _ _ _ _ (aB 0) (aB 2)) (by rfl)) (@kK _ _ _ _ _ _ _ _ (@bB _ _ _ _ _ _ _ _ _ (@uA _ _ _ _ _ _ _ _ _ _ _ _ (aB 1) (aB 2)) (by rfl)) yB (by rfl) (by rfl)) (by rfl) (by rfl)) (by rfl))))
theorem aAw {fd:FuncData}(aHv:Cal P w K mg base "_law_part" 1 ["one","other"] jZ false 3) (aI2:mg "abs" = none) (Fu:Fun K "_law_fraction" "_law_fraction" pP f fd):
  FnOk P w K mg base CX0 2 f fd ["top","bottom"] (spT K cR false 3):=
 gfn Fu MK rfl (by decide) (fun ts t h=>bI h) (fun cdv A outer s H E hr=>@UI _ _ _ _ _ _ aHv aI2 cdv A outer s H E hr) (fun ts t h=>bJ h)
abbrev pZ:Stmt:=top 39
theorem EA:FnScope ["script","k","hands","order","hand"] ["script","k","hands"] (defScope pZ):=⟨rfl,rfl,rfl,by decide +kernel,rfl,by decide +kernel,by decide +kernel⟩
def zL:Rho->Option Out:=
 pC 3 (f2 (f2 (aI (aC (aA 0) (aC (f2 (aA 1) (aA 4) cA) aF)) aT) (fC (.int 5)) aY) (f2 (aA 4) (fC (.int 1)) cA) aS) (f1 (aA 4) aN)
def vT:Rho->Option Out:=
 aH (fP 3 (cO aF))
  (aH (dL 4 (cH (aC (aA 2) aF) cK)
  zL)
  (aV (gB 3)))
def jF:List T->Option T:=Fof 3 2 vT
theorem OI (t0 t1 t2:T):jF [t0,t1,t2]=(vT [some t0,some t1,some t2,none,none]).bind bC:=rfl
theorem US (aGm:Cal P w K mg base "_law_mixed" 1 ["script","k"] aT false 3) (aGn:mg "range" = none) (cdv:Value) (A:Around) (outer:List Env) (s:Shared) (H:Hp) (E:XK)
  (hr:Room 1 (A.deeper (envOfC "_law_order" (defScope pZ) s.heap.objs.size f cdv))):
  GSs (bA CX0 P w K mg base ["script","k","hands","order","hand"] "_law_order" (defScope pZ) f cdv A outer s H E).nox H [1,1,1,0,1] true 3 (defBody pZ) vT:=by
 have hu:=hr.units;unfold vT zL;exact @aK _ _ _ _ _ _ _ _ _ (@rX _ _ _ _ _ _ _ _ _ _ _ 3 (@eB _ _ _ _ _ _ _ aG) EA.nd (by rfl) (Or.inl (by rfl)) (by rfl) (by rfl) (by trivial)) (@aK _ _ _ _ _ _ _ _ _ (@dZ _ _ _ _ _ _ _ _ _ 4 _ _ _ _ _ PassesOwn.never (by rfl) (dI (by rfl) (by rfl) aGn (aD (aB 2) aG)) EA.nd (by rfl) (Or.inl (by rfl)) (@aL _ _ _ _ _ _ _ (@IV _ _ _ _ _ _ _ _ _ _ _ _ _ _ _ _ 3 _ _ (@bO _ _ _ _ _ _ _ _ _ _ _ _ (@cC _ _ _ _ _ _ _ _ _ _ _ _ (aO aGm (hr.mono (by decide)) (by rfl) (aD (aB 0) (aD (@cI _ _ _ _ _ _ _ _ _ _ _ _ (aB 1) (aB 4)) aG))) aE) (@cI _ _ _ _ _ _ _ _ _ _ _ _ (aB 4) aE)) (@GE.sc _ _ _ _ _ _ _ (aB 4)) (by rfl) (by rfl) (by trivial) (by decide) (by decide) (by rfl) (by rfl) (by rfl) (by rfl) (by rfl) (by rfl) (by rfl))) (by rfl) (by intro _;rfl) (by trivial)) (@aL _ _ _ _ _ _ _ (@aW _ _ _ _ _ _ _ _ (@jM _ _ _ _ _ _ _ 3 (by rfl) (by trivial) (by rfl) (by decide) (by decide)))))
theorem aB6 {fd:FuncData}(aGm:Cal P w K mg base "_law_mixed" 1 ["script","k"] aT false 3) (aGn:mg "range" = none) (Fu:Fun K "_law_order" "_law_order" pZ f fd):
  FnOk P w K mg base CX0 2 f fd ["script","k","hands"] (spT K jF true 3):=
 gfn Fu EA rfl (by decide) (fun ts t h=>bI h) (fun cdv A outer s H E hr=>@US _ _ _ _ _ _ aGm aGn cdv A outer s H E hr) (fun ts t h=>bJ h)
abbrev qG:Stmt:=top 40
theorem xC:FnScope ["table","order","shares","ahead","hand"] ["table","order"] (defScope qG):=⟨rfl,rfl,rfl,by decide +kernel,rfl,by decide +kernel,by decide +kernel⟩
def DU:Rho->Option T:=
 fC (.int 0)
def zP:Rho->Option Out:=
 aH (cY 2 (aA 4) (f2 (f2 (aA 0) (f2 (aA 3) (f2 (fC (.int 1)) (aA 4) cX) cA) oIx) (f2 (aA 0) (aA 3) oIx) cQ))
  (aJ 3 (f2 (aA 3) (f2 (fC (.int 1)) (aA 4) cX) cA))
def wC:Rho->Option Out:=
 aH (fP 2 (cE (fFL (aA 1)) [none] bE DU))
  (aH (aJ 3 (fC (.int 0)))
  (aH (dL 4 (fFL (aA 1))
  zP)
  (aV (gB 2))))
def kB:List T->Option T:=Fof 2 3 wC
theorem OO (t0 t1:T):kB [t0,t1]=(wC [some t0,some t1,none,none,none]).bind bC:=rfl
theorem UZ (cdv:Value) (A:Around) (outer:List Env) (s:Shared) (H:Hp) (E:XK)
  (hr:Room 0 (A.deeper (envOfC "_law_taken" (defScope qG) s.heap.objs.size f cdv))):
  GSs (bA CX0 P w K mg base ["table","order","shares","ahead","hand"] "_law_taken" (defScope qG) f cdv A outer s H E).nox H [1,1,0,1,1] true 3 (defBody qG) wC:=by
 have hu:=hr.units;unfold wC zP DU;exact @aK _ _ _ _ _ _ _ _ _ (@CJ _ _ _ _ _ _ _ _ _ _ _ _ _ _ _ _ _ _ _ _ _ _ _ _ _ 2 (cV (by kernel_rfl) (N':=[ "hand" ]) (src:=[ none ])) (eA (by kernel_rfl) (fl':=[ 2 ])) (by rfl) (eC (aB 1)) (by rfl) (by rfl) (fun cl C s H ex=>⟨dY,@aE _ _ _ _ _ _⟩) xC.nd (by rfl) (Or.inl (by rfl)) (by rfl) (by rfl) (by intro _;rfl) (by trivial)) (@aK _ _ _ _ _ _ _ _ _ (@aR _ _ _ _ _ _ _ _ _ _ _ _ 3 aE xC.nd (by rfl) (Or.inl (by rfl)) (by rfl) (by rfl) (by trivial)) (@aK _ _ _ _ _ _ _ _ _ (@dZ _ _ _ _ _ _ _ _ _ 4 _ _ _ _ _ PassesOwn.never (by rfl) (eC (aB 1)) xC.nd (by rfl) (Or.inl (by rfl)) (@aK _ _ _ _ _ _ _ _ _ (@rW _ _ _ _ _ _ _ _ _ _ _ 2 _ _ _ _ _ _ (@dH _ _ _ _ _ _ _ _ _ _ _ _ (@aM _ _ _ _ _ _ _ _ _ _ _ _ (aB 0) (@cI _ _ _ _ _ _ _ _ _ _ _ _ (aB 3) (@eM _ _ _ _ _ _ _ _ _ _ _ _ aE (aB 4))) (by exact fun _ _=>rfl)) (@aM _ _ _ _ _ _ _ _ _ _ _ _ (aB 0) (aB 3) (by exact fun _ _=>rfl))) (aB 4) (by rfl) (by rfl) (by trivial) (by decide) (by decide) (by intro _;rfl) (by rfl) (by rfl) (by rfl)) (@aL _ _ _ _ _ _ _ (@aR _ _ _ _ _ _ _ _ _ _ _ _ 3 (@cI _ _ _ _ _ _ _ _ _ _ _ _ (aB 3) (@eM _ _ _ _ _ _ _ _ _ _ _ _ aE (aB 4))) xC.nd (by rfl) (Or.inl (by rfl)) (by rfl) (by rfl) (by trivial)))) (by rfl) (by intro _;rfl) (by trivial)) (@aL _ _ _ _ _ _ _ (@aW _ _ _ _ _ _ _ _ (@jM _ _ _ _ _ _ _ 2 (by rfl) (by trivial) (by rfl) (by decide) (by decide))))))
theorem aBd {fd:FuncData}(Fu:Fun K "_law_taken" "_law_taken" qG f fd):
  FnOk P w K mg base CX0 1 f fd ["table","order"] (spT K kB true 3):=
 gfn Fu xC rfl (by decide) (fun ts t h=>bI h) (fun cdv A outer s H E hr=>@UZ _ _ _ _ _ _  cdv A outer s H E hr) (fun ts t h=>bJ h)
abbrev pU:Stmt:=top 44
theorem aEe:FnScope ["one","other"] ["one","other"] (defScope pU):=⟨rfl,rfl,rfl,by decide +kernel,rfl,by decide +kernel,by decide +kernel⟩
def pD:Rho->Option Out:=
 aV (f2 (f2 (f2 (aA 0) (fC (.int 0)) oIx) (f2 (aA 1) (fC (.int 1)) oIx) bD) (f2 (f2 (aA 1) (fC (.int 0)) oIx) (f2 (aA 0) (fC (.int 1)) oIx) bD) oLt)
def dE:List T->Option T:=Fof 2 0 pD
theorem AN (t0 t1:T):dE [t0,t1]=(pD [some t0,some t1]).bind bC:=rfl
theorem UN (cdv:Value) (A:Around) (outer:List Env) (s:Shared) (H:Hp) (E:XK)
  (hr:Room 0 (A.deeper (envOfC "_law_less" (defScope pU) s.heap.objs.size f cdv))):
  GSs (bA CX0 P w K mg base ["one","other"] "_law_less" (defScope pU) f cdv A outer s H E).nox H [1,1] false 3 (defBody pU) pD:=by
 have hu:=hr.units;unfold pD;exact @aL _ _ _ _ _ _ _ (@aW _ _ _ _ _ _ _ _ (@bB _ _ _ _ _ _ _ _ _ (@IO _ _ _ _ _ _ _ _ _ _ _ _ (@cD _ _ _ _ _ _ _ _ _ _ _ _ (@aM _ _ _ _ _ _ _ _ _ _ _ _ (aB 0) aE (by exact fun _ _=>rfl)) (@aM _ _ _ _ _ _ _ _ _ _ _ _ (aB 1) aE (by exact fun _ _=>rfl))) (@cD _ _ _ _ _ _ _ _ _ _ _ _ (@aM _ _ _ _ _ _ _ _ _ _ _ _ (aB 1) aE (by exact fun _ _=>rfl)) (@aM _ _ _ _ _ _ _ _ _ _ _ _ (aB 0) aE (by exact fun _ _=>rfl)))) (by rfl)))
theorem aB1 {fd:FuncData}(Fu:Fun K "_law_less" "_law_less" pU f fd):
  FnOk P w K mg base CX0 1 f fd ["one","other"] (spT K dE false 3):=
 gfn Fu aEe rfl (by decide) (fun ts t h=>bI h) (fun cdv A outer s H E hr=>@UN _ _ _ _ _ _  cdv A outer s H E hr) (fun ts t h=>bJ h)
abbrev qE:Stmt:=top 46
theorem mH:FnScope ["table","weights","ahead","least","joined","group","thick"] ["table","weights","ahead"] (defScope qE):=⟨rfl,rfl,rfl,by decide +kernel,rfl,by decide +kernel,by decide +kernel⟩
def mE:Rho->Option Out:=
 rIf (fB (f2 (f2 (aA 5) (aA 2) fN) (fC (.int 0)) oEq)) (aH (aJ 6 (f1 (aI (aC (f2 (f2 (aA 0) (f2 (aA 2) (aA 5) cA) oIx) (f2 (aA 0) (aA 2) oIx) cQ) (aC (aI (aC (aA 1) (aC (aA 5) aF)) fX) aF)) cR) aN))
  (aH (rIf (pOr (fB (f2 (aA 3) (fC .non) oIs)) (fT (aI (aC (aA 6) (aC (aA 3) aF)) dE))) (aH (aJ 3 (f1 (aA 6) aN))
  (aJ 4 (f1 (aA 2) aN))) aQ)
  (rIf (fB (f2 (aA 6) (aA 3) oEq)) (aJ 4 (f2 (aA 4) (aA 5) oOr)) aQ))) aQ
def vY:Rho->Option Out:=
 aH (aJ 3 (fC .non))
  (aH (aJ 4 (f1 (aA 2) aN))
  (aH (dL 5 (cH (aC (fC (.int 1)) (aC (aI (aC (aA 0) aF) bS) aF)) sF)
  mE)
  (aV (bP (aC (f1 (aA 4) aN) (aC (f1 (aA 3) aN) aF))))))
def mU:List T->Option T:=Fof 3 4 vY
theorem OM (t0 t1 t2:T):mU [t0,t1,t2]=(vY [some t0,some t1,some t2,none,none,none,none]).bind bC:=rfl
theorem UX (aGw:Cal P w K mg base "_law_given" 1 ["row","group"] fX false 3) (aGp:Cal P w K mg base "_law_fraction" 2 ["top","bottom"] cR false 3) (aGr:Cal P w K mg base "_law_less" 1 ["one","other"] dE false 3) (aGo:mg "len" = none) (aGn:mg "range" = none) (cdv:Value) (A:Around) (outer:List Env) (s:Shared) (H:Hp) (E:XK)
  (hr:Room 2 (A.deeper (envOfC "_law_step" (defScope qE) s.heap.objs.size f cdv))):
  GSs (bA CX0 P w K mg base ["table","weights","ahead","least","joined","group","thick"] "_law_step" (defScope qE) f cdv A outer s H E).nox H [1,1,1,1,1,1,1] false 3 (defBody qE) vY:=by
 have hu:=hr.units;unfold vY mE;exact @aK _ _ _ _ _ _ _ _ _ (@aR _ _ _ _ _ _ _ _ _ _ _ _ 3 CF mH.nd (by rfl) (Or.inl (by rfl)) (by rfl) (by rfl) (by trivial)) (@aK _ _ _ _ _ _ _ _ _ (@aR _ _ _ _ _ _ _ _ _ _ _ _ 4 (@GE.sc _ _ _ _ _ _ _ (aB 2)) mH.nd (by rfl) (Or.inl (by rfl)) (by rfl) (by rfl) (by trivial)) (@aK _ _ _ _ _ _ _ _ _ (@dZ _ _ _ _ _ _ _ _ _ 5 _ _ _ _ _ PassesOwn.never (by rfl) (XJ (by rfl) (by rfl) aGn (aD aE (aD (cJ (by rfl) (by rfl) aGo (aD (aB 0) aG)) aG))) mH.nd (by rfl) (Or.inl (by rfl)) (@aL _ _ _ _ _ _ _ (@bV _ _ _ _ _ _ _ _ _ _ _ _ (@bX _ _ _ _ _ _ _ _ _ _ _ _ hu (@jK _ _ _ _ _ _ _ _ _ _ _ _ (aB 5) (aB 2)) aE) (@aK _ _ _ _ _ _ _ _ _ (@aR _ _ _ _ _ _ _ _ _ _ _ _ 6 (@GE.sc _ _ _ _ _ _ _ (aO aGp (hr.mono (by decide)) (by rfl) (aD (@dH _ _ _ _ _ _ _ _ _ _ _ _ (@aM _ _ _ _ _ _ _ _ _ _ _ _ (aB 0) (@cI _ _ _ _ _ _ _ _ _ _ _ _ (aB 2) (aB 5)) (by exact fun _ _=>rfl)) (@aM _ _ _ _ _ _ _ _ _ _ _ _ (aB 0) (aB 2) (by exact fun _ _=>rfl))) (aD (aO aGw (hr.mono (by decide)) (by rfl) (aD (aB 1) (aD (aB 5) aG))) aG)))) mH.nd (by rfl) (Or.inl (by rfl)) (by rfl) (by rfl) (by trivial)) (@aK _ _ _ _ _ _ _ _ _ (@bV _ _ _ _ _ _ _ _ _ _ _ _ (@GW.gt _ _ _ _ _ (@kO _ _ _ _ _ _ _ _ _ (@IY _ _ _ _ _ _ _ _ _ _ _ _ (aB 3) CF) (@kP _ _ _ _ _ _ (@eE _ _ _ _ _ _ _ (aO aGr (hr.mono (by decide)) (by rfl) (aD (aB 6) (aD (aB 3) aG))) (by intro _;rfl))))) (@aK _ _ _ _ _ _ _ _ _ (@aR _ _ _ _ _ _ _ _ _ _ _ _ 3 (@GE.sc _ _ _ _ _ _ _ (aB 6)) mH.nd (by rfl) (Or.inl (by rfl)) (by rfl) (by rfl) (by trivial)) (@aL _ _ _ _ _ _ _ (@aR _ _ _ _ _ _ _ _ _ _ _ _ 4 (@GE.sc _ _ _ _ _ _ _ (aB 2)) mH.nd (by rfl) (Or.inl (by rfl)) (by rfl) (by rfl) (by trivial)))) bW) (@aL _ _ _ _ _ _ _ (@bV _ _ _ _ _ _ _ _ _ _ _ _ (@bX _ _ _ _ _ _ _ _ _ _ _ _ hu (aB 6) (aB 3)) (@aL _ _ _ _ _ _ _ (@aR _ _ _ _ _ _ _ _ _ _ _ _ 4 (@xX _ _ _ _ _ _ _ _ _ _ _ _ (aB 4) (aB 5)) mH.nd (by rfl) (Or.inl (by rfl)) (by rfl) (by rfl) (by trivial))) bW)))) bW)) (by rfl) (by intro _;rfl) (by trivial)) (@aL _ _ _ _ _ _ _ (@aW _ _ _ _ _ _ _ _ (@yA _ _ _ _ _ _ _ _ _ (@kK _ _ _ _ _ _ _ _ (@bB _ _ _ _ _ _ _ _ _ (@GE.sc _ _ _ _ _ _ _ (aB 4)) (by rfl)) (@kK _ _ _ _ _ _ _ _ (@bB _ _ _ _ _ _ _ _ _ (@GE.sc _ _ _ _ _ _ _ (aB 3)) (by rfl)) yB (by rfl) (by rfl)) (by rfl) (by rfl)) (by rfl))))))
theorem aBb {fd:FuncData}(aGw:Cal P w K mg base "_law_given" 1 ["row","group"] fX false 3) (aGp:Cal P w K mg base "_law_fraction" 2 ["top","bottom"] cR false 3) (aGr:Cal P w K mg base "_law_less" 1 ["one","other"] dE false 3) (aGo:mg "len" = none) (aGn:mg "range" = none) (Fu:Fun K "_law_step" "_law_step" qE f fd):
  FnOk P w K mg base CX0 3 f fd ["table","weights","ahead"] (spT K mU false 3):=
 gfn Fu mH rfl (by decide) (fun ts t h=>bI h) (fun cdv A outer s H E hr=>@UX _ _ _ _ _ _ aGw aGp aGr aGo aGn cdv A outer s H E hr) (fun ts t h=>bJ h)
abbrev qF:Stmt:=top 47
theorem xB:FnScope ["table","weights","steps","ahead","step"] ["table","weights"] (defScope qF):=⟨rfl,rfl,rfl,by decide +kernel,rfl,by decide +kernel,by decide +kernel⟩
def wA:Rho->Option Out:=
 aH (aJ 4 (f1 (aI (aC (aA 0) (aC (aA 1) (aC (aA 3) aF))) mU) aN))
  (aH (sJ 2 (f1 (aA 4) aN))
  (aJ 3 (f1 (f2 (aA 4) (fC (.int 0)) oIx) aN)))
def wB:Rho->Option Bool:=
 fB (f2 (aA 3) (f2 (aI (aC (aA 0) aF) bS) (fC (.int 1)) cQ) oLt)
def vZ:Rho->Option Out:=
 aH (fP 2 (cO aF))
  (aH (aJ 3 (fC (.int 0)))
  (aH (gI wB wA)
  (aV (gB 2))))
def kA:List T->Option T:=Fof 2 3 vZ
theorem ON (t0 t1:T):kA [t0,t1]=(vZ [some t0,some t1,none,none,none]).bind bC:=rfl
theorem UY (aHw:Cal P w K mg base "_law_step" 3 ["table","weights","ahead"] mU false 3) (aGo:mg "len" = none) (cdv:Value) (A:Around) (outer:List Env) (s:Shared) (H:Hp) (E:XK)
  (hr:Room 3 (A.deeper (envOfC "_law_steps" (defScope qF) s.heap.objs.size f cdv))):
  GSs (bA CX0 P w K mg base ["table","weights","steps","ahead","step"] "_law_steps" (defScope qF) f cdv A outer s H E).nox H [1,1,0,1,1] true 3 (defBody qF) vZ:=by
 have hu:=hr.units;unfold vZ wB wA;exact @aK _ _ _ _ _ _ _ _ _ (@rX _ _ _ _ _ _ _ _ _ _ _ 2 (@eB _ _ _ _ _ _ _ aG) xB.nd (by rfl) (Or.inl (by rfl)) (by rfl) (by rfl) (by trivial)) (@aK _ _ _ _ _ _ _ _ _ (@aR _ _ _ _ _ _ _ _ _ _ _ _ 3 aE xB.nd (by rfl) (Or.inl (by rfl)) (by rfl) (by rfl) (by trivial)) (@aK _ _ _ _ _ _ _ _ _ (@uF _ _ _ _ _ _ _ _ _ _ PassesOwn.never (@uG _ _ _ _ _ _ _ _ _ _ _ _ (aB 3) (@dH _ _ _ _ _ _ _ _ _ _ _ _ (cJ (by rfl) (by rfl) aGo (aD (aB 0) aG)) aE)) (@aK _ _ _ _ _ _ _ _ _ (@aR _ _ _ _ _ _ _ _ _ _ _ _ 4 (@GE.sc _ _ _ _ _ _ _ (aO aHw (hr.mono (by decide)) (by rfl) (aD (aB 0) (aD (aB 1) (aD (aB 3) aG))))) xB.nd (by rfl) (Or.inl (by rfl)) (by rfl) (by rfl) (by trivial)) (@aK _ _ _ _ _ _ _ _ _ (@yD _ _ _ _ _ _ _ _ _ _ _ _ 2 _ _ (@GE.sc _ _ _ _ _ _ _ (aB 4)) (by rfl) (by rfl) (by trivial) (by decide) (by decide) (by rfl) (by rfl) (by rfl) (by rfl) (by rfl)) (@aL _ _ _ _ _ _ _ (@aR _ _ _ _ _ _ _ _ _ _ _ _ 3 (@GE.sc _ _ _ _ _ _ _ (@aM _ _ _ _ _ _ _ _ _ _ _ _ (aB 4) aE (by exact fun _ _=>rfl))) xB.nd (by rfl) (Or.inl (by rfl)) (by rfl) (by rfl) (by trivial)))))) (@aL _ _ _ _ _ _ _ (@aW _ _ _ _ _ _ _ _ (@jM _ _ _ _ _ _ _ 2 (by rfl) (by trivial) (by rfl) (by decide) (by decide))))))
theorem aBc {fd:FuncData}(aHw:Cal P w K mg base "_law_step" 3 ["table","weights","ahead"] mU false 3) (aGo:mg "len" = none) (Fu:Fun K "_law_steps" "_law_steps" qF f fd):
  FnOk P w K mg base CX0 4 f fd ["table","weights"] (spT K kA true 3):=
 gfn Fu xB rfl (by decide) (fun ts t h=>bI h) (fun cdv A outer s H E hr=>@UY _ _ _ _ _ _ aHw aGo cdv A outer s H E hr) (fun ts t h=>bJ h)
abbrev qC:Stmt:=top 51
theorem aEg:FnScope ["shares","weights","hand"] ["shares","weights","hand"] (defScope qC):=⟨rfl,rfl,rfl,by decide +kernel,rfl,by decide +kernel,by decide +kernel⟩
def vV:Rho->Option Out:=
 aV (f1 (aI (aC (f2 (f2 (aA 0) (aA 2) oIx) (fC (.int 0)) oIx) (aC (f2 (f2 (f2 (aA 0) (aA 2) oIx) (fC (.int 1)) oIx) (f2 (aA 1) (aA 2) oIx) bD) aF)) cR) aN)
def fY:List T->Option T:=Fof 3 0 vV
theorem OK (t0 t1 t2:T):fY [t0,t1,t2]=(vV [some t0,some t1,some t2]).bind bC:=rfl
theorem UV (aGp:Cal P w K mg base "_law_fraction" 2 ["top","bottom"] cR false 3) (cdv:Value) (A:Around) (outer:List Env) (s:Shared) (H:Hp) (E:XK)
  (hr:Room 2 (A.deeper (envOfC "_law_ratio" (defScope qC) s.heap.objs.size f cdv))):
  GSs (bA CX0 P w K mg base ["shares","weights","hand"] "_law_ratio" (defScope qC) f cdv A outer s H E).nox H [1,1,1] false 3 (defBody qC) vV:=by
 have hu:=hr.units;unfold vV;exact @aL _ _ _ _ _ _ _ (@aW _ _ _ _ _ _ _ _ (@bB _ _ _ _ _ _ _ _ _ (@GE.sc _ _ _ _ _ _ _ (aO aGp (hr.mono (by decide)) (by rfl) (aD (@aM _ _ _ _ _ _ _ _ _ _ _ _ (@aM _ _ _ _ _ _ _ _ _ _ _ _ (aB 0) (aB 2) (by exact fun _ _=>rfl)) aE (by exact fun _ _=>rfl)) (aD (@cD _ _ _ _ _ _ _ _ _ _ _ _ (@aM _ _ _ _ _ _ _ _ _ _ _ _ (@aM _ _ _ _ _ _ _ _ _ _ _ _ (aB 0) (aB 2) (by exact fun _ _=>rfl)) aE (by exact fun _ _=>rfl)) (@aM _ _ _ _ _ _ _ _ _ _ _ _ (aB 1) (aB 2) (by exact fun _ _=>rfl))) aG)))) (by rfl)))
theorem aB9 {fd:FuncData}(aGp:Cal P w K mg base "_law_fraction" 2 ["top","bottom"] cR false 3) (Fu:Fun K "_law_ratio" "_law_ratio" qC f fd):
  FnOk P w K mg base CX0 3 f fd ["shares","weights","hand"] (spT K fY false 3):=
 gfn Fu aEg rfl (by decide) (fun ts t h=>bI h) (fun cdv A outer s H E hr=>@UV _ _ _ _ _ _ aGp cdv A outer s H E hr) (fun ts t h=>bJ h)
abbrev qD:Stmt:=top 52
theorem tH:FnScope ["shares","weights","order","hand","own","at"] ["shares","weights"] (defScope qD):=⟨rfl,rfl,rfl,by decide +kernel,rfl,by decide +kernel,by decide +kernel⟩
def vX:Rho->Option Out:=
 aJ 5 (f2 (aA 5) (fC (.int 1)) cA)
def sU:Rho->Option Bool:=
 eO (fB (f2 (aA 5) (aI (aC (aA 2) aF) bS) oLt)) (eG (fT (aI (aC (aA 4) (aC (aI (aC (aA 0) (aC (aA 1) (aC (f2 (aA 2) (aA 5) oIx) aF))) fY) aF)) dE)))
def zO:Rho->Option Out:=
 aH (aJ 4 (f1 (aI (aC (aA 0) (aC (aA 1) (aC (aA 3) aF))) fY) aN))
  (aH (aJ 5 (fC (.int 0)))
  (aH (gI sU vX)
  (pC 2 (aA 5) (f1 (aA 3) aN))))
def vW:Rho->Option Out:=
 aH (fP 2 (cO aF))
  (aH (dL 3 (cH (aC (aI (aC (aA 1) aF) bS) aF) cK)
  zO)
  (aV (gB 2)))
def mT:List T->Option T:=Fof 2 4 vW
theorem OL (t0 t1:T):mT [t0,t1]=(vW [some t0,some t1,none,none,none,none]).bind bC:=rfl
theorem UW (aGv:Cal P w K mg base "_law_ratio" 3 ["shares","weights","hand"] fY false 3) (aGr:Cal P w K mg base "_law_less" 1 ["one","other"] dE false 3) (aGo:mg "len" = none) (aGn:mg "range" = none) (cdv:Value) (A:Around) (outer:List Env) (s:Shared) (H:Hp) (E:XK)
  (hr:Room 3 (A.deeper (envOfC "_law_rising" (defScope qD) s.heap.objs.size f cdv))):
  GSs (bA CX0 P w K mg base ["shares","weights","order","hand","own","at"] "_law_rising" (defScope qD) f cdv A outer s H E).nox H [1,1,0,1,1,1] true 3 (defBody qD) vW:=by
 have hu:=hr.units;unfold vW zO sU vX;exact @aK _ _ _ _ _ _ _ _ _ (@rX _ _ _ _ _ _ _ _ _ _ _ 2 (@eB _ _ _ _ _ _ _ aG) tH.nd (by rfl) (Or.inl (by rfl)) (by rfl) (by rfl) (by trivial)) (@aK _ _ _ _ _ _ _ _ _ (@dZ _ _ _ _ _ _ _ _ _ 3 _ _ _ _ _ PassesOwn.never (by rfl) (dI (by rfl) (by rfl) aGn (aD (cJ (by rfl) (by rfl) aGo (aD (aB 1) aG)) aG)) tH.nd (by rfl) (Or.inl (by rfl)) (@aK _ _ _ _ _ _ _ _ _ (@aR _ _ _ _ _ _ _ _ _ _ _ _ 4 (@GE.sc _ _ _ _ _ _ _ (aO aGv (hr.mono (by decide)) (by rfl) (aD (aB 0) (aD (aB 1) (aD (aB 3) aG))))) tH.nd (by rfl) (Or.inl (by rfl)) (by rfl) (by rfl) (by trivial)) (@aK _ _ _ _ _ _ _ _ _ (@aR _ _ _ _ _ _ _ _ _ _ _ _ 5 aE tH.nd (by rfl) (Or.inl (by rfl)) (by rfl) (by rfl) (by trivial)) (@aK _ _ _ _ _ _ _ _ _ (@uF _ _ _ _ _ _ _ _ _ _ PassesOwn.never (@GW.gt _ _ _ _ _ (@kN _ _ _ _ _ _ _ _ _ (@uG _ _ _ _ _ _ _ _ _ _ _ _ (aB 5) (cJ (by rfl) (by rfl) aGo (aD (aB 2) aG))) (@sB _ _ _ _ _ _ (@gZ _ _ _ _ _ _ (@eE _ _ _ _ _ _ _ (aO aGr (hr.mono (by decide)) (by rfl) (aD (aB 4) (aD (aO aGv (hr.mono (by decide)) (by rfl) (aD (aB 0) (aD (aB 1) (aD (@aM _ _ _ _ _ _ _ _ _ _ _ _ (aB 2) (aB 5) (by exact fun _ _=>rfl)) aG)))) aG))) (by intro _;rfl)))))) (@aL _ _ _ _ _ _ _ (@aR _ _ _ _ _ _ _ _ _ _ _ _ 5 (@cI _ _ _ _ _ _ _ _ _ _ _ _ (aB 5) aE) tH.nd (by rfl) (Or.inl (by rfl)) (by rfl) (by rfl) (by trivial)))) (@aL _ _ _ _ _ _ _ (@IV _ _ _ _ _ _ _ _ _ _ _ _ _ _ _ _ 2 _ _ (aB 5) (@GE.sc _ _ _ _ _ _ _ (aB 3)) (by rfl) (by rfl) (by trivial) (by decide) (by decide) (by rfl) (by rfl) (by rfl) (by rfl) (by rfl) (by rfl) (by rfl)))))) (by rfl) (by intro _;rfl) (by trivial)) (@aL _ _ _ _ _ _ _ (@aW _ _ _ _ _ _ _ _ (@jM _ _ _ _ _ _ _ 2 (by rfl) (by trivial) (by rfl) (by decide) (by decide)))))
theorem aBa {fd:FuncData}(aGv:Cal P w K mg base "_law_ratio" 3 ["shares","weights","hand"] fY false 3) (aGr:Cal P w K mg base "_law_less" 1 ["one","other"] dE false 3) (aGo:mg "len" = none) (aGn:mg "range" = none) (Fu:Fun K "_law_rising" "_law_rising" qD f fd):
  FnOk P w K mg base CX0 4 f fd ["shares","weights"] (spT K mT true 3):=
 gfn Fu tH rfl (by decide) (fun ts t h=>bI h) (fun cdv A outer s H E hr=>@UW _ _ _ _ _ _ aGv aGr aGo aGn cdv A outer s H E hr) (fun ts t h=>bJ h)
abbrev pV:Stmt:=top 53
theorem tD:FnScope ["shares","weights","nested","steps","ahead","hand","own"] ["shares","weights","nested"] (defScope pV):=⟨rfl,rfl,rfl,by decide +kernel,rfl,by decide +kernel,by decide +kernel⟩
def pE:Rho->Option Out:=
 aH (aJ 6 (f1 (aI (aC (aA 0) (aC (aA 1) (aC (aA 5) aF))) fY) aN))
  (aH (rIf (eO (fT (aA 3)) (fB (f2 (f2 (f2 (aA 3) (f1 (fC (.int 1)) dJ) oIx) (fC (.int 1)) oIx) (aA 6) oEq))) (cY 3 (f1 (fC (.int 1)) dJ) (bP (aC (f2 (f2 (f2 (aA 3) (f1 (fC (.int 1)) dJ) oIx) (fC (.int 0)) oIx) (f2 (fC (.int 1)) (aA 5) cX) oOr) (aC (f1 (aA 6) aN) aF)))) (sJ 3 (bP (aC (f2 (f2 (aA 4) (aI (aC (aA 2) aF) DA) bD) (f2 (fC (.int 1)) (aA 5) cX) oOr) (aC (f1 (aA 6) aN) aF)))))
  (aJ 4 (f2 (aA 4) (f2 (fC (.int 1)) (aA 5) cX) oOr)))
def vQ:Rho->Option Out:=
 aH (fP 3 (cO aF))
  (aH (aJ 4 (fC (.int 0)))
  (aH (dL 5 (fFL (aI (aC (aA 0) (aC (aA 1) aF)) mT))
  pE)
  (aH (cY 3 (f1 (fC (.int 1)) dJ) (bP (aC (f1 (aA 4) aN) (aC (f1 (f2 (f2 (aA 3) (f1 (fC (.int 1)) dJ) oIx) (fC (.int 1)) oIx) aN) aF))))
  (aV (gB 3)))))
def jY:List T->Option T:=Fof 3 4 vQ
theorem OF (t0 t1 t2:T):jY [t0,t1,t2]=(vQ [some t0,some t1,some t2,none,none,none,none]).bind bC:=rfl
theorem UO (aHj:Cal P w K mg base "_law_rising" 4 ["shares","weights"] mT true 3) (aGv:Cal P w K mg base "_law_ratio" 3 ["shares","weights","hand"] fY false 3) (aIc:mg "int" = none) (cdv:Value) (A:Around) (outer:List Env) (s:Shared) (H:Hp) (E:XK)
  (hr:Room 4 (A.deeper (envOfC "_law_levels" (defScope pV) s.heap.objs.size f cdv))):
  GSs (bA CX0 P w K mg base ["shares","weights","nested","steps","ahead","hand","own"] "_law_levels" (defScope pV) f cdv A outer s H E).nox H [1,1,1,0,1,1,1] true 3 (defBody pV) vQ:=by
 have hu:=hr.units;unfold vQ pE;exact @aK _ _ _ _ _ _ _ _ _ (@rX _ _ _ _ _ _ _ _ _ _ _ 3 (@eB _ _ _ _ _ _ _ aG) tD.nd (by rfl) (Or.inl (by rfl)) (by rfl) (by rfl) (by trivial)) (@aK _ _ _ _ _ _ _ _ _ (@aR _ _ _ _ _ _ _ _ _ _ _ _ 4 aE tD.nd (by rfl) (Or.inl (by rfl)) (by rfl) (by rfl) (by trivial)) (@aK _ _ _ _ _ _ _ _ _ (@dZ _ _ _ _ _ _ _ _ _ 5 _ _ _ _ _ PassesOwn.never (by rfl) (eC (aO aHj (hr.mono (by decide)) (by rfl) (aD (aB 0) (aD (aB 1) aG)))) tD.nd (by rfl) (Or.inl (by rfl)) (@aK _ _ _ _ _ _ _ _ _ (@aR _ _ _ _ _ _ _ _ _ _ _ _ 6 (@GE.sc _ _ _ _ _ _ _ (aO aGv (hr.mono (by decide)) (by rfl) (aD (aB 0) (aD (aB 1) (aD (aB 5) aG))))) tD.nd (by rfl) (Or.inl (by rfl)) (by rfl) (by rfl) (by trivial)) (@aK _ _ _ _ _ _ _ _ _ (@bV _ _ _ _ _ _ _ _ _ _ _ _ (@GW.gt _ _ _ _ _ (@kN _ _ _ _ _ _ _ _ _ (@eE _ _ _ _ _ _ _ (aB 3) (by intro _;rfl)) (@sB _ _ _ _ _ _ (@bX _ _ _ _ _ _ _ _ _ _ _ _ hu (@aM _ _ _ _ _ _ _ _ _ _ _ _ (@aM _ _ _ _ _ _ _ _ _ _ _ _ (aB 3) (@gY _ _ _ _ _ _ _ _ aE) (by exact fun _ _=>rfl)) aE (by exact fun _ _=>rfl)) (aB 6))))) (@aL _ _ _ _ _ _ _ (@rW _ _ _ _ _ _ _ _ _ _ _ 3 _ _ _ _ _ _ (@dQ _ _ _ _ _ _ _ _ (aD (@xX _ _ _ _ _ _ _ _ _ _ _ _ (@aM _ _ _ _ _ _ _ _ _ _ _ _ (@aM _ _ _ _ _ _ _ _ _ _ _ _ (aB 3) (@gY _ _ _ _ _ _ _ _ aE) (by exact fun _ _=>rfl)) aE (by exact fun _ _=>rfl)) (@eM _ _ _ _ _ _ _ _ _ _ _ _ aE (aB 5))) (aD (@GE.sc _ _ _ _ _ _ _ (aB 6)) aG))) (@gY _ _ _ _ _ _ _ _ aE) (by rfl) (by rfl) (by trivial) (by decide) (by decide) (by intro _;rfl) (by rfl) (by rfl) (by rfl))) (@aL _ _ _ _ _ _ _ (@yD _ _ _ _ _ _ _ _ _ _ _ _ 3 _ _ (@dQ _ _ _ _ _ _ _ _ (aD (@xX _ _ _ _ _ _ _ _ _ _ _ _ (@cD _ _ _ _ _ _ _ _ _ _ _ _ (aB 4) (@XF _ _ _ _ _ _ _ _ _ _ (by rfl) (by rfl) aIc (aD (aB 2) aG) (by rfl) (by rfl))) (@eM _ _ _ _ _ _ _ _ _ _ _ _ aE (aB 5))) (aD (@GE.sc _ _ _ _ _ _ _ (aB 6)) aG))) (by rfl) (by rfl) (by trivial) (by decide) (by decide) (by rfl) (by rfl) (by rfl) (by rfl) (by rfl)))) (@aL _ _ _ _ _ _ _ (@aR _ _ _ _ _ _ _ _ _ _ _ _ 4 (@xX _ _ _ _ _ _ _ _ _ _ _ _ (aB 4) (@eM _ _ _ _ _ _ _ _ _ _ _ _ aE (aB 5))) tD.nd (by rfl) (Or.inl (by rfl)) (by rfl) (by rfl) (by trivial))))) (by rfl) (by intro _;rfl) (by trivial)) (@aK _ _ _ _ _ _ _ _ _ (@rW _ _ _ _ _ _ _ _ _ _ _ 3 _ _ _ _ _ _ (@dQ _ _ _ _ _ _ _ _ (aD (@GE.sc _ _ _ _ _ _ _ (aB 4)) (aD (@GE.sc _ _ _ _ _ _ _ (@aM _ _ _ _ _ _ _ _ _ _ _ _ (@aM _ _ _ _ _ _ _ _ _ _ _ _ (aB 3) (@gY _ _ _ _ _ _ _ _ aE) (by exact fun _ _=>rfl)) aE (by exact fun _ _=>rfl))) aG))) (@gY _ _ _ _ _ _ _ _ aE) (by rfl) (by rfl) (by trivial) (by decide) (by decide) (by intro _;rfl) (by rfl) (by rfl) (by rfl)) (@aL _ _ _ _ _ _ _ (@aW _ _ _ _ _ _ _ _ (@jM _ _ _ _ _ _ _ 3 (by rfl) (by trivial) (by rfl) (by decide) (by decide)))))))
theorem aB2 {fd:FuncData}(aHj:Cal P w K mg base "_law_rising" 4 ["shares","weights"] mT true 3) (aGv:Cal P w K mg base "_law_ratio" 3 ["shares","weights","hand"] fY false 3) (aIc:mg "int" = none) (Fu:Fun K "_law_levels" "_law_levels" pV f fd):
  FnOk P w K mg base CX0 5 f fd ["shares","weights","nested"] (spT K jY true 3):=
 gfn Fu tD rfl (by decide) (fun ts t h=>bI h) (fun cdv A outer s H E hr=>@UO _ _ _ _ _ _ aHj aGv aIc cdv A outer s H E hr) (fun ts t h=>bJ h)
abbrev pL:Stmt:=top 48
theorem AC:FnScope ["steps","weights","shares","hand","own"] ["steps","weights"] (defScope pL):=⟨rfl,rfl,rfl,by decide +kernel,rfl,by decide +kernel,by decide +kernel⟩
def vI:Rho->Option Bool:=
 fB (f2 (f2 (f2 (f2 (aA 0) (fC (.int 0)) oIx) (aA 1) jQ) (fC (.int 1)) fN) (fC (.int 1)) oEq)
def vH:Rho->Option T:=
 f1 (f2 (aA 0) (fC (.int 1)) oIx) aN
def zF:Rho->Option Out:=
 aH (aJ 4 (f1 (f2 (cE (fFL (aA 0)) [none,some 3] vI vH) (fC (.int 0)) oIx) aN))
  (sJ 2 (f1 (aI (aC (f2 (f2 (aA 1) (aA 3) oIx) (f2 (aA 4) (fC (.int 0)) oIx) bD) (aC (f2 (aA 4) (fC (.int 1)) oIx) aF)) cR) aN))
def vG:Rho->Option Out:=
 aH (fP 2 (cO aF))
  (aH (dL 3 (cH (aC (aI (aC (aA 1) aF) bS) aF) cK)
  zF)
  (aV (gB 2)))
def fU:List T->Option T:=Fof 2 3 vG
theorem NY (t0 t1:T):fU [t0,t1]=(vG [some t0,some t1,none,none,none]).bind bC:=rfl
theorem UE (aGp:Cal P w K mg base "_law_fraction" 2 ["top","bottom"] cR false 3) (aGo:mg "len" = none) (aGn:mg "range" = none) (cdv:Value) (A:Around) (outer:List Env) (s:Shared) (H:Hp) (E:XK)
  (hr:Room 2 (A.deeper (envOfC "_law_fair" (defScope pL) s.heap.objs.size f cdv))):
  GSs (bA CX0 P w K mg base ["steps","weights","shares","hand","own"] "_law_fair" (defScope pL) f cdv A outer s H E).nox H [1,1,0,1,1] true 3 (defBody pL) vG:=by
 have hu:=hr.units;unfold vG zF vH vI;exact @aK _ _ _ _ _ _ _ _ _ (@rX _ _ _ _ _ _ _ _ _ _ _ 2 (@eB _ _ _ _ _ _ _ aG) AC.nd (by rfl) (Or.inl (by rfl)) (by rfl) (by rfl) (by trivial)) (@aK _ _ _ _ _ _ _ _ _ (@dZ _ _ _ _ _ _ _ _ _ 3 _ _ _ _ _ PassesOwn.never (by rfl) (dI (by rfl) (by rfl) aGn (aD (cJ (by rfl) (by rfl) aGo (aD (aB 1) aG)) aG)) AC.nd (by rfl) (Or.inr (by rfl)) (@aK _ _ _ _ _ _ _ _ _ (@aR _ _ _ _ _ _ _ _ _ _ _ _ 4 (@GE.sc _ _ _ _ _ _ _ (@aM _ _ _ _ _ _ _ _ _ _ _ _ (@fJ _ _ _ _ _ _ _ _ _ _ _ _ _ _ _ _ _ _ _ _ (cV (by kernel_rfl) (N':=[ "step" ,"hand" ]) (src:=[ none ,some 3 ])) (eA (by kernel_rfl) (fl':=[ 2 ,1 ])) (by decide) (by rfl) (eC (aB 0)) (by rfl) (by rfl) (fun cl C s H ex=>⟨@xY _ _ _ _ _ (@bX _ _ _ _ _ _ _ _ _ _ _ _ hu (@jK _ _ _ _ _ _ _ _ _ _ _ _ (@uD _ _ _ _ _ _ _ _ _ _ _ _ (@aM _ _ _ _ _ _ _ _ _ _ _ _ (aB 0) aE (by exact fun _ _=>rfl)) (aB 1)) aE) aE),@GE.sc _ _ _ _ _ _ _ (@aM _ _ _ _ _ _ _ _ _ _ _ _ (aB 0) aE (by exact fun _ _=>rfl))⟩) (by intro _;rfl)) aE (by exact fun _ _=>rfl))) AC.nd (by rfl) (Or.inl (by rfl)) (by rfl) (by rfl) (by trivial)) (@aL _ _ _ _ _ _ _ (@yD _ _ _ _ _ _ _ _ _ _ _ _ 2 _ _ (@GE.sc _ _ _ _ _ _ _ (aO aGp (hr.mono (by decide)) (by rfl) (aD (@cD _ _ _ _ _ _ _ _ _ _ _ _ (@aM _ _ _ _ _ _ _ _ _ _ _ _ (aB 1) (aB 3) (by exact fun _ _=>rfl)) (@aM _ _ _ _ _ _ _ _ _ _ _ _ (aB 4) aE (by exact fun _ _=>rfl))) (aD (@aM _ _ _ _ _ _ _ _ _ _ _ _ (aB 4) aE (by exact fun _ _=>rfl)) aG)))) (by rfl) (by rfl) (by trivial) (by decide) (by decide) (by rfl) (by rfl) (by rfl) (by rfl) (by rfl)))) (by rfl) (by intro _;rfl) (by trivial)) (@aL _ _ _ _ _ _ _ (@aW _ _ _ _ _ _ _ _ (@jM _ _ _ _ _ _ _ 2 (by rfl) (by trivial) (by rfl) (by decide) (by decide)))))
theorem aAs {fd:FuncData}(aGp:Cal P w K mg base "_law_fraction" 2 ["top","bottom"] cR false 3) (aGo:mg "len" = none) (aGn:mg "range" = none) (Fu:Fun K "_law_fair" "_law_fair" pL f fd):
  FnOk P w K mg base CX0 3 f fd ["steps","weights"] (spT K fU true 3):=
 gfn Fu AC rfl (by decide) (fun ts t h=>bI h) (fun cdv A outer s H E hr=>@UE _ _ _ _ _ _ aGp aGo aGn cdv A outer s H E hr) (fun ts t h=>bJ h)
abbrev pI:Stmt:=top 55
theorem eR:FnScope ["script","hands","which","weights","table","whole","order","shares","steps","part"] ["script","hands","which"] (defScope pI):=⟨rfl,rfl,rfl,by decide +kernel,rfl,by decide +kernel,by decide +kernel⟩
def vC:Rho->Option T:=
 f2 (aA 0) (f2 (f2 (f2 (aI (aC (aA 1) (aC (fC (.int 147)) aF)) aT) (fC (.int 5)) aY) (fC (.int 9)) aS) (fC (.int 4)) cQ) bD
def vD:Rho->Option T:=
 f2 (f2 (f2 (aI (aC (aA 1) (aC (f2 (fC (.int 150)) (aA 0) cA) aF)) aT) (fC (.int 7)) aY) (fC (.int 9)) aS) (fC (.int 4)) cQ
def sQ:Rho->Option T:=
 bP (aC (f1 (aA 0) aN) (aC (fC (.int 1)) aF))
def sP:Rho->Option Out:=
 aH (aJ 3 (aI (aC (aA 0) (aC (aA 1) aF)) kD))
  (aH (aJ 4 (aI (aC (aA 0) (aC (aA 1) aF)) fV))
  (aH (rIf (eO (fB (f2 (aA 2) (fC (.int 1)) oGt)) (eO (fB (f2 (aA 2) (fC (.int 5)) oLt)) (fB (f2 (f2 (f2 (aI (aC (aA 0) (aC (fC (.int 145)) aF)) aT) (fC (.int 3)) aY) (fC (.int 2)) aS) (fC (.int 1)) oEq)))) (aJ 4 (aI (aC (aA 0) (aC (aA 1) aF)) jV)) aQ)
  (aH (rIf (fB (f2 (aA 2) (fC (.int 1)) oEq)) (aJ 4 (aI (aC (cE (fFL (aA 3)) [none,some 0] bE vC) aF) gJ)) aQ)
  (aH (rIf (fB (f2 (aA 2) (fC (.int 5)) oEq)) (aJ 4 (aI (aC (cE (cH (aC (aA 1) aF) cK) [none,some 0] bE vD) aF) gJ)) aQ)
  (aH (aJ 5 (cO (aC (bP (aC (f2 (aI (aC (aA 4) aF) bS) (fC (.int 1)) cQ) (aC (f1 (aI (aC (f2 (aA 4) (f1 (fC (.int 1)) dJ) oIx) (aC (aI (aC (aA 3) aF) pA) aF)) cR) aN) aF))) aF)))
  (aH (aJ 6 (aI (aC (aA 0) (aC (fC (.int 60)) (aC (aA 1) aF))) jF))
  (aH (aJ 7 (cE (fFL (aI (aC (aA 4) (aC (aA 6) aF)) kB)) [none] bE sQ))
  (aH (aJ 8 (aA 5))
  (aH (rIf (pOr (fB (f2 (aA 2) (fC (.int 0)) oEq)) (fB (f2 (aA 2) (fC (.int 6)) oEq))) (aJ 8 (aI (aC (aA 4) (aC (aA 3) aF)) kA)) aQ)
  (aH (rIf (fB (f2 (aA 2) (fC (.int 1)) oEq)) (aH (aJ 9 (f2 (f2 (aI (aC (aA 0) (aC (fC (.int 148)) aF)) aT) (fC (.int 3)) aY) (aI (aC (aA 4) aF) bS) aS))
  (rIf (eO (fB (f2 (aA 9) (fC (.int 0)) oGt)) (fB (f2 (aA 9) (f2 (aI (aC (aA 4) aF) bS) (fC (.int 1)) cQ) oLt))) (aJ 8 (f1 (f2 (cO (aC (bP (aC (f1 (aA 9) aN) (aC (f1 (f2 (f2 (aA 5) (fC (.int 0)) oIx) (fC (.int 1)) oIx) aN) aF))) aF)) (aA 5) gF) dB)) aQ)) aQ)
  (aH (rIf (pOr (fB (f2 (aA 2) (fC (.int 3)) oEq)) (fB (f2 (aA 2) (fC (.int 5)) oEq))) (aJ 8 (aI (aC (aA 7) (aC (aA 3) (aC (f2 (aA 2) (fC (.int 3)) oEq) aF))) jY)) aQ)
  (aH (rIf (fB (f2 (aA 2) (bP (aC (fC (.int 0)) (aC (fC (.int 1)) (aC (fC (.int 4)) (aC (fC (.int 6)) aF))))) oIn)) (aJ 7 (aI (aC (aA 8) (aC (aA 3) aF)) fU)) aQ)
  (aV (cO (aC (aA 4) (aC (aA 3) (aC (aA 7) (aC (f1 (aI (aC (aA 8) aF) fE) dB) aF))))))))))))))))))
def jW:List T->Option T:=Fof 3 7 sP
theorem mP (t0 t1 t2:T):jW [t0,t1,t2]=(sP [some t0,some t1,some t2,none,none,none,none,none,none,none]).bind bC:=rfl
theorem UB (aHf:Cal P w K mg base "_law_weights" 2 ["script","hands"] kD true 3) (aGu:Cal P w K mg base "_law_falling" 3 ["script","hands"] fV true 3) (aGm:Cal P w K mg base "_law_mixed" 1 ["script","k"] aT false 3) (aH6:Cal P w K mg base "_law_any_table" 4 ["script","hands"] jV true 3) (aHm:Cal P w K mg base "_law_flat" 2 ["row"] gJ true 3) (aGp:Cal P w K mg base "_law_fraction" 2 ["top","bottom"] cR false 3) (aHo:Cal P w K mg base "_law_order" 2 ["script","k","hands"] jF true 3) (aHq:Cal P w K mg base "_law_taken" 1 ["table","order"] kB true 3) (aHp:Cal P w K mg base "_law_steps" 4 ["table","weights"] kA true 3) (aHi:Cal P w K mg base "_law_levels" 5 ["shares","weights","nested"] jY true 3) (aGz:Cal P w K mg base "_law_fair" 3 ["steps","weights"] fU true 3) (aGn:mg "range" = none) (aGo:mg "len" = none) (aHh:mg "sum" = none) (aHg:mg "list" = none) (cdv:Value) (A:Around) (outer:List Env) (s:Shared) (H:Hp) (E:XK)
  (hr:Room 5 (A.deeper (envOfC "_law_case" (defScope pI) s.heap.objs.size f cdv))):
  GSs (bA CX0 P w K mg base ["script","hands","which","weights","table","whole","order","shares","steps","part"] "_law_case" (defScope pI) f cdv A outer s H E).nox H [1,1,1,2,2,1,1,2,1,1] true 3 (defBody pI) sP:=by
 have hu:=hr.units;unfold sP sQ vD vC;exact @aK _ _ _ _ _ _ _ _ _ (@aR _ _ _ _ _ _ _ _ _ _ _ _ 3 (aO aHf (hr.mono (by decide)) (by rfl) (aD (aB 0) (aD (aB 1) aG))) eR.nd (by rfl) (Or.inl (by rfl)) (by rfl) (by rfl) (by trivial)) (@aK _ _ _ _ _ _ _ _ _ (@aR _ _ _ _ _ _ _ _ _ _ _ _ 4 (aO aGu (hr.mono (by decide)) (by rfl) (aD (aB 0) (aD (aB 1) aG))) eR.nd (by rfl) (Or.inl (by rfl)) (by rfl) (by rfl) (by trivial)) (@aK _ _ _ _ _ _ _ _ _ (@bV _ _ _ _ _ _ _ _ _ _ _ _ (@GW.gt _ _ _ _ _ (@kN _ _ _ _ _ _ _ _ _ (@rZ _ _ _ _ _ _ _ _ _ _ _ _ (aB 2) aE) (@kN _ _ _ _ _ _ _ _ _ (@uG _ _ _ _ _ _ _ _ _ _ _ _ (aB 2) aE) (@sB _ _ _ _ _ _ (@bX _ _ _ _ _ _ _ _ _ _ _ _ hu (@bO _ _ _ _ _ _ _ _ _ _ _ _ (@cC _ _ _ _ _ _ _ _ _ _ _ _ (aO aGm (hr.mono (by decide)) (by rfl) (aD (aB 0) (aD aE aG))) aE) aE) aE))))) (@aL _ _ _ _ _ _ _ (@aR _ _ _ _ _ _ _ _ _ _ _ _ 4 (aO aH6 (hr.mono (by decide)) (by rfl) (aD (aB 0) (aD (aB 1) aG))) eR.nd (by rfl) (Or.inl (by rfl)) (by rfl) (by rfl) (by trivial))) bW) (@aK _ _ _ _ _ _ _ _ _ (@bV _ _ _ _ _ _ _ _ _ _ _ _ (@bX _ _ _ _ _ _ _ _ _ _ _ _ hu (aB 2) aE) (@aL _ _ _ _ _ _ _ (@aR _ _ _ _ _ _ _ _ _ _ _ _ 4 (aO aHm (hr.mono (by decide)) (by rfl) (aD (@fJ _ _ _ _ _ _ _ _ _ _ _ _ _ _ _ _ _ _ _ _ (cV (by kernel_rfl) (N':=[ "weight" ,"script" ]) (src:=[ none ,some 0 ])) (eA (by kernel_rfl) (fl':=[ 2 ,1 ])) (by decide) (by rfl) (eC (aB 3)) (by rfl) (by rfl) (fun cl C s H ex=>⟨dY,@cD _ _ _ _ _ _ _ _ _ _ _ _ (aB 0) (@dH _ _ _ _ _ _ _ _ _ _ _ _ (@bO _ _ _ _ _ _ _ _ _ _ _ _ (@cC _ _ _ _ _ _ _ _ _ _ _ _ (aO aGm (hr.mono (by decide)) (by rfl) (aD (aB 1) (aD aE aG))) aE) aE) aE)⟩) (by intro _;rfl)) aG)) eR.nd (by rfl) (Or.inl (by rfl)) (by rfl) (by rfl) (by trivial))) bW) (@aK _ _ _ _ _ _ _ _ _ (@bV _ _ _ _ _ _ _ _ _ _ _ _ (@bX _ _ _ _ _ _ _ _ _ _ _ _ hu (aB 2) aE) (@aL _ _ _ _ _ _ _ (@aR _ _ _ _ _ _ _ _ _ _ _ _ 4 (aO aHm (hr.mono (by decide)) (by rfl) (aD (@fJ _ _ _ _ _ _ _ _ _ _ _ _ _ _ _ _ _ _ _ _ (cV (by kernel_rfl) (N':=[ "hand" ,"script" ]) (src:=[ none ,some 0 ])) (eA (by kernel_rfl) (fl':=[ 2 ,1 ])) (by decide) (by rfl) (dI (by rfl) (by rfl) aGn (aD (aB 1) aG)) (by rfl) (by rfl) (fun cl C s H ex=>⟨dY,@dH _ _ _ _ _ _ _ _ _ _ _ _ (@bO _ _ _ _ _ _ _ _ _ _ _ _ (@cC _ _ _ _ _ _ _ _ _ _ _ _ (aO aGm (hr.mono (by decide)) (by rfl) (aD (aB 1) (aD (@cI _ _ _ _ _ _ _ _ _ _ _ _ aE (aB 0)) aG))) aE) aE) aE⟩) (by intro _;rfl)) aG)) eR.nd (by rfl) (Or.inl (by rfl)) (by rfl) (by rfl) (by trivial))) bW) (@aK _ _ _ _ _ _ _ _ _ (@aR _ _ _ _ _ _ _ _ _ _ _ _ 5 (@eB _ _ _ _ _ _ _ (aD (@dQ _ _ _ _ _ _ _ _ (aD (@dH _ _ _ _ _ _ _ _ _ _ _ _ (cJ (by rfl) (by rfl) aGo (aD (aB 4) aG)) aE) (aD (@GE.sc _ _ _ _ _ _ _ (aO aGp (hr.mono (by decide)) (by rfl) (aD (@aM _ _ _ _ _ _ _ _ _ _ _ _ (aB 4) (@gY _ _ _ _ _ _ _ _ aE) (by exact fun _ _=>rfl)) (aD (CH (by rfl) (by rfl) (by rfl) aHh (aD (aB 3) aG)) aG)))) aG))) aG)) eR.nd (by rfl) (Or.inl (by rfl)) (by rfl) (by rfl) (by trivial)) (@aK _ _ _ _ _ _ _ _ _ (@aR _ _ _ _ _ _ _ _ _ _ _ _ 6 (aO aHo (hr.mono (by decide)) (by rfl) (aD (aB 0) (aD aE (aD (aB 1) aG)))) eR.nd (by rfl) (Or.inl (by rfl)) (by rfl) (by rfl) (by trivial)) (@aK _ _ _ _ _ _ _ _ _ (@XW _ _ _ _ _ _ _ _ _ _ _ _ _ _ _ _ _ _ _ _ _ _ _ _ _ 7 (cV (by kernel_rfl) (N':=[ "share" ]) (src:=[ none ])) (eA (by kernel_rfl) (fl':=[ 2 ])) (by rfl) (eC (aO aHq (hr.mono (by decide)) (by rfl) (aD (aB 4) (aD (aB 6) aG)))) (by rfl) (by rfl) (fun cl C s H ex=>⟨dY,@dQ _ _ _ _ _ _ _ _ (aD (@GE.sc _ _ _ _ _ _ _ (aB 0)) (aD aE aG))⟩) eR.nd (by rfl) (Or.inl (by rfl)) (by rfl) (by rfl) (by intro _;rfl) (by trivial)) (@aK _ _ _ _ _ _ _ _ _ (@aR _ _ _ _ _ _ _ _ _ _ _ _ 8 (aB 5) eR.nd (by rfl) (Or.inl (by rfl)) (by rfl) (by rfl) (by trivial)) (@aK _ _ _ _ _ _ _ _ _ (@bV _ _ _ _ _ _ _ _ _ _ _ _ (@GW.gt _ _ _ _ _ (@kO _ _ _ _ _ _ _ _ _ (@bX _ _ _ _ _ _ _ _ _ _ _ _ hu (aB 2) aE) (@kP _ _ _ _ _ _ (@bX _ _ _ _ _ _ _ _ _ _ _ _ hu (aB 2) aE)))) (@aL _ _ _ _ _ _ _ (@aR _ _ _ _ _ _ _ _ _ _ _ _ 8 (aO aHp (hr.mono (by decide)) (by rfl) (aD (aB 4) (aD (aB 3) aG))) eR.nd (by rfl) (Or.inl (by rfl)) (by rfl) (by rfl) (by trivial))) bW) (@aK _ _ _ _ _ _ _ _ _ (@bV _ _ _ _ _ _ _ _ _ _ _ _ (@bX _ _ _ _ _ _ _ _ _ _ _ _ hu (aB 2) aE) (@aK _ _ _ _ _ _ _ _ _ (@aR _ _ _ _ _ _ _ _ _ _ _ _ 9 (@bO _ _ _ _ _ _ _ _ _ _ _ _ (@cC _ _ _ _ _ _ _ _ _ _ _ _ (aO aGm (hr.mono (by decide)) (by rfl) (aD (aB 0) (aD aE aG))) aE) (cJ (by rfl) (by rfl) aGo (aD (aB 4) aG))) eR.nd (by rfl) (Or.inl (by rfl)) (by rfl) (by rfl) (by trivial)) (@aL _ _ _ _ _ _ _ (@bV _ _ _ _ _ _ _ _ _ _ _ _ (@GW.gt _ _ _ _ _ (@kN _ _ _ _ _ _ _ _ _ (@rZ _ _ _ _ _ _ _ _ _ _ _ _ (aB 9) aE) (@sB _ _ _ _ _ _ (@uG _ _ _ _ _ _ _ _ _ _ _ _ (aB 9) (@dH _ _ _ _ _ _ _ _ _ _ _ _ (cJ (by rfl) (by rfl) aGo (aD (aB 4) aG)) aE))))) (@aL _ _ _ _ _ _ _ (@aR _ _ _ _ _ _ _ _ _ _ _ _ 8 (@GE.flt _ _ _ _ _ _ (@CD _ _ _ _ _ _ _ _ _ _ _ _ (@eB _ _ _ _ _ _ _ (aD (@dQ _ _ _ _ _ _ _ _ (aD (@GE.sc _ _ _ _ _ _ _ (aB 9)) (aD (@GE.sc _ _ _ _ _ _ _ (@aM _ _ _ _ _ _ _ _ _ _ _ _ (@aM _ _ _ _ _ _ _ _ _ _ _ _ (aB 5) aE (by exact fun _ _=>rfl)) aE (by exact fun _ _=>rfl))) aG))) aG)) (aB 5))) eR.nd (by rfl) (Or.inl (by rfl)) (by rfl) (by rfl) (by trivial))) bW))) bW) (@aK _ _ _ _ _ _ _ _ _ (@bV _ _ _ _ _ _ _ _ _ _ _ _ (@GW.gt _ _ _ _ _ (@kO _ _ _ _ _ _ _ _ _ (@bX _ _ _ _ _ _ _ _ _ _ _ _ hu (aB 2) aE) (@kP _ _ _ _ _ _ (@bX _ _ _ _ _ _ _ _ _ _ _ _ hu (aB 2) aE)))) (@aL _ _ _ _ _ _ _ (@aR _ _ _ _ _ _ _ _ _ _ _ _ 8 (aO aHi (hr.mono (by decide)) (by rfl) (aD (aB 7) (aD (aB 3) (aD (@fK _ _ _ _ _ _ _ _ _ _ _ _ hu (aB 2) aE) aG)))) eR.nd (by rfl) (Or.inl (by rfl)) (by rfl) (by rfl) (by trivial))) bW) (@aK _ _ _ _ _ _ _ _ _ (@bV _ _ _ _ _ _ _ _ _ _ _ _ (@IX _ _ _ _ _ _ _ _ _ _ _ _ (aB 2) (@dQ _ _ _ _ _ _ _ _ (aD aE (aD aE (aD aE (aD aE aG))))) (by rfl)) (@aL _ _ _ _ _ _ _ (@aR _ _ _ _ _ _ _ _ _ _ _ _ 7 (aO aGz (hr.mono (by decide)) (by rfl) (aD (aB 8) (aD (aB 3) aG))) eR.nd (by rfl) (Or.inl (by rfl)) (by rfl) (by rfl) (by trivial))) bW) (@aL _ _ _ _ _ _ _ (@aW _ _ _ _ _ _ _ _ (@bB _ _ _ _ _ _ _ _ _ (@eB _ _ _ _ _ _ _ (aD (aB 4) (aD (aB 3) (aD (aB 7) (aD (@GE.flt _ _ _ _ _ _ (uC (by rfl) (by rfl) aHg (aD (aB 8) aG))) aG))))) (by rfl))))))))))))))))
theorem aAp {fd:FuncData}(aHf:Cal P w K mg base "_law_weights" 2 ["script","hands"] kD true 3) (aGu:Cal P w K mg base "_law_falling" 3 ["script","hands"] fV true 3) (aGm:Cal P w K mg base "_law_mixed" 1 ["script","k"] aT false 3) (aH6:Cal P w K mg base "_law_any_table" 4 ["script","hands"] jV true 3) (aHm:Cal P w K mg base "_law_flat" 2 ["row"] gJ true 3) (aGp:Cal P w K mg base "_law_fraction" 2 ["top","bottom"] cR false 3) (aHo:Cal P w K mg base "_law_order" 2 ["script","k","hands"] jF true 3) (aHq:Cal P w K mg base "_law_taken" 1 ["table","order"] kB true 3) (aHp:Cal P w K mg base "_law_steps" 4 ["table","weights"] kA true 3) (aHi:Cal P w K mg base "_law_levels" 5 ["shares","weights","nested"] jY true 3) (aGz:Cal P w K mg base "_law_fair" 3 ["steps","weights"] fU true 3) (aGn:mg "range" = none) (aGo:mg "len" = none) (aHh:mg "sum" = none) (aHg:mg "list" = none) (Fu:Fun K "_law_case" "_law_case" pI f fd):
  FnOk P w K mg base CX0 6 f fd ["script","hands","which"] (spT K jW true 3):=
 gfn Fu eR rfl (by decide) (fun ts t h=>bI h) (fun cdv A outer s H E hr=>@UB _ _ _ _ _ _ aHf aGu aGm aH6 aHm aGp aHo aHq aHp aHi aGz aGn aGo aHh aHg cdv A outer s H E hr) (fun ts t h=>bJ h)
abbrev qB:Stmt:=top 43
theorem aEf:FnScope ["one","other"] ["one","other"] (defScope qB):=⟨rfl,rfl,rfl,by decide +kernel,rfl,by decide +kernel,by decide +kernel⟩
def sT:Rho->Option Out:=
 aV (f1 (aI (aC (f2 (f2 (f2 (aA 0) (fC (.int 0)) oIx) (f2 (aA 1) (fC (.int 1)) oIx) bD) (f2 (f2 (aA 1) (fC (.int 0)) oIx) (f2 (aA 0) (fC (.int 1)) oIx) bD) cA) (aC (f2 (f2 (aA 0) (fC (.int 1)) oIx) (f2 (aA 1) (fC (.int 1)) oIx) bD) aF)) cR) aN)
def eU:List T->Option T:=Fof 2 0 sT
theorem EV (t0 t1:T):eU [t0,t1]=(sT [some t0,some t1]).bind bC:=rfl
theorem UU (aGp:Cal P w K mg base "_law_fraction" 2 ["top","bottom"] cR false 3) (cdv:Value) (A:Around) (outer:List Env) (s:Shared) (H:Hp) (E:XK)
  (hr:Room 2 (A.deeper (envOfC "_law_plus" (defScope qB) s.heap.objs.size f cdv))):
  GSs (bA CX0 P w K mg base ["one","other"] "_law_plus" (defScope qB) f cdv A outer s H E).nox H [1,1] false 3 (defBody qB) sT:=by
 have hu:=hr.units;unfold sT;exact @aL _ _ _ _ _ _ _ (@aW _ _ _ _ _ _ _ _ (@bB _ _ _ _ _ _ _ _ _ (@GE.sc _ _ _ _ _ _ _ (aO aGp (hr.mono (by decide)) (by rfl) (aD (@cI _ _ _ _ _ _ _ _ _ _ _ _ (@cD _ _ _ _ _ _ _ _ _ _ _ _ (@aM _ _ _ _ _ _ _ _ _ _ _ _ (aB 0) aE (by exact fun _ _=>rfl)) (@aM _ _ _ _ _ _ _ _ _ _ _ _ (aB 1) aE (by exact fun _ _=>rfl))) (@cD _ _ _ _ _ _ _ _ _ _ _ _ (@aM _ _ _ _ _ _ _ _ _ _ _ _ (aB 1) aE (by exact fun _ _=>rfl)) (@aM _ _ _ _ _ _ _ _ _ _ _ _ (aB 0) aE (by exact fun _ _=>rfl)))) (aD (@cD _ _ _ _ _ _ _ _ _ _ _ _ (@aM _ _ _ _ _ _ _ _ _ _ _ _ (aB 0) aE (by exact fun _ _=>rfl)) (@aM _ _ _ _ _ _ _ _ _ _ _ _ (aB 1) aE (by exact fun _ _=>rfl))) aG)))) (by rfl)))
theorem aB8 {fd:FuncData}(aGp:Cal P w K mg base "_law_fraction" 2 ["top","bottom"] cR false 3) (Fu:Fun K "_law_plus" "_law_plus" qB f fd):
  FnOk P w K mg base CX0 3 f fd ["one","other"] (spT K eU false 3):=
 gfn Fu aEf rfl (by decide) (fun ts t h=>bI h) (fun cdv A outer s H E hr=>@UU _ _ _ _ _ _ aGp cdv A outer s H E hr) (fun ts t h=>bJ h)
abbrev pJ:Stmt:=top 56
theorem rE:FnScope ["script","weights","shares","steps","way","at","hand","other","more","kept"] ["script","weights","shares","steps"] (defScope pJ):=⟨rfl,rfl,rfl,by decide +kernel,rfl,by decide +kernel,by decide +kernel⟩
def vE:Rho->Option Out:=
 aH (aJ 4 (f2 (f2 (aI (aC (aA 0) (aC (fC (.int 140)) aF)) aT) (fC (.int 3)) aY) (fC (.int 8)) aS))
  (aH (aJ 5 (f2 (f2 (aI (aC (aA 0) (aC (fC (.int 141)) aF)) aT) (fC (.int 5)) aY) (aI (aC (aA 3) aF) bS) aS))
  (aH (aJ 6 (f2 (f2 (aI (aC (aA 0) (aC (fC (.int 142)) aF)) aT) (fC (.int 7)) aY) (aI (aC (aA 2) aF) bS) aS))
  (aH (aJ 7 (f2 (f2 (aI (aC (aA 0) (aC (fC (.int 143)) aF)) aT) (fC (.int 3)) aY) (aI (aC (aA 2) aF) bS) aS))
  (aH (aJ 8 (f1 (f2 (cO (aC (bP (aC (fC (.int 1)) (aC (fC (.int 1)) aF))) (aC (bP (aC (f1 (fC (.int 1)) dJ) (aC (fC (.int 1)) aF))) (aC (bP (aC (fC (.int 1)) (aC (fC (.int 3)) aF))) (aC (bP (aC (f2 (fC (.int 10)) (fC (.int 50)) eF) (aC (fC (.int 1)) aF))) aF))))) (f2 (f2 (aI (aC (aA 0) (aC (fC (.int 144)) aF)) aT) (fC (.int 5)) aY) (fC (.int 4)) aS) oIx) aN))
  (aH (rIf (fB (f2 (aA 4) (fC (.int 0)) oEq)) (aH (yY 3)
  aQ) aQ)
  (aH (rIf (fB (f2 (aA 4) (fC (.int 1)) oEq)) (aH (cY 3 (aA 5) (bP (aC (f1 (f2 (f2 (aA 3) (aA 5) oIx) (fC (.int 0)) oIx) aN) (aC (f1 (aI (aC (f2 (f2 (aA 3) (aA 5) oIx) (fC (.int 1)) oIx) (aC (aA 8) aF)) eU) aN) aF))))
  aQ) aQ)
  (aH (rIf (fB (f2 (aA 4) (fC (.int 2)) oEq)) (aH (cY 3 (aA 5) (bP (aC (f2 (f2 (f2 (aA 3) (aA 5) oIx) (fC (.int 0)) oIx) (f2 (fC (.int 1)) (aA 6) cX) yR) (aC (f1 (f2 (f2 (aA 3) (aA 5) oIx) (fC (.int 1)) oIx) aN) aF))))
  aQ) aQ)
  (aH (rIf (fB (f2 (aA 4) (fC (.int 3)) oEq)) (aH (zA 3 (aA 5))
  aQ) aQ)
  (aH (rIf (fB (f2 (aA 4) (fC (.int 4)) oEq)) (aH (pC 3 (aA 5) (f1 (f2 (aA 3) (aA 5) oIx) aN))
  aQ) aQ)
  (aH (rIf (fB (f2 (aA 4) (fC (.int 5)) oEq)) (aH (cY 2 (aA 6) (f1 (aI (aC (f2 (aA 2) (aA 6) oIx) (aC (aA 8) aF)) eU) aN))
  aQ) aQ)
  (aH (rIf (fB (f2 (aA 4) (fC (.int 6)) oEq)) (aH (aJ 9 (f1 (f2 (aA 2) (aA 6) oIx) aN))
  (aH (cY 2 (aA 6) (f1 (f2 (aA 2) (aA 7) oIx) aN))
  (aH (cY 2 (aA 7) (f1 (aA 9) aN))
  aQ))) aQ)
  (aH (rIf (fB (f2 (aA 4) (fC (.int 7)) oEq)) (aH (cY 1 (aA 6) (f2 (f2 (aA 1) (aA 6) oIx) (fC (.int 1)) cA))
  aQ) aQ)
  aQ))))))))))))
def jD:List T->Option (List T):=tN 4 6 [1,2,3] vE
theorem NX (t0 t1 t2 t3:T):jD [t0,t1,t2,t3]=(vE [some t0,some t1,some t2,some t3,none,none,none,none,none,none]).bind fun o=>(match o with | .nx ρ=>fO ρ [1,2,3] | _=>none):=rfl
theorem UC (aGm:Cal P w K mg base "_law_mixed" 1 ["script","k"] aT false 3) (aGx:Cal P w K mg base "_law_plus" 3 ["one","other"] eU false 3) (aGo:mg "len" = none) (B:Hp) (ad:Nat->Addr) (cdv:Value) (A:Around) (outer:List Env) (s:Shared) (H:Hp) (E:XK)
  (hr:Room 3 (A.deeper (envOfC "_law_changed" (defScope pJ) s.heap.objs.size f cdv))):
  CB (bA CX0 P w K mg base ["script","weights","shares","steps","way","at","hand","other","more","kept"] "_law_changed" (defScope pJ) f cdv A outer s H E).nox B [1,0,0,0,1,1,1,1,1,1] (([1,2,3]:List Nat).map fun p=>(p,ad p)) (defBody pJ) vE:=by
 have hu:=hr.units;unfold vE;exact cM (rO 4 (@bO _ _ _ _ _ _ _ _ _ _ _ _ (@cC _ _ _ _ _ _ _ _ _ _ _ _ (aO aGm (hr.mono (by decide)) (by rfl) (aD (aB 0) (aD aE aG))) aE) aE) rE.nd (by rfl) (Or.inl (by rfl)) (by rfl) (by rfl)) (cM (rO 5 (@bO _ _ _ _ _ _ _ _ _ _ _ _ (@cC _ _ _ _ _ _ _ _ _ _ _ _ (aO aGm (hr.mono (by decide)) (by rfl) (aD (aB 0) (aD aE aG))) aE) (cJ (by rfl) (by rfl) aGo (aD (aB 3) aG))) rE.nd (by rfl) (Or.inl (by rfl)) (by rfl) (by rfl)) (cM (rO 6 (@bO _ _ _ _ _ _ _ _ _ _ _ _ (@cC _ _ _ _ _ _ _ _ _ _ _ _ (aO aGm (hr.mono (by decide)) (by rfl) (aD (aB 0) (aD aE aG))) aE) (cJ (by rfl) (by rfl) aGo (aD (aB 2) aG))) rE.nd (by rfl) (Or.inl (by rfl)) (by rfl) (by rfl)) (cM (rO 7 (@bO _ _ _ _ _ _ _ _ _ _ _ _ (@cC _ _ _ _ _ _ _ _ _ _ _ _ (aO aGm (hr.mono (by decide)) (by rfl) (aD (aB 0) (aD aE aG))) aE) (cJ (by rfl) (by rfl) aGo (aD (aB 2) aG))) rE.nd (by rfl) (Or.inl (by rfl)) (by rfl) (by rfl)) (cM (rO 8 (@GE.sc _ _ _ _ _ _ _ (@aM _ _ _ _ _ _ _ _ _ _ _ _ (@eB _ _ _ _ _ _ _ (aD (@dQ _ _ _ _ _ _ _ _ (aD aE (aD aE aG))) (aD (@dQ _ _ _ _ _ _ _ _ (aD (@gY _ _ _ _ _ _ _ _ aE) (aD aE aG))) (aD (@dQ _ _ _ _ _ _ _ _ (aD aE (aD aE aG))) (aD (@dQ _ _ _ _ _ _ _ _ (aD (@nQ _ _ _ _ _ _ _ _ _ _ _ _ aE aE) (aD aE aG))) aG))))) (@bO _ _ _ _ _ _ _ _ _ _ _ _ (@cC _ _ _ _ _ _ _ _ _ _ _ _ (aO aGm (hr.mono (by decide)) (by rfl) (aD (aB 0) (aD aE aG))) aE) aE) (by exact fun _ _=>rfl))) rE.nd (by rfl) (Or.inl (by rfl)) (by rfl) (by rfl)) (cM (kG (@bX _ _ _ _ _ _ _ _ _ _ _ _ hu (aB 4) aE) (cM (ST 3 (by rfl)) gW)) (cM (kG (@bX _ _ _ _ _ _ _ _ _ _ _ _ hu (aB 4) aE) (cM (rN 3 (@dQ _ _ _ _ _ _ _ _ (aD (@GE.sc _ _ _ _ _ _ _ (@aM _ _ _ _ _ _ _ _ _ _ _ _ (@aM _ _ _ _ _ _ _ _ _ _ _ _ (aB 3) (aB 5) (by exact fun _ _=>rfl)) aE (by exact fun _ _=>rfl))) (aD (@GE.sc _ _ _ _ _ _ _ (aO aGx (hr.mono (by decide)) (by rfl) (aD (@aM _ _ _ _ _ _ _ _ _ _ _ _ (@aM _ _ _ _ _ _ _ _ _ _ _ _ (aB 3) (aB 5) (by exact fun _ _=>rfl)) aE (by exact fun _ _=>rfl)) (aD (aB 8) aG)))) aG))) (aB 5) (by rfl)) gW)) (cM (kG (@bX _ _ _ _ _ _ _ _ _ _ _ _ hu (aB 4) aE) (cM (rN 3 (@dQ _ _ _ _ _ _ _ _ (aD (@XG _ _ _ _ _ _ _ _ _ _ _ _ (@aM _ _ _ _ _ _ _ _ _ _ _ _ (@aM _ _ _ _ _ _ _ _ _ _ _ _ (aB 3) (aB 5) (by exact fun _ _=>rfl)) aE (by exact fun _ _=>rfl)) (@eM _ _ _ _ _ _ _ _ _ _ _ _ aE (aB 6))) (aD (@GE.sc _ _ _ _ _ _ _ (@aM _ _ _ _ _ _ _ _ _ _ _ _ (@aM _ _ _ _ _ _ _ _ _ _ _ _ (aB 3) (aB 5) (by exact fun _ _=>rfl)) aE (by exact fun _ _=>rfl))) aG))) (aB 5) (by rfl)) gW)) (cM (kG (@bX _ _ _ _ _ _ _ _ _ _ _ _ hu (aB 4) aE) (cM (SV 3 (aB 5) (by rfl)) gW)) (cM (kG (@bX _ _ _ _ _ _ _ _ _ _ _ _ hu (aB 4) aE) (cM (SU 3 (aB 5) (@GE.sc _ _ _ _ _ _ _ (@aM _ _ _ _ _ _ _ _ _ _ _ _ (aB 3) (aB 5) (by exact fun _ _=>rfl))) (by rfl)) gW)) (cM (kG (@bX _ _ _ _ _ _ _ _ _ _ _ _ hu (aB 4) aE) (cM (rN 2 (@GE.sc _ _ _ _ _ _ _ (aO aGx (hr.mono (by decide)) (by rfl) (aD (@aM _ _ _ _ _ _ _ _ _ _ _ _ (aB 2) (aB 6) (by exact fun _ _=>rfl)) (aD (aB 8) aG)))) (aB 6) (by rfl)) gW)) (cM (kG (@bX _ _ _ _ _ _ _ _ _ _ _ _ hu (aB 4) aE) (cM (rO 9 (@GE.sc _ _ _ _ _ _ _ (@aM _ _ _ _ _ _ _ _ _ _ _ _ (aB 2) (aB 6) (by exact fun _ _=>rfl))) rE.nd (by rfl) (Or.inl (by rfl)) (by rfl) (by rfl)) (cM (rN 2 (@GE.sc _ _ _ _ _ _ _ (@aM _ _ _ _ _ _ _ _ _ _ _ _ (aB 2) (aB 7) (by exact fun _ _=>rfl))) (aB 6) (by rfl)) (cM (rN 2 (@GE.sc _ _ _ _ _ _ _ (aB 9)) (aB 7) (by rfl)) gW)))) (cM (kG (@bX _ _ _ _ _ _ _ _ _ _ _ _ hu (aB 4) aE) (cM (rN 1 (@cI _ _ _ _ _ _ _ _ _ _ _ _ (@aM _ _ _ _ _ _ _ _ _ _ _ _ (aB 1) (aB 6) (by exact fun _ _=>rfl)) aE) (aB 6) (by rfl)) gW)) gW))))))))))))
theorem aAq {fd:FuncData}(aGm:Cal P w K mg base "_law_mixed" 1 ["script","k"] aT false 3) (aGx:Cal P w K mg base "_law_plus" 3 ["one","other"] eU false 3) (aGo:mg "len" = none) (Fu:Fun K "_law_changed" "_law_changed" pJ f fd):
  FnOk P w K mg base CX0 4 f fd ["script","weights","shares","steps"] (AI [1,2,3] K jD):=
 XH [1,2,3] Fu rE rfl (by decide) (by decide) (by decide) (fun ts t h=>RE h) (fun B ad cdv A outer s H E hr=>@UC _ _ _ _ _ _ aGm aGx aGo B ad cdv A outer s H E hr) (fun ts rs h=>RF h)
abbrev qK:Stmt:=top 8
theorem aEh:FnScope ["table"] ["table"] (defScope qK):=⟨rfl,rfl,rfl,by decide +kernel,rfl,by decide +kernel,by decide +kernel⟩
def sV:Rho->Option Out:=
 aV (f2 (aI (aC (aA 0) aF) bS) (fC (.int 1)) cQ)
def fG:List T->Option T:=Fof 1 0 sV
theorem EX (t0:T):fG [t0]=(sV [some t0]).bind bC:=rfl
theorem VD (aGo:mg "len" = none) (cdv:Value) (A:Around) (outer:List Env) (s:Shared) (H:Hp) (E:XK)
  (hr:Room 0 (A.deeper (envOfC "everybody" (defScope qK) s.heap.objs.size f cdv))):
  GSs (bA CX0 P w K mg base ["table"] "everybody" (defScope qK) f cdv A outer s H E).nox H [1] false 3 (defBody qK) sV:=by
 have hu:=hr.units;unfold sV;exact @aL _ _ _ _ _ _ _ (@aW _ _ _ _ _ _ _ _ (@bB _ _ _ _ _ _ _ _ _ (@dH _ _ _ _ _ _ _ _ _ _ _ _ (cJ (by rfl) (by rfl) aGo (aD (aB 0) aG)) aE) (by rfl)))
theorem aBh {fd:FuncData}(aGo:mg "len" = none) (Fu:Fun K "everybody" "everybody" qK f fd):
  FnOk P w K mg base CX0 1 f fd ["table"] (spT K fG false 3):=
 gfn Fu aEh rfl (by decide) (fun ts t h=>bI h) (fun cdv A outer s H E hr=>@VD _ _ _ _ _ _ aGo cdv A outer s H E hr) (fun ts t h=>bJ h)
abbrev rD:Stmt:=top 5
theorem aEv:FnScope ["one","other"] ["one","other"] (defScope rD):=⟨rfl,rfl,rfl,by decide +kernel,rfl,by decide +kernel,by decide +kernel⟩
def sZ:Rho->Option Out:=
 aV (f2 (f2 (aA 0) (aA 1) fN) (aA 0) oEq)
def fZ:List T->Option T:=Fof 2 0 sZ
theorem FM (t0 t1:T):fZ [t0,t1]=(sZ [some t0,some t1]).bind bC:=rfl
theorem VY (cdv:Value) (A:Around) (outer:List Env) (s:Shared) (H:Hp) (E:XK)
  (hr:Room 0 (A.deeper (envOfC "within" (defScope rD) s.heap.objs.size f cdv))):
  GSs (bA CX0 P w K mg base ["one","other"] "within" (defScope rD) f cdv A outer s H E).nox H [1,1] false 3 (defBody rD) sZ:=by
 have hu:=hr.units;unfold sZ;exact @aL _ _ _ _ _ _ _ (@aW _ _ _ _ _ _ _ _ (@bB _ _ _ _ _ _ _ _ _ (@fK _ _ _ _ _ _ _ _ _ _ _ _ hu (@jK _ _ _ _ _ _ _ _ _ _ _ _ (aB 0) (aB 1)) (aB 0)) (by rfl)))
theorem aC1 {fd:FuncData}(Fu:Fun K "within" "within" rD f fd):
  FnOk P w K mg base CX0 1 f fd ["one","other"] (spT K fZ false 3):=
 gfn Fu aEv rfl (by decide) (fun ts t h=>bI h) (fun cdv A outer s H E hr=>@VY _ _ _ _ _ _  cdv A outer s H E hr) (fun ts t h=>bJ h)
abbrev qR:Stmt:=top 25
theorem xD:FnScope ["whole","steps","ahead","group","found"] ["whole","steps"] (defScope qR):=⟨rfl,rfl,rfl,by decide +kernel,rfl,by decide +kernel,by decide +kernel⟩
def sY:Rho->Option Out:=
 aH (rIf (pOr (fB (f2 (aA 3) (aA 2) oEq)) (eG (fT (aI (aC (aA 2) (aC (aA 3) aF)) fZ)))) (aV (fC (.bl false))) aQ)
  (aJ 2 (f1 (aA 3) aN))
def sX:Rho->Option Out:=
 aH (aJ 2 (fC (.int 0)))
  (aH (DN [3,4] (fFL (aA 1))
  sY)
  (aV (f2 (aA 2) (aA 0) oEq)))
def nD:List T->Option T:=Fof 2 3 sX
theorem FE (t0 t1:T):nD [t0,t1]=(sX [some t0,some t1,none,none,none]).bind bC:=rfl
theorem VL (aHd:Cal P w K mg base "within" 1 ["one","other"] fZ false 3) (cdv:Value) (A:Around) (outer:List Env) (s:Shared) (H:Hp) (E:XK)
  (hr:Room 1 (A.deeper (envOfC "groups_grow" (defScope qR) s.heap.objs.size f cdv))):
  GSs (bA CX0 P w K mg base ["whole","steps","ahead","group","found"] "groups_grow" (defScope qR) f cdv A outer s H E).nox H [1,1,1,1,1] false 3 (defBody qR) sX:=by
 have hu:=hr.units;unfold sX sY;exact @aK _ _ _ _ _ _ _ _ _ (@aR _ _ _ _ _ _ _ _ _ _ _ _ 2 aE xD.nd (by rfl) (Or.inl (by rfl)) (by rfl) (by rfl) (by trivial)) (@aK _ _ _ _ _ _ _ _ _ (@XU _ _ _ _ _ _ _ _ _ _ _ [3 ,4] _ _ _ _ _ PassesOwn.never (by rfl) (eC (aB 1)) (@eD _ _ _ _ _ _ xD.nd (by rfl) (Or.inl (by rfl)) (@eD _ _ _ _ _ _ xD.nd (by rfl) (Or.inl (by rfl)) (@nS _) (by trivial) (by rfl)) (by trivial) (by rfl)) (@aK _ _ _ _ _ _ _ _ _ (@bV _ _ _ _ _ _ _ _ _ _ _ _ (@GW.gt _ _ _ _ _ (@kO _ _ _ _ _ _ _ _ _ (@bX _ _ _ _ _ _ _ _ _ _ _ _ hu (aB 3) (aB 2)) (@kP _ _ _ _ _ _ (@gZ _ _ _ _ _ _ (@eE _ _ _ _ _ _ _ (aO aHd (hr.mono (by decide)) (by rfl) (aD (aB 2) (aD (aB 3) aG))) (by intro _;rfl)))))) (@aL _ _ _ _ _ _ _ (@aW _ _ _ _ _ _ _ _ (@bB _ _ _ _ _ _ _ _ _ jL (by rfl)))) bW) (@aL _ _ _ _ _ _ _ (@aR _ _ _ _ _ _ _ _ _ _ _ _ 2 (@GE.sc _ _ _ _ _ _ _ (aB 3)) xD.nd (by rfl) (Or.inl (by rfl)) (by rfl) (by rfl) (by trivial)))) (by rfl) (by rfl) (by rfl) (by rfl) (by rfl) (by intro _;rfl)) (@aL _ _ _ _ _ _ _ (@aW _ _ _ _ _ _ _ _ (@bB _ _ _ _ _ _ _ _ _ (@fK _ _ _ _ _ _ _ _ _ _ _ _ hu (aB 2) (aB 0)) (by rfl)))))
theorem aBo {fd:FuncData}(aHd:Cal P w K mg base "within" 1 ["one","other"] fZ false 3) (Fu:Fun K "groups_grow" "groups_grow" qR f fd):
  FnOk P w K mg base CX0 2 f fd ["whole","steps"] (spT K nD false 3):=
 gfn Fu xD rfl (by decide) (fun ts t h=>bI h) (fun cdv A outer s H E hr=>@VL _ _ _ _ _ _ aHd cdv A outer s H E hr) (fun ts t h=>bJ h)
abbrev qO:Stmt:=top 15
theorem aEj:FnScope ["one","other"] ["one","other"] (defScope qO):=⟨rfl,rfl,rfl,by decide +kernel,rfl,by decide +kernel,by decide +kernel⟩
def wN:Rho->Option Out:=
 aV (f2 (f2 (f2 (aA 0) (fC (.int 0)) oIx) (f2 (aA 1) (fC (.int 1)) oIx) bD) (f2 (f2 (aA 1) (fC (.int 0)) oIx) (f2 (aA 0) (fC (.int 1)) oIx) bD) oLt)
def nA:List T->Option T:=Fof 2 0 wN
theorem PK (t0 t1:T):nA [t0,t1]=(wN [some t0,some t1]).bind bC:=rfl
theorem VH (cdv:Value) (A:Around) (outer:List Env) (s:Shared) (H:Hp) (E:XK)
  (hr:Room 0 (A.deeper (envOfC "fraction_less" (defScope qO) s.heap.objs.size f cdv))):
  GSs (bA CX0 P w K mg base ["one","other"] "fraction_less" (defScope qO) f cdv A outer s H E).nox H [1,1] false 3 (defBody qO) wN:=by
 have hu:=hr.units;unfold wN;exact @aL _ _ _ _ _ _ _ (@aW _ _ _ _ _ _ _ _ (@bB _ _ _ _ _ _ _ _ _ (@IO _ _ _ _ _ _ _ _ _ _ _ _ (@cD _ _ _ _ _ _ _ _ _ _ _ _ (@aM _ _ _ _ _ _ _ _ _ _ _ _ (aB 0) aE (by exact fun _ _=>rfl)) (@aM _ _ _ _ _ _ _ _ _ _ _ _ (aB 1) aE (by exact fun _ _=>rfl))) (@cD _ _ _ _ _ _ _ _ _ _ _ _ (@aM _ _ _ _ _ _ _ _ _ _ _ _ (aB 1) aE (by exact fun _ _=>rfl)) (@aM _ _ _ _ _ _ _ _ _ _ _ _ (aB 0) aE (by exact fun _ _=>rfl)))) (by rfl)))
theorem aBl {fd:FuncData}(Fu:Fun K "fraction_less" "fraction_less" qO f fd):
  FnOk P w K mg base CX0 1 f fd ["one","other"] (spT K nA false 3):=
 gfn Fu aEj rfl (by decide) (fun ts t h=>bI h) (fun cdv A outer s H E hr=>@VH _ _ _ _ _ _  cdv A outer s H E hr) (fun ts t h=>bJ h)
abbrev qQ:Stmt:=top 26
theorem aEl:FnScope ["steps"] ["steps"] (defScope qQ):=⟨rfl,rfl,rfl,by decide +kernel,rfl,by decide +kernel,by decide +kernel⟩
def mG:Rho->Option T:=
 f1 (aI (aC (f2 (aA 0) (fC (.int 1)) oIx) (aC (f2 (aA 1) (fC (.int 1)) oIx) aF)) nA) aN
def wP:Rho->Option Out:=
 aV (aI (aC (kH [0,1] (xT (fFL (aA 0)) (fFL (BS (aA 0) (yQ (fC (.int 1))) yP yP))) [none,none] bE mG) aF) uO)
def nC:List T->Option T:=Fof 1 0 wP
theorem PM (t0:T):nC [t0]=(wP [some t0]).bind bC:=rfl
theorem VJ (aHb:Cal P w K mg base "fraction_less" 1 ["one","other"] nA false 3) (aId:mg "zip" = none) (aI3:mg "all" = none) (cdv:Value) (A:Around) (outer:List Env) (s:Shared) (H:Hp) (E:XK)
  (hr:Room 1 (A.deeper (envOfC "fractions_grow" (defScope qQ) s.heap.objs.size f cdv))):
  GSs (bA CX0 P w K mg base ["steps"] "fractions_grow" (defScope qQ) f cdv A outer s H E).nox H [1] false 3 (defBody qQ) wP:=by
 have hu:=hr.units;unfold wP mG;exact @aL _ _ _ _ _ _ _ (@aW _ _ _ _ _ _ _ _ (@bB _ _ _ _ _ _ _ _ _ (IM (by rfl) (by rfl) (by rfl) aI3 (aD (@tZ _ _ _ _ _ _ _ _ _ _ _ _ _ _ _ _ _ _ _ _ _ _ _ (cV (by kernel_rfl) (N':=[ "one" ,"other" ]) (src:=[ none ,none ])) (tW (by kernel_rfl) (fl':=[ 2 ,2 ]) (js:=[ 0 ,1 ])) (by decide) (by rfl) (@XM _ _ _ _ _ _ _ _ _ _ _ _ _ _ _ _ _ (by rfl) (by rfl) aId (aB 0) (@XE _ _ _ _ _ _ _ _ _ _ _ _ _ _ _ (aB 0) (@XO _ _ _ _ _ _ _ aE) IR IR (by intro _ _;first | exact⟨_,rfl⟩ | (refine⟨_,?_⟩;with_unfolding_all rfl))) (by rfl) (by rfl)) (fun cl C s H ex=>@pgT _ _ _ (2) _ _ (by rfl) (@eD _ _ _ _ _ _ (fA (by kernel_rfl)) (by rfl) (Or.inl (by rfl)) (@eD _ _ _ _ _ _ (fA (by kernel_rfl)) (by rfl) (Or.inl (by rfl)) (@nS _) (by trivial) (by rfl)) (by trivial) (by rfl)) (by rfl) (by rfl)) (by rfl) (fun cl C s H ex=>⟨dY,@GE.sc _ _ _ _ _ _ _ (aO aHb (hr.mono (by decide)) (by rfl) (aD (@aM _ _ _ _ _ _ _ _ _ _ _ _ (aB 0) aE (by exact fun _ _=>rfl)) (aD (@aM _ _ _ _ _ _ _ _ _ _ _ _ (aB 1) aE (by exact fun _ _=>rfl)) aG)))⟩) (by intro _;rfl)) aG)) (by rfl)))
theorem aBn {fd:FuncData}(aHb:Cal P w K mg base "fraction_less" 1 ["one","other"] nA false 3) (aId:mg "zip" = none) (aI3:mg "all" = none) (Fu:Fun K "fractions_grow" "fractions_grow" qQ f fd):
  FnOk P w K mg base CX0 2 f fd ["steps"] (spT K nC false 3):=
 gfn Fu aEl rfl (by decide) (fun ts t h=>bI h) (fun cdv A outer s H E hr=>@VJ _ _ _ _ _ _ aHb aId aI3 cdv A outer s H E hr) (fun ts t h=>bJ h)
abbrev qS:Stmt:=top 7
theorem aEm:FnScope ["table"] ["table"] (defScope qS):=⟨rfl,rfl,rfl,by decide +kernel,rfl,by decide +kernel,by decide +kernel⟩
def wQ:Rho->Option Out:=
 aV (f2 (f1 (aI (aC (aA 0) aF) bS) yL) (fC (.int 1)) cQ)
def gL:List T->Option T:=Fof 1 0 wQ
theorem PQ (t0:T):gL [t0]=(wQ [some t0]).bind bC:=rfl
theorem VM (aGo:mg "len" = none) (cdv:Value) (A:Around) (outer:List Env) (s:Shared) (H:Hp) (E:XK)
  (hr:Room 0 (A.deeper (envOfC "hand_count" (defScope qS) s.heap.objs.size f cdv))):
  GSs (bA CX0 P w K mg base ["table"] "hand_count" (defScope qS) f cdv A outer s H E).nox H [1] false 3 (defBody qS) wQ:=by
 have hu:=hr.units;unfold wQ;exact @aL _ _ _ _ _ _ _ (@aW _ _ _ _ _ _ _ _ (@bB _ _ _ _ _ _ _ _ _ (@dH _ _ _ _ _ _ _ _ _ _ _ _ (@IN _ _ _ _ _ _ _ _ _ (cJ (by rfl) (by rfl) aGo (aD (aB 0) aG)) (by rfl) (by rfl)) aE) (by rfl)))
theorem aBp {fd:FuncData}(aGo:mg "len" = none) (Fu:Fun K "hand_count" "hand_count" qS f fd):
  FnOk P w K mg base CX0 1 f fd ["table"] (spT K gL false 3):=
 gfn Fu aEm rfl (by decide) (fun ts t h=>bI h) (fun cdv A outer s H E hr=>@VM _ _ _ _ _ _ aGo cdv A outer s H E hr) (fun ts t h=>bJ h)
abbrev rC:Stmt:=top 22
theorem aEu:FnScope ["table","weights"] ["table","weights"] (defScope rC):=⟨rfl,rfl,rfl,by decide +kernel,rfl,by decide +kernel,by decide +kernel⟩
def wZ:Rho->Option Out:=
 aV (fIf (fB (f2 (aA 1) (fC .non) oIs)) (f2 (fC (.lst (tI [1]))) (aI (aC (aA 0) aF) gL) sG) (aA 1))
def nL:List T->Option T:=Fof 2 0 wZ
theorem RA (t0 t1:T):nL [t0,t1]=(wZ [some t0,some t1]).bind bC:=rfl
theorem VX (aGy:Cal P w K mg base "hand_count" 1 ["table"] gL false 3) (cdv:Value) (A:Around) (outer:List Env) (s:Shared) (H:Hp) (E:XK)
  (hr:Room 1 (A.deeper (envOfC "weights_for" (defScope rC) s.heap.objs.size f cdv))):
  GSs (bA CX0 P w K mg base ["table","weights"] "weights_for" (defScope rC) f cdv A outer s H E).nox H [1,1] false 0 (defBody rC) wZ:=by
 have hu:=hr.units;unfold wZ;exact @aL _ _ _ _ _ _ _ (@aW _ _ _ _ _ _ _ _ (@XT _ _ _ _ _ _ _ _ _ _ _ _ (@IY _ _ _ _ _ _ _ _ _ _ _ _ (aB 1) CF) (@bB _ _ _ _ _ _ _ _ _ (@IP _ _ _ _ _ _ _ _ _ _ _ (@uB _ _ _ _ _ ([ 1 ]) (by rfl) (by decide +kernel)) (aO aGy (hr.mono (by decide)) (by rfl) (aD (aB 0) aG))) (by rfl)) (@bB _ _ _ _ _ _ _ _ _ (aB 1) (by rfl))))
theorem aC0 {fd:FuncData}(aGy:Cal P w K mg base "hand_count" 1 ["table"] gL false 3) (Fu:Fun K "weights_for" "weights_for" rC f fd):
  FnOk P w K mg base CX0 2 f fd ["table","weights"] (spT K nL false 0):=
 gfn Fu aEu rfl (by decide) (fun ts t h=>bI h) (fun cdv A outer s H E hr=>@VX _ _ _ _ _ _ aGy cdv A outer s H E hr) (fun ts t h=>bJ h)
abbrev qM:Stmt:=top 23
theorem aEi:FnScope ["steps","hand"] ["steps","hand"] (defScope qM):=⟨rfl,rfl,rfl,by decide +kernel,rfl,by decide +kernel,by decide +kernel⟩
def zX:Rho->Option Bool:=
 fT (aI (aC (f2 (fC (.int 1)) (aA 2) cX) (aC (aA 0) aF)) fZ)
def zW:Rho->Option T:=
 f1 (aA 1) aN
def wL:Rho->Option Out:=
 aV (f1 (f2 (kH [0,1] (fFL (aA 0)) [none,none,some 1] zX zW) (fC (.int 0)) oIx) aN)
def mY:List T->Option T:=Fof 2 0 wL
theorem PF (t0 t1:T):mY [t0,t1]=(wL [some t0,some t1]).bind bC:=rfl
theorem VF (aHd:Cal P w K mg base "within" 1 ["one","other"] fZ false 3) (cdv:Value) (A:Around) (outer:List Env) (s:Shared) (H:Hp) (E:XK)
  (hr:Room 1 (A.deeper (envOfC "first_fraction" (defScope qM) s.heap.objs.size f cdv))):
  GSs (bA CX0 P w K mg base ["steps","hand"] "first_fraction" (defScope qM) f cdv A outer s H E).nox H [1,1] false 3 (defBody qM) wL:=by
 have hu:=hr.units;unfold wL zW zX;exact @aL _ _ _ _ _ _ _ (@aW _ _ _ _ _ _ _ _ (@bB _ _ _ _ _ _ _ _ _ (@GE.sc _ _ _ _ _ _ _ (@aM _ _ _ _ _ _ _ _ _ _ _ _ (@tZ _ _ _ _ _ _ _ _ _ _ _ _ _ _ _ _ _ _ _ _ _ _ _ (cV (by kernel_rfl) (N':=[ "group" ,"found" ,"hand" ]) (src:=[ none ,none ,some 1 ])) (tW (by kernel_rfl) (fl':=[ 2 ,2 ,1 ]) (js:=[ 0 ,1 ])) (by decide) (by rfl) (eC (aB 0)) (fun cl C s H ex=>@pgT _ _ _ (2) _ _ (by rfl) (@eD _ _ _ _ _ _ (fA (by kernel_rfl)) (by rfl) (Or.inl (by rfl)) (@eD _ _ _ _ _ _ (fA (by kernel_rfl)) (by rfl) (Or.inl (by rfl)) (@nS _) (by trivial) (by rfl)) (by trivial) (by rfl)) (by rfl) (by rfl)) (by rfl) (fun cl C s H ex=>⟨@xY _ _ _ _ _ (@eE _ _ _ _ _ _ _ (aO aHd (hr.mono (by decide)) (by rfl) (aD (@eM _ _ _ _ _ _ _ _ _ _ _ _ aE (aB 2)) (aD (aB 0) aG))) (by intro _;rfl)),@GE.sc _ _ _ _ _ _ _ (aB 1)⟩) (by intro _;rfl)) aE (by exact fun _ _=>rfl))) (by rfl)))
theorem aBj {fd:FuncData}(aHd:Cal P w K mg base "within" 1 ["one","other"] fZ false 3) (Fu:Fun K "first_fraction" "first_fraction" qM f fd):
  FnOk P w K mg base CX0 2 f fd ["steps","hand"] (spT K mY false 3):=
 gfn Fu aEi rfl (by decide) (fun ts t h=>bI h) (fun cdv A outer s H E hr=>@VF _ _ _ _ _ _ aHd cdv A outer s H E hr) (fun ts t h=>bJ h)
abbrev qJ:Stmt:=top 13
theorem tJ:FnScope ["one","other","greater","lesser","rest"] ["one","other"] (defScope qJ):=⟨rfl,rfl,rfl,by decide +kernel,rfl,by decide +kernel,by decide +kernel⟩
def zU:Rho->Option Out:=
 aH (aJ 4 (f2 (aA 2) (aA 3) aS))
  (aH (aJ 2 (f1 (aA 3) aN))
  (aJ 3 (f1 (aA 4) aN)))
def zV:Rho->Option Bool:=
 fB (f2 (aA 3) (fC (.int 0)) oNe)
def wH:Rho->Option Out:=
 aH (aJ 2 (aI (aC (aA 0) aF) uN))
  (aH (aJ 3 (aI (aC (aA 1) aF) uN))
  (aH (gI zV zU)
  (aV (f1 (aA 2) aN))))
def mW:List T->Option T:=Fof 2 3 wH
theorem OV (t0 t1:T):mW [t0,t1]=(wH [some t0,some t1,none,none,none]).bind bC:=rfl
theorem VC (aI2:mg "abs" = none) (cdv:Value) (A:Around) (outer:List Env) (s:Shared) (H:Hp) (E:XK)
  (hr:Room 0 (A.deeper (envOfC "common_divisor" (defScope qJ) s.heap.objs.size f cdv))):
  GSs (bA CX0 P w K mg base ["one","other","greater","lesser","rest"] "common_divisor" (defScope qJ) f cdv A outer s H E).nox H [1,1,1,1,1] false 3 (defBody qJ) wH:=by
 have hu:=hr.units;unfold wH zV zU;exact @aK _ _ _ _ _ _ _ _ _ (@aR _ _ _ _ _ _ _ _ _ _ _ _ 2 (CA (by rfl) (by rfl) aI2 (aD (aB 0) aG)) tJ.nd (by rfl) (Or.inl (by rfl)) (by rfl) (by rfl) (by trivial)) (@aK _ _ _ _ _ _ _ _ _ (@aR _ _ _ _ _ _ _ _ _ _ _ _ 3 (CA (by rfl) (by rfl) aI2 (aD (aB 1) aG)) tJ.nd (by rfl) (Or.inl (by rfl)) (by rfl) (by rfl) (by trivial)) (@aK _ _ _ _ _ _ _ _ _ (@uF _ _ _ _ _ _ _ _ _ _ PassesOwn.never (@uH _ _ _ _ _ _ _ _ _ _ _ _ hu (aB 3) aE) (@aK _ _ _ _ _ _ _ _ _ (@aR _ _ _ _ _ _ _ _ _ _ _ _ 4 (@bO _ _ _ _ _ _ _ _ _ _ _ _ (aB 2) (aB 3)) tJ.nd (by rfl) (Or.inl (by rfl)) (by rfl) (by rfl) (by trivial)) (@aK _ _ _ _ _ _ _ _ _ (@aR _ _ _ _ _ _ _ _ _ _ _ _ 2 (@GE.sc _ _ _ _ _ _ _ (aB 3)) tJ.nd (by rfl) (Or.inl (by rfl)) (by rfl) (by rfl) (by trivial)) (@aL _ _ _ _ _ _ _ (@aR _ _ _ _ _ _ _ _ _ _ _ _ 3 (@GE.sc _ _ _ _ _ _ _ (aB 4)) tJ.nd (by rfl) (Or.inl (by rfl)) (by rfl) (by rfl) (by trivial)))))) (@aL _ _ _ _ _ _ _ (@aW _ _ _ _ _ _ _ _ (@bB _ _ _ _ _ _ _ _ _ (@GE.sc _ _ _ _ _ _ _ (aB 2)) (by rfl))))))
theorem aBg {fd:FuncData}(aI2:mg "abs" = none) (Fu:Fun K "common_divisor" "common_divisor" qJ f fd):
  FnOk P w K mg base CX0 1 f fd ["one","other"] (spT K mW false 3):=
 gfn Fu tJ rfl (by decide) (fun ts t h=>bI h) (fun cdv A outer s H E hr=>@VC _ _ _ _ _ _ aI2 cdv A outer s H E hr) (fun ts t h=>bJ h)
abbrev qN:Stmt:=top 14
theorem EB:FnScope ["top","bottom","divisor"] ["top","bottom"] (defScope qN):=⟨rfl,rfl,rfl,by decide +kernel,rfl,by decide +kernel,by decide +kernel⟩
def wM:Rho->Option Out:=
 aH (aJ 2 (f1 (aI (aC (aA 0) (aC (aA 1) aF)) mW) aN))
  (aH (rIf (fB (f2 (aA 1) (fC (.int 0)) oLt)) (aJ 2 (f1 (aA 2) dJ)) aQ)
  (aV (bP (aC (f2 (aA 0) (aA 2) fD) (aC (f2 (aA 1) (aA 2) fD) aF)))))
def mZ:List T->Option T:=Fof 2 1 wM
theorem PH (t0 t1:T):mZ [t0,t1]=(wM [some t0,some t1,none]).bind bC:=rfl
theorem VG (aH7:Cal P w K mg base "common_divisor" 1 ["one","other"] mW false 3) (cdv:Value) (A:Around) (outer:List Env) (s:Shared) (H:Hp) (E:XK)
  (hr:Room 1 (A.deeper (envOfC "fraction" (defScope qN) s.heap.objs.size f cdv))):
  GSs (bA CX0 P w K mg base ["top","bottom","divisor"] "fraction" (defScope qN) f cdv A outer s H E).nox H [1,1,1] false 3 (defBody qN) wM:=by
 have hu:=hr.units;unfold wM;exact @aK _ _ _ _ _ _ _ _ _ (@aR _ _ _ _ _ _ _ _ _ _ _ _ 2 (@GE.sc _ _ _ _ _ _ _ (aO aH7 (hr.mono (by decide)) (by rfl) (aD (aB 0) (aD (aB 1) aG)))) EB.nd (by rfl) (Or.inl (by rfl)) (by rfl) (by rfl) (by trivial)) (@aK _ _ _ _ _ _ _ _ _ (@bV _ _ _ _ _ _ _ _ _ _ _ _ (@uG _ _ _ _ _ _ _ _ _ _ _ _ (aB 1) aE) (@aL _ _ _ _ _ _ _ (@aR _ _ _ _ _ _ _ _ _ _ _ _ 2 (@gY _ _ _ _ _ _ _ _ (aB 2)) EB.nd (by rfl) (Or.inl (by rfl)) (by rfl) (by rfl) (by trivial))) bW) (@aL _ _ _ _ _ _ _ (@aW _ _ _ _ _ _ _ _ (@yA _ _ _ _ _ _ _ _ _ (@kK _ _ _ _ _ _ _ _ (@bB _ _ _ _ _ _ _ _ _ (@uA _ _ _ _ _ _ _ _ _ _ _ _ (aB 0) (aB 2)) (by rfl)) (@kK _ _ _ _ _ _ _ _ (@bB _ _ _ _ _ _ _ _ _ (@uA _ _ _ _ _ _ _ _ _ _ _ _ (aB 1) (aB 2)) (by rfl)) yB (by rfl) (by rfl)) (by rfl) (by rfl)) (by rfl)))))
theorem aBk {fd:FuncData}(aH7:Cal P w K mg base "common_divisor" 1 ["one","other"] mW false 3) (Fu:Fun K "fraction" "fraction" qN f fd):
  FnOk P w K mg base CX0 2 f fd ["top","bottom"] (spT K mZ false 3):=
 gfn Fu EB rfl (by decide) (fun ts t h=>bI h) (fun cdv A outer s H E hr=>@VG _ _ _ _ _ _ aH7 cdv A outer s H E hr) (fun ts t h=>bJ h)
abbrev qP:Stmt:=top 16
theorem aEk:FnScope ["many","one"] ["many","one"] (defScope qP):=⟨rfl,rfl,rfl,by decide +kernel,rfl,by decide +kernel,by decide +kernel⟩
def wO:Rho->Option Out:=
 aV (f1 (aI (aC (f2 (aA 0) (f2 (aA 1) (fC (.int 0)) oIx) bD) (aC (f2 (aA 1) (fC (.int 1)) oIx) aF)) mZ) aN)
def nB:List T->Option T:=Fof 2 0 wO
theorem PL (t0 t1:T):nB [t0,t1]=(wO [some t0,some t1]).bind bC:=rfl
theorem VI (aHy:Cal P w K mg base "fraction" 2 ["top","bottom"] mZ false 3) (cdv:Value) (A:Around) (outer:List Env) (s:Shared) (H:Hp) (E:XK)
  (hr:Room 2 (A.deeper (envOfC "fraction_times" (defScope qP) s.heap.objs.size f cdv))):
  GSs (bA CX0 P w K mg base ["many","one"] "fraction_times" (defScope qP) f cdv A outer s H E).nox H [1,1] false 3 (defBody qP) wO:=by
 have hu:=hr.units;unfold wO;exact @aL _ _ _ _ _ _ _ (@aW _ _ _ _ _ _ _ _ (@bB _ _ _ _ _ _ _ _ _ (@GE.sc _ _ _ _ _ _ _ (aO aHy (hr.mono (by decide)) (by rfl) (aD (@cD _ _ _ _ _ _ _ _ _ _ _ _ (aB 0) (@aM _ _ _ _ _ _ _ _ _ _ _ _ (aB 1) aE (by exact fun _ _=>rfl))) (aD (@aM _ _ _ _ _ _ _ _ _ _ _ _ (aB 1) aE (by exact fun _ _=>rfl)) aG)))) (by rfl)))
theorem aBm {fd:FuncData}(aHy:Cal P w K mg base "fraction" 2 ["top","bottom"] mZ false 3) (Fu:Fun K "fraction_times" "fraction_times" qP f fd):
  FnOk P w K mg base CX0 3 f fd ["many","one"] (spT K nB false 3):=
 gfn Fu aEk rfl (by decide) (fun ts t h=>bI h) (fun cdv A outer s H E hr=>@VI _ _ _ _ _ _ aHy cdv A outer s H E hr) (fun ts t h=>bJ h)
abbrev rA:Stmt:=top 24
theorem aEs:FnScope ["weights","steps"] ["weights","steps"] (defScope rA):=⟨rfl,rfl,rfl,by decide +kernel,rfl,by decide +kernel,by decide +kernel⟩
def AB:Rho->Option T:=
 f1 (aI (aC (aA 1) (aC (aI (aC (aA 2) (aC (aA 0) aF)) mY) aF)) nB) aN
def wY:Rho->Option Out:=
 aV (kH [0,1] (rS (fFL (aA 0))) [none,none,some 1] bE AB)
def nK:List T->Option T:=Fof 2 0 wY
theorem QU (t0 t1:T):nK [t0,t1]=(wY [some t0,some t1]).bind bC:=rfl
theorem VV (aH8:Cal P w K mg base "first_fraction" 2 ["steps","hand"] mY false 3) (aH9:Cal P w K mg base "fraction_times" 3 ["many","one"] nB false 3) (aH2:mg "enumerate" = none) (cdv:Value) (A:Around) (outer:List Env) (s:Shared) (H:Hp) (E:XK)
  (hr:Room 3 (A.deeper (envOfC "shares_by_steps" (defScope rA) s.heap.objs.size f cdv))):
  GSs (bA CX0 P w K mg base ["weights","steps"] "shares_by_steps" (defScope rA) f cdv A outer s H E).nox H [1,1] true 3 (defBody rA) wY:=by
 have hu:=hr.units;unfold wY AB;exact @aL _ _ _ _ _ _ _ (@aW _ _ _ _ _ _ _ _ (@bB _ _ _ _ _ _ _ _ _ (@tZ _ _ _ _ _ _ _ _ _ _ _ _ _ _ _ _ _ _ _ _ _ _ _ (cV (by kernel_rfl) (N':=[ "hand" ,"weight" ,"steps" ]) (src:=[ none ,none ,some 1 ])) (tW (by kernel_rfl) (fl':=[ 2 ,2 ,1 ]) (js:=[ 0 ,1 ])) (by decide) (by rfl) (@IQ _ _ _ _ _ _ _ _ _ _ _ _ _ (by rfl) (by rfl) aH2 (aB 0) (by rfl)) (fun cl C s H ex=>@pgT _ _ _ (2) _ _ (by rfl) (@eD _ _ _ _ _ _ (fA (by kernel_rfl)) (by rfl) (Or.inl (by rfl)) (@eD _ _ _ _ _ _ (fA (by kernel_rfl)) (by rfl) (Or.inl (by rfl)) (@nS _) (by trivial) (by rfl)) (by trivial) (by rfl)) (by rfl) (by rfl)) (by rfl) (fun cl C s H ex=>⟨dY,@GE.sc _ _ _ _ _ _ _ (aO aH9 (hr.mono (by decide)) (by rfl) (aD (aB 1) (aD (aO aH8 (hr.mono (by decide)) (by rfl) (aD (aB 2) (aD (aB 0) aG))) aG)))⟩) (by intro _;rfl)) (by rfl)))
theorem aBy {fd:FuncData}(aH8:Cal P w K mg base "first_fraction" 2 ["steps","hand"] mY false 3) (aH9:Cal P w K mg base "fraction_times" 3 ["many","one"] nB false 3) (aH2:mg "enumerate" = none) (Fu:Fun K "shares_by_steps" "shares_by_steps" rA f fd):
  FnOk P w K mg base CX0 4 f fd ["weights","steps"] (spT K nK true 3):=
 gfn Fu aEs rfl (by decide) (fun ts t h=>bI h) (fun cdv A outer s H E hr=>@VV _ _ _ _ _ _ aH8 aH9 aH2 cdv A outer s H E hr) (fun ts t h=>bJ h)
abbrev qZ:Stmt:=top 10
theorem aEr:FnScope ["many","table"] ["many","table"] (defScope qZ):=⟨rfl,rfl,rfl,by decide +kernel,rfl,by decide +kernel,by decide +kernel⟩
def AA:Rho->Option T:=
 f2 (aA 1) (aA 0) bD
def wX:Rho->Option Out:=
 aV (cE (fFL (aA 1)) [none,some 0] bE AA)
def nJ:List T->Option T:=Fof 2 0 wX
theorem QS (t0 t1:T):nJ [t0,t1]=(wX [some t0,some t1]).bind bC:=rfl
theorem VU (cdv:Value) (A:Around) (outer:List Env) (s:Shared) (H:Hp) (E:XK)
  (hr:Room 0 (A.deeper (envOfC "scaled" (defScope qZ) s.heap.objs.size f cdv))):
  GSs (bA CX0 P w K mg base ["many","table"] "scaled" (defScope qZ) f cdv A outer s H E).nox H [1,1] true 3 (defBody qZ) wX:=by
 have hu:=hr.units;unfold wX AA;exact @aL _ _ _ _ _ _ _ (@aW _ _ _ _ _ _ _ _ (@bB _ _ _ _ _ _ _ _ _ (@fJ _ _ _ _ _ _ _ _ _ _ _ _ _ _ _ _ _ _ _ _ (cV (by kernel_rfl) (N':=[ "cost" ,"many" ]) (src:=[ none ,some 0 ])) (eA (by kernel_rfl) (fl':=[ 2 ,1 ])) (by decide) (by rfl) (eC (aB 1)) (by rfl) (by rfl) (fun cl C s H ex=>⟨dY,@cD _ _ _ _ _ _ _ _ _ _ _ _ (aB 1) (aB 0)⟩) (by intro _;rfl)) (by rfl)))
theorem aBx {fd:FuncData}(Fu:Fun K "scaled" "scaled" qZ f fd):
  FnOk P w K mg base CX0 1 f fd ["many","table"] (spT K nJ true 3):=
 gfn Fu aEr rfl (by decide) (fun ts t h=>bI h) (fun cdv A outer s H E hr=>@VU _ _ _ _ _ _  cdv A outer s H E hr) (fun ts t h=>bJ h)
abbrev qT:Stmt:=top 4
theorem aEn:FnScope ["group"] ["group"] (defScope qT):=⟨rfl,rfl,rfl,by decide +kernel,rfl,by decide +kernel,by decide +kernel⟩
def MF:Rho->Option Bool:=
 fT (f2 (f2 (aA 1) (aA 0) jQ) (fC (.int 1)) fN)
def ME:Rho->Option T:=
 f1 (aA 0) aN
def DW:Rho->Option Out:=
 aV (cE (cH (aC (f1 (aA 0) yL) aF) cK) [none,some 0] MF ME)
def nE:List T->Option T:=Fof 1 0 DW
theorem VN (aGn:mg "range" = none) (cdv:Value) (A:Around) (outer:List Env) (s:Shared) (H:Hp) (E:XK)
  (hr:Room 0 (A.deeper (envOfC "hands_in" (defScope qT) s.heap.objs.size f cdv))):
  GSs (bA CX0 P w K mg base ["group"] "hands_in" (defScope qT) f cdv A outer s H E).nox H [1] true 3 (defBody qT) DW:=by
 have hu:=hr.units;unfold DW ME MF;exact @aL _ _ _ _ _ _ _ (@aW _ _ _ _ _ _ _ _ (@bB _ _ _ _ _ _ _ _ _ (@fJ _ _ _ _ _ _ _ _ _ _ _ _ _ _ _ _ _ _ _ _ (cV (by kernel_rfl) (N':=[ "hand" ,"group" ]) (src:=[ none ,some 0 ])) (eA (by kernel_rfl) (fl':=[ 2 ,1 ])) (by decide) (by rfl) (dI (by rfl) (by rfl) aGn (aD (@IN _ _ _ _ _ _ _ _ _ (aB 0) (by rfl) (by rfl)) aG)) (by rfl) (by rfl) (fun cl C s H ex=>⟨@xY _ _ _ _ _ (@eE _ _ _ _ _ _ _ (@jK _ _ _ _ _ _ _ _ _ _ _ _ (@uD _ _ _ _ _ _ _ _ _ _ _ _ (aB 1) (aB 0)) aE) (by intro _;rfl)),@GE.sc _ _ _ _ _ _ _ (aB 0)⟩) (by intro _;rfl)) (by rfl)))
theorem aBq {fd:FuncData}(aGn:mg "range" = none) (Fu:Fun K "hands_in" "hands_in" qT f fd):
  FnOk P w K mg base CX0 1 f fd ["group"] (spT K nE true 3):=
 gfn Fu aEn rfl (by decide) (fun ts t h=>bI h) (fun cdv A outer s H E hr=>@VN _ _ _ _ _ _ aGn cdv A outer s H E hr) (fun ts t h=>bJ h)
abbrev qY:Stmt:=top 9
theorem aEq:FnScope ["row","group"] ["row","group"] (defScope qY):=⟨rfl,rfl,rfl,by decide +kernel,rfl,by decide +kernel,by decide +kernel⟩
def zZ:Rho->Option T:=
 f1 (f2 (aA 1) (aA 0) oIx) aN
def wW:Rho->Option Out:=
 aV (aI (aC (cE (fFL (aI (aC (aA 1) aF) nE)) [none,some 0] bE zZ) aF) pA)
def eV:List T->Option T:=Fof 2 0 wW
theorem QQ (t0 t1:T):eV [t0,t1]=(wW [some t0,some t1]).bind bC:=rfl
theorem VT (aHz:Cal P w K mg base "hands_in" 1 ["group"] nE true 3) (aHh:mg "sum" = none) (cdv:Value) (A:Around) (outer:List Env) (s:Shared) (H:Hp) (E:XK)
  (hr:Room 1 (A.deeper (envOfC "row_gives" (defScope qY) s.heap.objs.size f cdv))):
  GSs (bA CX0 P w K mg base ["row","group"] "row_gives" (defScope qY) f cdv A outer s H E).nox H [1,1] false 3 (defBody qY) wW:=by
 have hu:=hr.units;unfold wW zZ;exact @aL _ _ _ _ _ _ _ (@aW _ _ _ _ _ _ _ _ (@bB _ _ _ _ _ _ _ _ _ (CH (by rfl) (by rfl) (by rfl) aHh (aD (@fJ _ _ _ _ _ _ _ _ _ _ _ _ _ _ _ _ _ _ _ _ (cV (by kernel_rfl) (N':=[ "hand" ,"row" ]) (src:=[ none ,some 0 ])) (eA (by kernel_rfl) (fl':=[ 2 ,1 ])) (by decide) (by rfl) (eC (aO aHz (hr.mono (by decide)) (by rfl) (aD (aB 1) aG))) (by rfl) (by rfl) (fun cl C s H ex=>⟨dY,@GE.sc _ _ _ _ _ _ _ (@aM _ _ _ _ _ _ _ _ _ _ _ _ (aB 1) (aB 0) (by exact fun _ _=>rfl))⟩) (by intro _;rfl)) aG)) (by rfl)))
theorem aBw {fd:FuncData}(aHz:Cal P w K mg base "hands_in" 1 ["group"] nE true 3) (aHh:mg "sum" = none) (Fu:Fun K "row_gives" "row_gives" qY f fd):
  FnOk P w K mg base CX0 2 f fd ["row","group"] (spT K eV false 3):=
 gfn Fu aEq rfl (by decide) (fun ts t h=>bI h) (fun cdv A outer s H E hr=>@VT _ _ _ _ _ _ aHz aHh cdv A outer s H E hr) (fun ts t h=>bJ h)
abbrev qW:Stmt:=top 11
theorem aEp:FnScope ["table","row"] ["table","row"] (defScope qW):=⟨rfl,rfl,rfl,by decide +kernel,rfl,by decide +kernel,by decide +kernel⟩
def zY:Rho->Option T:=
 f2 (aA 1) (aI (aC (aA 2) (aC (aA 0) aF)) eV) cQ
def wU:Rho->Option Out:=
 aH (rIf (fB (f2 (aI (aC (aA 1) aF) bS) (aI (aC (aA 0) aF) gL) oNe)) DO aQ)
  (aV (kH [0,1] (rS (fFL (aA 0))) [none,none,some 1] bE zY))
def nH:List T->Option T:=Fof 2 0 wU
theorem QE (t0 t1:T):nH [t0,t1]=(wU [some t0,some t1]).bind bC:=rfl
theorem VR (aGy:Cal P w K mg base "hand_count" 1 ["table"] gL false 3) (aGt:Cal P w K mg base "row_gives" 2 ["row","group"] eV false 3) (aGo:mg "len" = none) (aH2:mg "enumerate" = none) (cdv:Value) (A:Around) (outer:List Env) (s:Shared) (H:Hp) (E:XK)
  (hr:Room 2 (A.deeper (envOfC "less_row" (defScope qW) s.heap.objs.size f cdv))):
  GSs (bA CX0 P w K mg base ["table","row"] "less_row" (defScope qW) f cdv A outer s H E).nox H [1,1] true 3 (defBody qW) wU:=by
 have hu:=hr.units;unfold wU zY;exact @aK _ _ _ _ _ _ _ _ _ (@bV _ _ _ _ _ _ _ _ _ _ _ _ (@uH _ _ _ _ _ _ _ _ _ _ _ _ hu (cJ (by rfl) (by rfl) aGo (aD (aB 1) aG)) (aO aGy (hr.mono (by decide)) (by rfl) (aD (aB 0) aG))) (@aL _ _ _ _ _ _ _ XV) bW) (@aL _ _ _ _ _ _ _ (@aW _ _ _ _ _ _ _ _ (@bB _ _ _ _ _ _ _ _ _ (@tZ _ _ _ _ _ _ _ _ _ _ _ _ _ _ _ _ _ _ _ _ _ _ _ (cV (by kernel_rfl) (N':=[ "group" ,"cost" ,"row" ]) (src:=[ none ,none ,some 1 ])) (tW (by kernel_rfl) (fl':=[ 2 ,2 ,1 ]) (js:=[ 0 ,1 ])) (by decide) (by rfl) (@IQ _ _ _ _ _ _ _ _ _ _ _ _ _ (by rfl) (by rfl) aH2 (aB 0) (by rfl)) (fun cl C s H ex=>@pgT _ _ _ (2) _ _ (by rfl) (@eD _ _ _ _ _ _ (fA (by kernel_rfl)) (by rfl) (Or.inl (by rfl)) (@eD _ _ _ _ _ _ (fA (by kernel_rfl)) (by rfl) (Or.inl (by rfl)) (@nS _) (by trivial) (by rfl)) (by trivial) (by rfl)) (by rfl) (by rfl)) (by rfl) (fun cl C s H ex=>⟨dY,@dH _ _ _ _ _ _ _ _ _ _ _ _ (aB 1) (aO aGt (hr.mono (by decide)) (by rfl) (aD (aB 2) (aD (aB 0) aG)))⟩) (by intro _;rfl)) (by rfl))))
theorem aBu {fd:FuncData}(aGy:Cal P w K mg base "hand_count" 1 ["table"] gL false 3) (aGt:Cal P w K mg base "row_gives" 2 ["row","group"] eV false 3) (aGo:mg "len" = none) (aH2:mg "enumerate" = none) (Fu:Fun K "less_row" "less_row" qW f fd):
  FnOk P w K mg base CX0 3 f fd ["table","row"] (spT K nH true 3):=
 gfn Fu aEp rfl (by decide) (fun ts t h=>bI h) (fun cdv A outer s H E hr=>@VR _ _ _ _ _ _ aGy aGt aGo aH2 cdv A outer s H E hr) (fun ts t h=>bJ h)
abbrev qX:Stmt:=top 18
theorem EC:FnScope ["table","shares","left","least"] ["table","shares"] (defScope qX):=⟨rfl,rfl,rfl,by decide +kernel,rfl,by decide +kernel,by decide +kernel⟩
def wV:Rho->Option Out:=
 aH (aJ 2 (aI (aC (aA 0) (aC (aA 1) aF)) nH))
  (aH (aJ 3 (aI (aC (aA 2) aF) yN))
  (aV (bP (aC (f2 (aA 2) (aA 3) yM) (aC (f1 (aA 3) dJ) aF)))))
def nI:List T->Option T:=Fof 2 2 wV
theorem QM (t0 t1:T):nI [t0,t1]=(wV [some t0,some t1,none,none]).bind bC:=rfl
theorem VS (aI1:Cal P w K mg base "less_row" 3 ["table","row"] nH true 3) (aI4:mg "min" = none) (cdv:Value) (A:Around) (outer:List Env) (s:Shared) (H:Hp) (E:XK)
  (hr:Room 3 (A.deeper (envOfC "over" (defScope qX) s.heap.objs.size f cdv))):
  GSs (bA CX0 P w K mg base ["table","shares","left","least"] "over" (defScope qX) f cdv A outer s H E).nox H [1,1,1,1] false 3 (defBody qX) wV:=by
 have hu:=hr.units;unfold wV;exact @aK _ _ _ _ _ _ _ _ _ (@aR _ _ _ _ _ _ _ _ _ _ _ _ 2 (aO aI1 (hr.mono (by decide)) (by rfl) (aD (aB 0) (aD (aB 1) aG))) EC.nd (by rfl) (Or.inl (by rfl)) (by rfl) (by rfl) (by trivial)) (@aK _ _ _ _ _ _ _ _ _ (@aR _ _ _ _ _ _ _ _ _ _ _ _ 3 (XD (by rfl) (by rfl) (by rfl) aI4 (aD (aB 2) aG)) EC.nd (by rfl) (Or.inl (by rfl)) (by rfl) (by rfl) (by trivial)) (@aL _ _ _ _ _ _ _ (@aW _ _ _ _ _ _ _ _ (@yA _ _ _ _ _ _ _ _ _ (@kK _ _ _ _ _ _ _ _ (@bB _ _ _ _ _ _ _ _ _ (@XA _ _ _ _ _ _ _ _ _ _ _ _ _ (aB 2) (aB 3) (by rfl) (by rfl) (by rfl) (by rfl)) (by rfl)) (@kK _ _ _ _ _ _ _ _ (@bB _ _ _ _ _ _ _ _ _ (@gY _ _ _ _ _ _ _ _ (aB 3)) (by rfl)) yB (by rfl) (by rfl)) (by rfl) (by rfl)) (by rfl)))))
theorem aBv {fd:FuncData}(aI1:Cal P w K mg base "less_row" 3 ["table","row"] nH true 3) (aI4:mg "min" = none) (Fu:Fun K "over" "over" qX f fd):
  FnOk P w K mg base CX0 4 f fd ["table","shares"] (spT K nI false 3):=
 gfn Fu EC rfl (by decide) (fun ts t h=>bI h) (fun cdv A outer s H E hr=>@VS _ _ _ _ _ _ aI1 aI4 cdv A outer s H E hr) (fun ts t h=>bJ h)
abbrev qV:Stmt:=top 19
theorem aEo:FnScope ["table","shares"] ["table","shares"] (defScope qV):=⟨rfl,rfl,rfl,by decide +kernel,rfl,by decide +kernel,by decide +kernel⟩
def wS:Rho->Option Out:=
 aV (f2 (f2 (aI (aC (aA 0) (aC (aA 1) aF)) nI) (fC (.int 1)) oIx) (fC (.int 0)) oEq)
def nG:List T->Option T:=Fof 2 0 wS
theorem PY (t0 t1:T):nG [t0,t1]=(wS [some t0,some t1]).bind bC:=rfl
theorem VP (aI8:Cal P w K mg base "over" 4 ["table","shares"] nI false 3) (cdv:Value) (A:Around) (outer:List Env) (s:Shared) (H:Hp) (E:XK)
  (hr:Room 4 (A.deeper (envOfC "is_under" (defScope qV) s.heap.objs.size f cdv))):
  GSs (bA CX0 P w K mg base ["table","shares"] "is_under" (defScope qV) f cdv A outer s H E).nox H [1,1] false 3 (defBody qV) wS:=by
 have hu:=hr.units;unfold wS;exact @aL _ _ _ _ _ _ _ (@aW _ _ _ _ _ _ _ _ (@bB _ _ _ _ _ _ _ _ _ (@fK _ _ _ _ _ _ _ _ _ _ _ _ hu (@aM _ _ _ _ _ _ _ _ _ _ _ _ (aO aI8 (hr.mono (by decide)) (by rfl) (aD (aB 0) (aD (aB 1) aG))) aE (by exact fun _ _=>rfl)) aE) (by rfl)))
theorem aBs {fd:FuncData}(aI8:Cal P w K mg base "over" 4 ["table","shares"] nI false 3) (Fu:Fun K "is_under" "is_under" qV f fd):
  FnOk P w K mg base CX0 5 f fd ["table","shares"] (spT K nG false 3):=
 gfn Fu aEo rfl (by decide) (fun ts t h=>bI h) (fun cdv A outer s H E hr=>@VP _ _ _ _ _ _ aI8 cdv A outer s H E hr) (fun ts t h=>bJ h)
abbrev qU:Stmt:=top 20
theorem MM:FnScope ["table","shares","whole"] ["table","shares"] (defScope qU):=⟨rfl,rfl,rfl,by decide +kernel,rfl,by decide +kernel,by decide +kernel⟩
def wR:Rho->Option Out:=
 aH (aJ 2 (f1 (aI (aC (aA 0) aF) fG) aN))
  (aV (f1 (xH (aI (aC (aA 0) (aC (aA 1) aF)) nG) (f2 (aI (aC (aA 1) (aC (aA 2) aF)) eV) (f2 (aA 0) (aA 2) oIx) oEq)) aN))
def nF:List T->Option T:=Fof 2 1 wR
theorem PX (t0 t1:T):nF [t0,t1]=(wR [some t0,some t1,none]).bind bC:=rfl
theorem VO (aH1:Cal P w K mg base "everybody" 1 ["table"] fG false 3) (aI0:Cal P w K mg base "is_under" 5 ["table","shares"] nG false 3) (aGt:Cal P w K mg base "row_gives" 2 ["row","group"] eV false 3) (cdv:Value) (A:Around) (outer:List Env) (s:Shared) (H:Hp) (E:XK)
  (hr:Room 5 (A.deeper (envOfC "is_base" (defScope qU) s.heap.objs.size f cdv))):
  GSs (bA CX0 P w K mg base ["table","shares","whole"] "is_base" (defScope qU) f cdv A outer s H E).nox H [1,1,1] false 3 (defBody qU) wR:=by
 have hu:=hr.units;unfold wR;exact @aK _ _ _ _ _ _ _ _ _ (@aR _ _ _ _ _ _ _ _ _ _ _ _ 2 (@GE.sc _ _ _ _ _ _ _ (aO aH1 (hr.mono (by decide)) (by rfl) (aD (aB 0) aG))) MM.nd (by rfl) (Or.inl (by rfl)) (by rfl) (by rfl) (by trivial)) (@aL _ _ _ _ _ _ _ (@aW _ _ _ _ _ _ _ _ (@bB _ _ _ _ _ _ _ _ _ (@GE.sc _ _ _ _ _ _ _ (@CC _ _ _ _ _ _ _ _ _ _ _ _ _ (aO aI0 (hr.mono (by decide)) (by rfl) (aD (aB 0) (aD (aB 1) aG))) (@CG _ _ _ _ _ _ _ _ _ (@fK _ _ _ _ _ _ _ _ _ _ _ _ hu (aO aGt (hr.mono (by decide)) (by rfl) (aD (aB 1) (aD (aB 2) aG))) (@aM _ _ _ _ _ _ _ _ _ _ _ _ (aB 0) (aB 2) (by exact fun _ _=>rfl)))))) (by rfl))))
theorem aBr {fd:FuncData}(aH1:Cal P w K mg base "everybody" 1 ["table"] fG false 3) (aI0:Cal P w K mg base "is_under" 5 ["table","shares"] nG false 3) (aGt:Cal P w K mg base "row_gives" 2 ["row","group"] eV false 3) (Fu:Fun K "is_base" "is_base" qU f fd):
  FnOk P w K mg base CX0 6 f fd ["table","shares"] (spT K nF false 3):=
 gfn Fu MM rfl (by decide) (fun ts t h=>bI h) (fun cdv A outer s H E hr=>@VO _ _ _ _ _ _ aH1 aI0 aGt cdv A outer s H E hr) (fun ts t h=>bJ h)
abbrev qL:Stmt:=top 27
theorem tK:FnScope ["table","shares","steps","many","share","costs","row"] ["table","shares","steps"] (defScope qL):=⟨rfl,rfl,rfl,by decide +kernel,rfl,by decide +kernel,by decide +kernel⟩
def sW:Rho->Option Out:=
 aJ 3 (f2 (aA 3) (f2 (aA 4) (fC (.int 1)) oIx) bD)
def wJ:Rho->Option T:=
 f2 (f2 (aA 0) (fC (.int 0)) oIx) (f2 (aA 1) (f2 (aA 0) (fC (.int 1)) oIx) fD) bD
def wK:Rho->Option T:=
 f2 (aI (aC (aA 2) (aC (aA 0) aF)) eV) (f2 (aA 3) (aA 0) oIx) oEq
def wI:Rho->Option Out:=
 aH (aJ 3 (fC (.int 1)))
  (aH (dL 4 (fFL (aA 1))
  sW)
  (aH (aJ 5 (aI (aC (aA 3) (aC (aA 0) aF)) nJ))
  (aH (aJ 6 (cE (fFL (aA 1)) [none,some 3] bE wJ))
  (aV (f1 (xH (aI (aC (aA 5) (aC (aA 6) aF)) nF) (aI (aC (kH [0,1] (fFL (aA 2)) [none,none,some 6,some 5] bE wK) aF) uO)) aN)))))
def mX:List T->Option T:=Fof 3 4 wI
theorem PC (t0 t1 t2:T):mX [t0,t1,t2]=(wI [some t0,some t1,some t2,none,none,none,none]).bind bC:=rfl
theorem VE (aI6:Cal P w K mg base "scaled" 1 ["many","table"] nJ true 3) (aI5:Cal P w K mg base "is_base" 6 ["table","shares"] nF false 3) (aGt:Cal P w K mg base "row_gives" 2 ["row","group"] eV false 3) (aI3:mg "all" = none) (cdv:Value) (A:Around) (outer:List Env) (s:Shared) (H:Hp) (E:XK)
  (hr:Room 6 (A.deeper (envOfC "fills" (defScope qL) s.heap.objs.size f cdv))):
  GSs (bA CX0 P w K mg base ["table","shares","steps","many","share","costs","row"] "fills" (defScope qL) f cdv A outer s H E).nox H [1,1,1,1,1,1,1] false 3 (defBody qL) wI:=by
 have hu:=hr.units;unfold wI wK wJ sW;exact @aK _ _ _ _ _ _ _ _ _ (@aR _ _ _ _ _ _ _ _ _ _ _ _ 3 aE tK.nd (by rfl) (Or.inr (by rfl)) (by rfl) (by rfl) (by trivial)) (@aK _ _ _ _ _ _ _ _ _ (@dZ _ _ _ _ _ _ _ _ _ 4 _ _ _ _ _ PassesOwn.never (by rfl) (eC (aB 1)) tK.nd (by rfl) (Or.inl (by rfl)) (@aL _ _ _ _ _ _ _ (@aR _ _ _ _ _ _ _ _ _ _ _ _ 3 (@cD _ _ _ _ _ _ _ _ _ _ _ _ (aB 3) (@aM _ _ _ _ _ _ _ _ _ _ _ _ (aB 4) aE (by exact fun _ _=>rfl))) tK.nd (by rfl) (Or.inr (by rfl)) (by rfl) (by rfl) (by trivial))) (by rfl) (by intro _;rfl) (by trivial)) (@aK _ _ _ _ _ _ _ _ _ (@aR _ _ _ _ _ _ _ _ _ _ _ _ 5 (aO aI6 (hr.mono (by decide)) (by rfl) (aD (aB 3) (aD (aB 0) aG))) tK.nd (by rfl) (Or.inr (by rfl)) (by rfl) (by rfl) (by trivial)) (@aK _ _ _ _ _ _ _ _ _ (@aR _ _ _ _ _ _ _ _ _ _ _ _ 6 (@fJ _ _ _ _ _ _ _ _ _ _ _ _ _ _ _ _ _ _ _ _ (cV (by kernel_rfl) (N':=[ "share" ,"many" ]) (src:=[ none ,some 3 ])) (eA (by kernel_rfl) (fl':=[ 2 ,1 ])) (by decide) (by rfl) (eC (aB 1)) (by rfl) (by rfl) (fun cl C s H ex=>⟨dY,@cD _ _ _ _ _ _ _ _ _ _ _ _ (@aM _ _ _ _ _ _ _ _ _ _ _ _ (aB 0) aE (by exact fun _ _=>rfl)) (@uA _ _ _ _ _ _ _ _ _ _ _ _ (aB 1) (@aM _ _ _ _ _ _ _ _ _ _ _ _ (aB 0) aE (by exact fun _ _=>rfl)))⟩) (by intro _;rfl)) tK.nd (by rfl) (Or.inr (by rfl)) (by rfl) (by rfl) (by trivial)) (@aL _ _ _ _ _ _ _ (@aW _ _ _ _ _ _ _ _ (@bB _ _ _ _ _ _ _ _ _ (@GE.sc _ _ _ _ _ _ _ (@CC _ _ _ _ _ _ _ _ _ _ _ _ _ (aO aI5 (hr.mono (by decide)) (by rfl) (aD (aB 5) (aD (aB 6) aG))) (@CG _ _ _ _ _ _ _ _ _ (IM (by rfl) (by rfl) (by rfl) aI3 (aD (@tZ _ _ _ _ _ _ _ _ _ _ _ _ _ _ _ _ _ _ _ _ _ _ _ (cV (by kernel_rfl) (N':=[ "group" ,"found" ,"row" ,"costs" ]) (src:=[ none ,none ,some 6 ,some 5 ])) (tW (by kernel_rfl) (fl':=[ 2 ,2 ,1 ,1 ]) (js:=[ 0 ,1 ])) (by decide) (by rfl) (eC (aB 2)) (fun cl C s H ex=>@pgT _ _ _ (2) _ _ (by rfl) (@eD _ _ _ _ _ _ (fA (by kernel_rfl)) (by rfl) (Or.inl (by rfl)) (@eD _ _ _ _ _ _ (fA (by kernel_rfl)) (by rfl) (Or.inl (by rfl)) (@nS _) (by trivial) (by rfl)) (by trivial) (by rfl)) (by rfl) (by rfl)) (by rfl) (fun cl C s H ex=>⟨dY,@fK _ _ _ _ _ _ _ _ _ _ _ _ hu (aO aGt (hr.mono (by decide)) (by rfl) (aD (aB 2) (aD (aB 0) aG))) (@aM _ _ _ _ _ _ _ _ _ _ _ _ (aB 3) (aB 0) (by exact fun _ _=>rfl))⟩) (by intro _;rfl)) aG))))) (by rfl)))))))
theorem aBi {fd:FuncData}(aI6:Cal P w K mg base "scaled" 1 ["many","table"] nJ true 3) (aI5:Cal P w K mg base "is_base" 6 ["table","shares"] nF false 3) (aGt:Cal P w K mg base "row_gives" 2 ["row","group"] eV false 3) (aI3:mg "all" = none) (Fu:Fun K "fills" "fills" qL f fd):
  FnOk P w K mg base CX0 7 f fd ["table","shares","steps"] (spT K mX false 3):=
 gfn Fu tK rfl (by decide) (fun ts t h=>bI h) (fun cdv A outer s H E hr=>@VE _ _ _ _ _ _ aI6 aI5 aGt aI3 cdv A outer s H E hr) (fun ts t h=>bJ h)
abbrev rB:Stmt:=top 28
theorem aEt:FnScope ["table","weights","shares","steps"] ["table","weights","shares","steps"] (defScope rB):=⟨rfl,rfl,rfl,by decide +kernel,rfl,by decide +kernel,by decide +kernel⟩
def pF:Rho->Option Out:=
 aH (rIf (pOr (eG (fT (aI (aC (aI (aC (aA 0) aF) fG) (aC (aA 3) aF)) nD))) (eG (fT (aI (aC (aA 3) aF) nC)))) (aV (fC (.bl false))) aQ)
  (aV (f1 (xH (f2 (aA 2) (aI (aC (aI (aC (aA 0) (aC (aA 1) aF)) nL) (aC (aA 3) aF)) nK) oEq) (aI (aC (aA 0) (aC (aA 2) (aC (aA 3) aF))) mX)) aN))
def jG:List T->Option T:=Fof 4 0 pF
theorem AT (t0 t1 t2 t3:T):jG [t0,t1,t2,t3]=(pF [some t0,some t1,some t2,some t3]).bind bC:=rfl
theorem VW (aH1:Cal P w K mg base "everybody" 1 ["table"] fG false 3) (aHk:Cal P w K mg base "groups_grow" 2 ["whole","steps"] nD false 3) (aHa:Cal P w K mg base "fractions_grow" 2 ["steps"] nC false 3) (aHl:Cal P w K mg base "weights_for" 2 ["table","weights"] nL false 0) (aH5:Cal P w K mg base "shares_by_steps" 4 ["weights","steps"] nK true 3) (aI7:Cal P w K mg base "fills" 7 ["table","shares","steps"] mX false 3) (cdv:Value) (A:Around) (outer:List Env) (s:Shared) (H:Hp) (E:XK)
  (hr:Room 7 (A.deeper (envOfC "shows_fairest" (defScope rB) s.heap.objs.size f cdv))):
  GSs (bA CX0 P w K mg base ["table","weights","shares","steps"] "shows_fairest" (defScope rB) f cdv A outer s H E).nox H [1,1,1,1] false 3 (defBody rB) pF:=by
 have hu:=hr.units;unfold pF;exact @aK _ _ _ _ _ _ _ _ _ (@bV _ _ _ _ _ _ _ _ _ _ _ _ (@GW.gt _ _ _ _ _ (@kO _ _ _ _ _ _ _ _ _ (@gZ _ _ _ _ _ _ (@eE _ _ _ _ _ _ _ (aO aHk (hr.mono (by decide)) (by rfl) (aD (aO aH1 (hr.mono (by decide)) (by rfl) (aD (aB 0) aG)) (aD (aB 3) aG))) (by intro _;rfl))) (@kP _ _ _ _ _ _ (@gZ _ _ _ _ _ _ (@eE _ _ _ _ _ _ _ (aO aHa (hr.mono (by decide)) (by rfl) (aD (aB 3) aG)) (by intro _;rfl)))))) (@aL _ _ _ _ _ _ _ (@aW _ _ _ _ _ _ _ _ (@bB _ _ _ _ _ _ _ _ _ jL (by rfl)))) bW) (@aL _ _ _ _ _ _ _ (@aW _ _ _ _ _ _ _ _ (@bB _ _ _ _ _ _ _ _ _ (@GE.sc _ _ _ _ _ _ _ (@CC _ _ _ _ _ _ _ _ _ _ _ _ _ (@fK _ _ _ _ _ _ _ _ _ _ _ _ hu (aB 2) (aO aH5 (hr.mono (by decide)) (by rfl) (aD (aO aHl (hr.mono (by decide)) (by rfl) (aD (aB 0) (aD (aB 1) aG))) (aD (aB 3) aG)))) (@CG _ _ _ _ _ _ _ _ _ (aO aI7 (hr.mono (by decide)) (by rfl) (aD (aB 0) (aD (aB 2) (aD (aB 3) aG))))))) (by rfl))))
theorem aBz {fd:FuncData}(aH1:Cal P w K mg base "everybody" 1 ["table"] fG false 3) (aHk:Cal P w K mg base "groups_grow" 2 ["whole","steps"] nD false 3) (aHa:Cal P w K mg base "fractions_grow" 2 ["steps"] nC false 3) (aHl:Cal P w K mg base "weights_for" 2 ["table","weights"] nL false 0) (aH5:Cal P w K mg base "shares_by_steps" 4 ["weights","steps"] nK true 3) (aI7:Cal P w K mg base "fills" 7 ["table","shares","steps"] mX false 3) (Fu:Fun K "shows_fairest" "shows_fairest" rB f fd):
  FnOk P w K mg base CX0 8 f fd ["table","weights","shares","steps"] (spT K jG false 3):=
 gfn Fu aEt rfl (by decide) (fun ts t h=>bI h) (fun cdv A outer s H E hr=>@VW _ _ _ _ _ _ aH1 aHk aHa aHl aH5 aI7 cdv A outer s H E hr) (fun ts t h=>bJ h)
abbrev pQ:Stmt:=top 49
theorem AE:FnScope ["shares","group","total","hand"] ["shares","group"] (defScope pQ):=⟨rfl,rfl,rfl,by decide +kernel,rfl,by decide +kernel,by decide +kernel⟩
def vN:Rho->Option Out:=
 rIf (fB (f2 (f2 (f2 (aA 1) (aA 3) jQ) (fC (.int 1)) fN) (fC (.int 1)) oEq)) (aJ 2 (f1 (aI (aC (aA 2) (aC (f2 (aA 0) (aA 3) oIx) aF)) eU) aN)) aQ
def vM:Rho->Option Out:=
 aH (aJ 2 (bP (aC (fC (.int 0)) (aC (fC (.int 1)) aF))))
  (aH (dL 3 (cH (aC (aI (aC (aA 0) aF) bS) aF) cK)
  vN)
  (aV (f1 (aA 2) aN)))
def fW:List T->Option T:=Fof 2 2 vM
theorem OC (t0 t1:T):fW [t0,t1]=(vM [some t0,some t1,none,none]).bind bC:=rfl
theorem UJ (aGx:Cal P w K mg base "_law_plus" 3 ["one","other"] eU false 3) (aGo:mg "len" = none) (aGn:mg "range" = none) (cdv:Value) (A:Around) (outer:List Env) (s:Shared) (H:Hp) (E:XK)
  (hr:Room 3 (A.deeper (envOfC "_law_fractions_given" (defScope pQ) s.heap.objs.size f cdv))):
  GSs (bA CX0 P w K mg base ["shares","group","total","hand"] "_law_fractions_given" (defScope pQ) f cdv A outer s H E).nox H [1,1,1,1] false 3 (defBody pQ) vM:=by
 have hu:=hr.units;unfold vM vN;exact @aK _ _ _ _ _ _ _ _ _ (@aR _ _ _ _ _ _ _ _ _ _ _ _ 2 (@dQ _ _ _ _ _ _ _ _ (aD aE (aD aE aG))) AE.nd (by rfl) (Or.inl (by rfl)) (by rfl) (by rfl) (by trivial)) (@aK _ _ _ _ _ _ _ _ _ (@dZ _ _ _ _ _ _ _ _ _ 3 _ _ _ _ _ PassesOwn.never (by rfl) (dI (by rfl) (by rfl) aGn (aD (cJ (by rfl) (by rfl) aGo (aD (aB 0) aG)) aG)) AE.nd (by rfl) (Or.inl (by rfl)) (@aL _ _ _ _ _ _ _ (@bV _ _ _ _ _ _ _ _ _ _ _ _ (@bX _ _ _ _ _ _ _ _ _ _ _ _ hu (@jK _ _ _ _ _ _ _ _ _ _ _ _ (@uD _ _ _ _ _ _ _ _ _ _ _ _ (aB 1) (aB 3)) aE) aE) (@aL _ _ _ _ _ _ _ (@aR _ _ _ _ _ _ _ _ _ _ _ _ 2 (@GE.sc _ _ _ _ _ _ _ (aO aGx (hr.mono (by decide)) (by rfl) (aD (aB 2) (aD (@aM _ _ _ _ _ _ _ _ _ _ _ _ (aB 0) (aB 3) (by exact fun _ _=>rfl)) aG)))) AE.nd (by rfl) (Or.inl (by rfl)) (by rfl) (by rfl) (by trivial))) bW)) (by rfl) (by intro _;rfl) (by trivial)) (@aL _ _ _ _ _ _ _ (@aW _ _ _ _ _ _ _ _ (@bB _ _ _ _ _ _ _ _ _ (@GE.sc _ _ _ _ _ _ _ (aB 2)) (by rfl)))))
theorem aAx {fd:FuncData}(aGx:Cal P w K mg base "_law_plus" 3 ["one","other"] eU false 3) (aGo:mg "len" = none) (aGn:mg "range" = none) (Fu:Fun K "_law_fractions_given" "_law_fractions_given" pQ f fd):
  FnOk P w K mg base CX0 4 f fd ["shares","group"] (spT K fW false 3):=
 gfn Fu AE rfl (by decide) (fun ts t h=>bI h) (fun cdv A outer s H E hr=>@UJ _ _ _ _ _ _ aGx aGo aGn cdv A outer s H E hr) (fun ts t h=>bJ h)
abbrev pH:Stmt:=top 50
theorem MI:FnScope ["table","shares","group"] ["table","shares"] (defScope pH):=⟨rfl,rfl,rfl,by decide +kernel,rfl,by decide +kernel,by decide +kernel⟩
def vB:Rho->Option Out:=
 rIf (fT (aI (aC (bP (aC (f1 (f2 (aA 0) (aA 2) oIx) aN) (aC (fC (.int 1)) aF))) (aC (aI (aC (aA 1) (aC (aA 2) aF)) fW) aF)) dE)) (aV (fC (.bl false))) aQ
def sO:Rho->Option Out:=
 aH (dL 2 (cH (aC (aI (aC (aA 0) aF) bS) aF) cK)
  vB)
  (aV (f2 (aI (aC (aA 1) (aC (f2 (aI (aC (aA 0) aF) bS) (fC (.int 1)) cQ) aF)) fW) (bP (aC (f1 (f2 (aA 0) (f1 (fC (.int 1)) dJ) oIx) aN) (aC (fC (.int 1)) aF))) oEq))
def mO:List T->Option T:=Fof 2 1 sO
theorem ES (t0 t1:T):mO [t0,t1]=(sO [some t0,some t1,none]).bind bC:=rfl
theorem UA (aGq:Cal P w K mg base "_law_fractions_given" 4 ["shares","group"] fW false 3) (aGr:Cal P w K mg base "_law_less" 1 ["one","other"] dE false 3) (aGo:mg "len" = none) (aGn:mg "range" = none) (cdv:Value) (A:Around) (outer:List Env) (s:Shared) (H:Hp) (E:XK)
  (hr:Room 4 (A.deeper (envOfC "_law_base" (defScope pH) s.heap.objs.size f cdv))):
  GSs (bA CX0 P w K mg base ["table","shares","group"] "_law_base" (defScope pH) f cdv A outer s H E).nox H [1,1,1] false 3 (defBody pH) sO:=by
 have hu:=hr.units;unfold sO vB;exact @aK _ _ _ _ _ _ _ _ _ (@dZ _ _ _ _ _ _ _ _ _ 2 _ _ _ _ _ PassesOwn.never (by rfl) (dI (by rfl) (by rfl) aGn (aD (cJ (by rfl) (by rfl) aGo (aD (aB 0) aG)) aG)) MI.nd (by rfl) (Or.inl (by rfl)) (@aL _ _ _ _ _ _ _ (@bV _ _ _ _ _ _ _ _ _ _ _ _ (@eE _ _ _ _ _ _ _ (aO aGr (hr.mono (by decide)) (by rfl) (aD (@dQ _ _ _ _ _ _ _ _ (aD (@GE.sc _ _ _ _ _ _ _ (@aM _ _ _ _ _ _ _ _ _ _ _ _ (aB 0) (aB 2) (by exact fun _ _=>rfl))) (aD aE aG))) (aD (aO aGq (hr.mono (by decide)) (by rfl) (aD (aB 1) (aD (aB 2) aG))) aG))) (by intro _;rfl)) (@aL _ _ _ _ _ _ _ (@aW _ _ _ _ _ _ _ _ (@bB _ _ _ _ _ _ _ _ _ jL (by rfl)))) bW)) (by rfl) (by intro _;rfl) (by trivial)) (@aL _ _ _ _ _ _ _ (@aW _ _ _ _ _ _ _ _ (@bB _ _ _ _ _ _ _ _ _ (@fK _ _ _ _ _ _ _ _ _ _ _ _ hu (aO aGq (hr.mono (by decide)) (by rfl) (aD (aB 1) (aD (@dH _ _ _ _ _ _ _ _ _ _ _ _ (cJ (by rfl) (by rfl) aGo (aD (aB 0) aG)) aE) aG))) (@dQ _ _ _ _ _ _ _ _ (aD (@GE.sc _ _ _ _ _ _ _ (@aM _ _ _ _ _ _ _ _ _ _ _ _ (aB 0) (@gY _ _ _ _ _ _ _ _ aE) (by exact fun _ _=>rfl))) (aD aE aG)))) (by rfl))))
theorem aAo {fd:FuncData}(aGq:Cal P w K mg base "_law_fractions_given" 4 ["shares","group"] fW false 3) (aGr:Cal P w K mg base "_law_less" 1 ["one","other"] dE false 3) (aGo:mg "len" = none) (aGn:mg "range" = none) (Fu:Fun K "_law_base" "_law_base" pH f fd):
  FnOk P w K mg base CX0 5 f fd ["table","shares"] (spT K mO false 3):=
 gfn Fu MI rfl (by decide) (fun ts t h=>bI h) (fun cdv A outer s H E hr=>@UA _ _ _ _ _ _ aGq aGr aGo aGn cdv A outer s H E hr) (fun ts t h=>bJ h)
abbrev pS:Stmt:=top 57
theorem AF:FnScope ["steps","last","ahead","k"] ["steps","last"] (defScope pS):=⟨rfl,rfl,rfl,by decide +kernel,rfl,by decide +kernel,by decide +kernel⟩
def mC:Rho->Option Out:=
 aH (rIf (pOr (fB (f2 (f2 (f2 (f2 (aA 0) (aA 3) oIx) (fC (.int 0)) oIx) (aA 2) fN) (aA 2) oNe)) (fB (f2 (f2 (f2 (aA 0) (aA 3) oIx) (fC (.int 0)) oIx) (aA 2) oEq))) (aV (fC (.bl false))) aQ)
  (aH (rIf (eO (fB (f2 (aA 3) (fC (.int 0)) oGt)) (eG (fT (aI (aC (f2 (f2 (aA 0) (f2 (aA 3) (fC (.int 1)) cQ) oIx) (fC (.int 1)) oIx) (aC (f2 (f2 (aA 0) (aA 3) oIx) (fC (.int 1)) oIx) aF)) dE)))) (aV (fC (.bl false))) aQ)
  (aJ 2 (f1 (f2 (f2 (aA 0) (aA 3) oIx) (fC (.int 0)) oIx) aN)))
def sS:Rho->Option Out:=
 aH (aJ 2 (fC (.int 0)))
  (aH (dL 3 (cH (aC (aI (aC (aA 0) aF) bS) aF) cK)
  mC)
  (aV (f2 (aA 2) (aA 1) oEq)))
def mQ:List T->Option T:=Fof 2 2 sS
theorem EU (t0 t1:T):mQ [t0,t1]=(sS [some t0,some t1,none,none]).bind bC:=rfl
theorem UL (aGr:Cal P w K mg base "_law_less" 1 ["one","other"] dE false 3) (aGo:mg "len" = none) (aGn:mg "range" = none) (cdv:Value) (A:Around) (outer:List Env) (s:Shared) (H:Hp) (E:XK)
  (hr:Room 1 (A.deeper (envOfC "_law_grow" (defScope pS) s.heap.objs.size f cdv))):
  GSs (bA CX0 P w K mg base ["steps","last","ahead","k"] "_law_grow" (defScope pS) f cdv A outer s H E).nox H [1,1,1,1] false 3 (defBody pS) sS:=by
 have hu:=hr.units;unfold sS mC;exact @aK _ _ _ _ _ _ _ _ _ (@aR _ _ _ _ _ _ _ _ _ _ _ _ 2 aE AF.nd (by rfl) (Or.inl (by rfl)) (by rfl) (by rfl) (by trivial)) (@aK _ _ _ _ _ _ _ _ _ (@dZ _ _ _ _ _ _ _ _ _ 3 _ _ _ _ _ PassesOwn.never (by rfl) (dI (by rfl) (by rfl) aGn (aD (cJ (by rfl) (by rfl) aGo (aD (aB 0) aG)) aG)) AF.nd (by rfl) (Or.inl (by rfl)) (@aK _ _ _ _ _ _ _ _ _ (@bV _ _ _ _ _ _ _ _ _ _ _ _ (@GW.gt _ _ _ _ _ (@kO _ _ _ _ _ _ _ _ _ (@uH _ _ _ _ _ _ _ _ _ _ _ _ hu (@jK _ _ _ _ _ _ _ _ _ _ _ _ (@aM _ _ _ _ _ _ _ _ _ _ _ _ (@aM _ _ _ _ _ _ _ _ _ _ _ _ (aB 0) (aB 3) (by exact fun _ _=>rfl)) aE (by exact fun _ _=>rfl)) (aB 2)) (aB 2)) (@kP _ _ _ _ _ _ (@bX _ _ _ _ _ _ _ _ _ _ _ _ hu (@aM _ _ _ _ _ _ _ _ _ _ _ _ (@aM _ _ _ _ _ _ _ _ _ _ _ _ (aB 0) (aB 3) (by exact fun _ _=>rfl)) aE (by exact fun _ _=>rfl)) (aB 2))))) (@aL _ _ _ _ _ _ _ (@aW _ _ _ _ _ _ _ _ (@bB _ _ _ _ _ _ _ _ _ jL (by rfl)))) bW) (@aK _ _ _ _ _ _ _ _ _ (@bV _ _ _ _ _ _ _ _ _ _ _ _ (@GW.gt _ _ _ _ _ (@kN _ _ _ _ _ _ _ _ _ (@rZ _ _ _ _ _ _ _ _ _ _ _ _ (aB 3) aE) (@sB _ _ _ _ _ _ (@gZ _ _ _ _ _ _ (@eE _ _ _ _ _ _ _ (aO aGr (hr.mono (by decide)) (by rfl) (aD (@aM _ _ _ _ _ _ _ _ _ _ _ _ (@aM _ _ _ _ _ _ _ _ _ _ _ _ (aB 0) (@dH _ _ _ _ _ _ _ _ _ _ _ _ (aB 3) aE) (by exact fun _ _=>rfl)) aE (by exact fun _ _=>rfl)) (aD (@aM _ _ _ _ _ _ _ _ _ _ _ _ (@aM _ _ _ _ _ _ _ _ _ _ _ _ (aB 0) (aB 3) (by exact fun _ _=>rfl)) aE (by exact fun _ _=>rfl)) aG))) (by intro _;rfl)))))) (@aL _ _ _ _ _ _ _ (@aW _ _ _ _ _ _ _ _ (@bB _ _ _ _ _ _ _ _ _ jL (by rfl)))) bW) (@aL _ _ _ _ _ _ _ (@aR _ _ _ _ _ _ _ _ _ _ _ _ 2 (@GE.sc _ _ _ _ _ _ _ (@aM _ _ _ _ _ _ _ _ _ _ _ _ (@aM _ _ _ _ _ _ _ _ _ _ _ _ (aB 0) (aB 3) (by exact fun _ _=>rfl)) aE (by exact fun _ _=>rfl))) AF.nd (by rfl) (Or.inl (by rfl)) (by rfl) (by rfl) (by trivial))))) (by rfl) (by intro _;rfl) (by trivial)) (@aL _ _ _ _ _ _ _ (@aW _ _ _ _ _ _ _ _ (@bB _ _ _ _ _ _ _ _ _ (@fK _ _ _ _ _ _ _ _ _ _ _ _ hu (aB 2) (aB 1)) (by rfl)))))
theorem aAz {fd:FuncData}(aGr:Cal P w K mg base "_law_less" 1 ["one","other"] dE false 3) (aGo:mg "len" = none) (aGn:mg "range" = none) (Fu:Fun K "_law_grow" "_law_grow" pS f fd):
  FnOk P w K mg base CX0 2 f fd ["steps","last"] (spT K mQ false 3):=
 gfn Fu AF rfl (by decide) (fun ts t h=>bI h) (fun cdv A outer s H E hr=>@UL _ _ _ _ _ _ aGr aGo aGn cdv A outer s H E hr) (fun ts t h=>bJ h)
abbrev pK:Stmt:=top 58
theorem MJ:FnScope ["table","weights","shares","steps","step"] ["table","weights","shares","steps"] (defScope pK):=⟨rfl,rfl,rfl,by decide +kernel,rfl,by decide +kernel,by decide +kernel⟩
def vF:Rho->Option Out:=
 rIf (fB (f2 (aI (aC (aA 2) (aC (f2 (aA 4) (fC (.int 0)) oIx) aF)) fW) (bP (aC (f1 (f2 (aA 0) (f2 (aA 4) (fC (.int 0)) oIx) oIx) aN) (aC (fC (.int 1)) aF))) oNe)) (aV (fC (.bl false))) aQ
def kZ:Rho->Option Out:=
 aH (rIf (pOr (eG (fT (aI (aC (aA 0) (aC (aA 2) aF)) mO))) (eG (fT (aI (aC (aA 3) (aC (f2 (aI (aC (aA 0) aF) bS) (fC (.int 1)) cQ) aF)) mQ)))) (aV (fC (.bl false))) aQ)
  (aH (dL 4 (fFL (aA 3))
  vF)
  (aV (f2 (aA 2) (aI (aC (aA 3) (aC (aA 1) aF)) fU) oEq)))
def jE:List T->Option T:=Fof 4 1 kZ
theorem xI (t0 t1 t2 t3:T):jE [t0,t1,t2,t3]=(kZ [some t0,some t1,some t2,some t3,none]).bind bC:=rfl
theorem UD (aHs:Cal P w K mg base "_law_base" 5 ["table","shares"] mO false 3) (aHu:Cal P w K mg base "_law_grow" 2 ["steps","last"] mQ false 3) (aGq:Cal P w K mg base "_law_fractions_given" 4 ["shares","group"] fW false 3) (aGz:Cal P w K mg base "_law_fair" 3 ["steps","weights"] fU true 3) (aGo:mg "len" = none) (cdv:Value) (A:Around) (outer:List Env) (s:Shared) (H:Hp) (E:XK)
  (hr:Room 5 (A.deeper (envOfC "_law_due" (defScope pK) s.heap.objs.size f cdv))):
  GSs (bA CX0 P w K mg base ["table","weights","shares","steps","step"] "_law_due" (defScope pK) f cdv A outer s H E).nox H [1,1,1,1,1] false 3 (defBody pK) kZ:=by
 have hu:=hr.units;unfold kZ vF;exact @aK _ _ _ _ _ _ _ _ _ (@bV _ _ _ _ _ _ _ _ _ _ _ _ (@GW.gt _ _ _ _ _ (@kO _ _ _ _ _ _ _ _ _ (@gZ _ _ _ _ _ _ (@eE _ _ _ _ _ _ _ (aO aHs (hr.mono (by decide)) (by rfl) (aD (aB 0) (aD (aB 2) aG))) (by intro _;rfl))) (@kP _ _ _ _ _ _ (@gZ _ _ _ _ _ _ (@eE _ _ _ _ _ _ _ (aO aHu (hr.mono (by decide)) (by rfl) (aD (aB 3) (aD (@dH _ _ _ _ _ _ _ _ _ _ _ _ (cJ (by rfl) (by rfl) aGo (aD (aB 0) aG)) aE) aG))) (by intro _;rfl)))))) (@aL _ _ _ _ _ _ _ (@aW _ _ _ _ _ _ _ _ (@bB _ _ _ _ _ _ _ _ _ jL (by rfl)))) bW) (@aK _ _ _ _ _ _ _ _ _ (@dZ _ _ _ _ _ _ _ _ _ 4 _ _ _ _ _ PassesOwn.never (by rfl) (eC (aB 3)) MJ.nd (by rfl) (Or.inl (by rfl)) (@aL _ _ _ _ _ _ _ (@bV _ _ _ _ _ _ _ _ _ _ _ _ (@uH _ _ _ _ _ _ _ _ _ _ _ _ hu (aO aGq (hr.mono (by decide)) (by rfl) (aD (aB 2) (aD (@aM _ _ _ _ _ _ _ _ _ _ _ _ (aB 4) aE (by exact fun _ _=>rfl)) aG))) (@dQ _ _ _ _ _ _ _ _ (aD (@GE.sc _ _ _ _ _ _ _ (@aM _ _ _ _ _ _ _ _ _ _ _ _ (aB 0) (@aM _ _ _ _ _ _ _ _ _ _ _ _ (aB 4) aE (by exact fun _ _=>rfl)) (by exact fun _ _=>rfl))) (aD aE aG)))) (@aL _ _ _ _ _ _ _ (@aW _ _ _ _ _ _ _ _ (@bB _ _ _ _ _ _ _ _ _ jL (by rfl)))) bW)) (by rfl) (by intro _;rfl) (by trivial)) (@aL _ _ _ _ _ _ _ (@aW _ _ _ _ _ _ _ _ (@bB _ _ _ _ _ _ _ _ _ (@fK _ _ _ _ _ _ _ _ _ _ _ _ hu (aB 2) (aO aGz (hr.mono (by decide)) (by rfl) (aD (aB 3) (aD (aB 1) aG)))) (by rfl)))))
theorem aAr {fd:FuncData}(aHs:Cal P w K mg base "_law_base" 5 ["table","shares"] mO false 3) (aHu:Cal P w K mg base "_law_grow" 2 ["steps","last"] mQ false 3) (aGq:Cal P w K mg base "_law_fractions_given" 4 ["shares","group"] fW false 3) (aGz:Cal P w K mg base "_law_fair" 3 ["steps","weights"] fU true 3) (aGo:mg "len" = none) (Fu:Fun K "_law_due" "_law_due" pK f fd):
  FnOk P w K mg base CX0 6 f fd ["table","weights","shares","steps"] (spT K jE false 3):=
 gfn Fu MJ rfl (by decide) (fun ts t h=>bI h) (fun cdv A outer s H E hr=>@UD _ _ _ _ _ _ aHs aHu aGq aGz aGo cdv A outer s H E hr) (fun ts t h=>bJ h)
abbrev jA:Stmt:=top 59
theorem jB:FnScope ["script","hands","which","changed","table","weights","shares","steps","handed","told"] ["script"] (defScope jA):=⟨rfl,rfl,rfl,by decide +kernel,rfl,by decide +kernel,by decide +kernel⟩
def wT:Rho->Option Out:=
 aH (aJ 1 (f1 (aI (aC (aA 0) aF) jX) aN))
  (aH (aJ 2 (f2 (f2 (aI (aC (aA 0) (aC (fC (.int 146)) aF)) aT) (fC (.int 5)) aY) (fC (.int 7)) aS))
  (aH (aJ 3 (f2 (f2 (f2 (aI (aC (aA 0) (aC (fC (.int 149)) aF)) aT) (fC (.int 3)) aY) (fC (.int 2)) aS) (fC (.int 1)) oEq))
  (aH (yX 4 5 6 7 3 0 (aI (aC (aA 0) (aC (aA 1) (aC (aA 2) aF))) jW) jD)
  (aH (aJ 8 (cO (aC (f1 (aI (aC (aA 4) aF) fE) dB) (aC (f1 (aI (aC (aA 5) aF) fE) dB) (aC (f1 (aI (aC (aA 6) aF) fE) dB) (aC (f1 (aI (aC (aA 7) aF) fE) dB) aF))))))
  (aH (aJ 9 (f1 (aI (aC (f2 (aA 8) (fC (.int 0)) oIx) (aC (f2 (aA 8) (fC (.int 1)) oIx) (aC (f2 (aA 8) (fC (.int 2)) oIx) (aC (f2 (aA 8) (fC (.int 3)) oIx) aF)))) jG) aN))
  (aH (rIf (pOr (eG (fT (f1 (aA 9) (uQ "bool")))) (fB (f2 (aA 8) (cO (aC (aA 4) (aC (aA 5) (aC (aA 6) (aC (aA 7) aF))))) oNe))) (aV (fC (.bl false))) aQ)
  (aH (rIf (eO (fB (f2 (aA 2) (bP (aC (fC (.int 0)) (aC (fC (.int 6)) aF))) oIn)) (eO (eG (fT (aA 3))) (eG (fT (aA 9))))) (aV (fC (.bl false))) aQ)
  (aV (f2 (aA 9) (aI (aC (aA 4) (aC (aA 5) (aC (aA 6) (aC (aA 7) aF)))) jE) oEq)))))))))
def rH:List T->Option T:=Fof 1 9 wT
theorem PZ (t0:T):rH [t0]=(wT [some t0,none,none,none,none,none,none,none,none,none]).bind bC:=rfl
theorem VQ (aHn:Cal P w K mg base "_law_hands" 2 ["script"] jX false 3) (aGm:Cal P w K mg base "_law_mixed" 1 ["script","k"] aT false 3) (aHt:Cal P w K mg base "_law_case" 6 ["script","hands","which"] jW true 3) (aHe:CalC3 P w K mg base "_law_changed" 4 ["script","weights","shares","steps"] [1,2,3] jD) (aHc:Cal P w K mg base "shows_fairest" 8 ["table","weights","shares","steps"] jG false 3) (aHx:Cal P w K mg base "_law_due" 6 ["table","weights","shares","steps"] jE false 3) (nol:NoL K) (aHg:mg "list" = none) (aHr:mg "isinstance" = none) (aIa:mg "bool" = none) (cdv:Value) (A:Around) (outer:List Env) (s:Shared) (H:Hp) (E:XK)
  (hr:Room 8 (A.deeper (envOfC "law" (defScope jA) s.heap.objs.size f cdv))):
  GSs (bA CX0 P w K mg base ["script","hands","which","changed","table","weights","shares","steps","handed","told"] "law" (defScope jA) f cdv A outer s H E).nox H [1,1,1,1,1,1,1,1,1,1] false 3 (defBody jA) wT:=by
 have hu:=hr.units;unfold wT;exact @aK _ _ _ _ _ _ _ _ _ (@aR _ _ _ _ _ _ _ _ _ _ _ _ 1 (@GE.sc _ _ _ _ _ _ _ (aO aHn (hr.mono (by decide)) (by rfl) (aD (aB 0) aG))) jB.nd (by rfl) (Or.inl (by rfl)) (by rfl) (by rfl) (by trivial)) (@aK _ _ _ _ _ _ _ _ _ (@aR _ _ _ _ _ _ _ _ _ _ _ _ 2 (@bO _ _ _ _ _ _ _ _ _ _ _ _ (@cC _ _ _ _ _ _ _ _ _ _ _ _ (aO aGm (hr.mono (by decide)) (by rfl) (aD (aB 0) (aD aE aG))) aE) aE) jB.nd (by rfl) (Or.inl (by rfl)) (by rfl) (by rfl) (by trivial)) (@aK _ _ _ _ _ _ _ _ _ (@aR _ _ _ _ _ _ _ _ _ _ _ _ 3 (@fK _ _ _ _ _ _ _ _ _ _ _ _ hu (@bO _ _ _ _ _ _ _ _ _ _ _ _ (@cC _ _ _ _ _ _ _ _ _ _ _ _ (aO aGm (hr.mono (by decide)) (by rfl) (aD (aB 0) (aD aE aG))) aE) aE) aE) jB.nd (by rfl) (Or.inl (by rfl)) (by rfl) (by rfl) (by trivial)) (XX nol (fun _ h=>h) (aO aHt (hr.mono (by decide)) (by rfl) (aD (aB 0) (aD (aB 1) (aD (aB 2) aG)))) (by rfl) (@eD _ _ _ _ _ _ jB.nd (by rfl) (Or.inl (by rfl)) (@eD _ _ _ _ _ _ jB.nd (by rfl) (Or.inl (by rfl)) (@eD _ _ _ _ _ _ jB.nd (by rfl) (Or.inl (by rfl)) (@eD _ _ _ _ _ _ jB.nd (by rfl) (Or.inl (by rfl)) (@nS _) (by trivial) (by rfl)) (by trivial) (by rfl)) (by trivial) (by rfl)) (by trivial) (by rfl)) (aDf aHe (hr.mono (by decide)) (by rfl)) (@eE _ _ _ _ _ _ _ (aB 3) (by intro _;rfl)) (@aK _ _ _ _ _ _ _ _ _ (@aR _ _ _ _ _ _ _ _ _ _ _ _ 8 (@eB _ _ _ _ _ _ _ (aD (@GE.flt _ _ _ _ _ _ (uC (by rfl) (by rfl) aHg (aD (aB 4) aG))) (aD (@GE.flt _ _ _ _ _ _ (uC (by rfl) (by rfl) aHg (aD (aB 5) aG))) (aD (@GE.flt _ _ _ _ _ _ (uC (by rfl) (by rfl) aHg (aD (aB 6) aG))) (aD (@GE.flt _ _ _ _ _ _ (uC (by rfl) (by rfl) aHg (aD (aB 7) aG))) aG))))) jB.nd (by rfl) (Or.inl (by rfl)) (by rfl) (by rfl) (by trivial)) (@aK _ _ _ _ _ _ _ _ _ (@aR _ _ _ _ _ _ _ _ _ _ _ _ 9 (@GE.sc _ _ _ _ _ _ _ (aO aHc (hr.mono (by decide)) (by rfl) (aD (@aM _ _ _ _ _ _ _ _ _ _ _ _ (aB 8) aE (by exact fun _ _=>rfl)) (aD (@aM _ _ _ _ _ _ _ _ _ _ _ _ (aB 8) aE (by exact fun _ _=>rfl)) (aD (@aM _ _ _ _ _ _ _ _ _ _ _ _ (aB 8) aE (by exact fun _ _=>rfl)) (aD (@aM _ _ _ _ _ _ _ _ _ _ _ _ (aB 8) aE (by exact fun _ _=>rfl)) aG)))))) jB.nd (by rfl) (Or.inl (by rfl)) (by rfl) (by rfl) (by trivial)) (@aK _ _ _ _ _ _ _ _ _ (@bV _ _ _ _ _ _ _ _ _ _ _ _ (@GW.gt _ _ _ _ _ (@kO _ _ _ _ _ _ _ _ _ (@gZ _ _ _ _ _ _ (@eE _ _ _ _ _ _ _ (@XB _ _ _ _ _ _ _ _ _ _ _ _ _ (by rfl) YO (by rfl) aHr (by rfl) aIa PyProof.Rows.boot_bool (aB 9) (by decide) (by decide) (by rfl) (by rfl) (by rfl)) (by intro _;rfl))) (@kP _ _ _ _ _ _ (@uH _ _ _ _ _ _ _ _ _ _ _ _ hu (aB 8) (@eB _ _ _ _ _ _ _ (aD (aB 4) (aD (aB 5) (aD (aB 6) (aD (aB 7) aG))))))))) (@aL _ _ _ _ _ _ _ (@aW _ _ _ _ _ _ _ _ (@bB _ _ _ _ _ _ _ _ _ jL (by rfl)))) bW) (@aK _ _ _ _ _ _ _ _ _ (@bV _ _ _ _ _ _ _ _ _ _ _ _ (@GW.gt _ _ _ _ _ (@kN _ _ _ _ _ _ _ _ _ (@IX _ _ _ _ _ _ _ _ _ _ _ _ (aB 2) (@dQ _ _ _ _ _ _ _ _ (aD aE (aD aE aG))) (by rfl)) (@kN _ _ _ _ _ _ _ _ _ (@gZ _ _ _ _ _ _ (@eE _ _ _ _ _ _ _ (aB 3) (by intro _;rfl))) (@sB _ _ _ _ _ _ (@gZ _ _ _ _ _ _ (@eE _ _ _ _ _ _ _ (aB 9) (by intro _;rfl))))))) (@aL _ _ _ _ _ _ _ (@aW _ _ _ _ _ _ _ _ (@bB _ _ _ _ _ _ _ _ _ jL (by rfl)))) bW) (@aL _ _ _ _ _ _ _ (@aW _ _ _ _ _ _ _ _ (@bB _ _ _ _ _ _ _ _ _ (@fK _ _ _ _ _ _ _ _ _ _ _ _ hu (aB 9) (aO aHx (hr.mono (by decide)) (by rfl) (aD (aB 4) (aD (aB 5) (aD (aB 6) (aD (aB 7) aG)))))) (by rfl)))))))) (by rfl) (by rfl) (by rfl))))
theorem aBt {fd:FuncData}(aHn:Cal P w K mg base "_law_hands" 2 ["script"] jX false 3) (aGm:Cal P w K mg base "_law_mixed" 1 ["script","k"] aT false 3) (aHt:Cal P w K mg base "_law_case" 6 ["script","hands","which"] jW true 3) (aHe:CalC3 P w K mg base "_law_changed" 4 ["script","weights","shares","steps"] [1,2,3] jD) (aHc:Cal P w K mg base "shows_fairest" 8 ["table","weights","shares","steps"] jG false 3) (aHx:Cal P w K mg base "_law_due" 6 ["table","weights","shares","steps"] jE false 3) (nol:NoL K) (aHg:mg "list" = none) (aHr:mg "isinstance" = none) (aIa:mg "bool" = none) (Fu:Fun K "law" "law" jA f fd):
  FnOk P w K mg base CX0 9 f fd ["script"] (spT K rH false 3):=
 gfn Fu jB rfl (by decide) (fun ts t h=>bI h) (fun cdv A outer s H E hr=>@VQ _ _ _ _ _ _ aHn aGm aHt aHe aHc aHx nol aHg aHr aIa cdv A outer s H E hr) (fun ts t h=>bJ h)
end My
namespace My
open PySem PySem.Spec PyProof.Rows L2 G
def aP (ns:List Int) (k:Nat):Int:=((if 0<ns.length then ns.getD (k%ns.length) 0%2147483647 else 0)+7919*(k:Int)+1)*(48271+2*(k:Int)*(k:Int))%2147483647
theorem cU (ns:List Int) {k:Nat}(h1:k<1000):aT [.lst (tI ns),.int (k:Int)]=some (.int (aP ns k)):=by
 have m1:bD (.int 7919) (.int (k:Int))=some (.int (7919*(k:Int))):=hX (by decide);have m2:bD (.int 2) (.int (k:Int))=some (.int (2*(k:Int))):=hX (by decide);have m3:bD (.int (2*(k:Int))) (.int (k:Int))=some (.int (2*(k:Int)*(k:Int))):=hX (by lia);have m4:∀ i:Int,aS (.int i) (.int 2147483647)=some (.int (i%2147483647)):=fun i=>bU (by decide);rw[OG];unfold vR aP
 by_cases h:0<ns.length
 ·have hm:k%ns.length<ns.length:=Nat.mod_lt _ h
  have m5:aS (.int (k:Int)) (.int (ns.length:Int))=some (.int ((k%ns.length:Nat):Int)):=by rw[bU (by lia),Int.natCast_emod]
  have a1:atI (tI ns) ((k%ns.length:Nat):Int)=some (.int (ns.getD (k%ns.length) 0)):=dG hm;have h':decide ((0:Int)<(ns.length:Int))=true:=decide_eq_true (by lia);rw[if_pos h];generalize ns.getD (k%ns.length) 0=c at a1;have c0:0<=c%2147483647:=aJc _ (by decide);have c1:c%2147483647<2147483647:=aJb _ (by decide);have mc:=m4 c;generalize c%2147483647=y at c0 c1 mc;have m6:bD (.int (y+7919*(k:Int)+1)) (.int (48271+2*(k:Int)*(k:Int)))=some (.int ((y+7919*(k:Int)+1)*(48271+2*(k:Int)*(k:Int)))):=hX (by lia);simp only[rSeq_at,rSet_at,rIf_at,rRet_at,fB_at,f2_at,fVar_at,fC_at,fCall_at,aCons_at,aNil_at,List.set,zz0,zz1,jn,zz2,zz3,oLen_lst,tI_length,oGt_int,h',isB_bl,if_true,m5,oIx_lst,a1,mc,m1,m2,m3,oAdd_int,m6,m4,outT_rt]
 ·have h':decide ((0:Int)<(ns.length:Int))=false:=decide_eq_false (by lia)
  rw[if_neg h];have m6:bD (.int (0+7919*(k:Int)+1)) (.int (48271+2*(k:Int)*(k:Int)))=some (.int ((0+7919*(k:Int)+1)*(48271+2*(k:Int)*(k:Int)))):=hX (by lia);simp only[rSeq_at,rSet_at,rIf_at,rNext_at,rRet_at,fB_at,f2_at,fVar_at,fC_at,fCall_at,aCons_at,aNil_at,List.set,zz0,zz1,jn,zz2,zz3,oLen_lst,tI_length,oGt_int,h',isB_bl,aJ4,if_false,m1,m2,m3,oAdd_int,m6,m4,outT_rt]
def HV:List Int:=[1,2,3,4,3,4,5,6]
theorem WB:(List.range 8).all (fun k=>match atI (tI HV) (k:Int) with | some (.int i)=>decide (1<=i)&&decide (i<=6) | _=>false)=true:=by decide +kernel
theorem PU (ns:List Int):∃ n:Nat,1<=n/\n<=6/\jX [.lst (tI ns)]=some (.int (n:Int)):=by
 have f0:aT [.lst (tI ns),.int 0]=some (.int (aP ns 0)):=cU ns (k:=0) (by decide);have d3:aY (.int (aP ns 0)) (.int 3)=some (.int (aP ns 0 / 3)):=cP (by decide) (by decide);have c0:0<=aP ns 0 / 3%8:=aJc _ (by decide);have c1:aP ns 0 / 3%8<8:=aJb _ (by decide);have m:aS (.int (aP ns 0 / 3)) (.int 8)=some (.int ((aP ns 0 / 3%8).toNat:Int)):=by rw[bU (by decide),Int.toNat_of_nonneg c0]
 have hk:(aP ns 0 / 3%8).toNat<8:=by lia
 generalize (aP ns 0 / 3%8).toNat=k at m hk;have a:=aIu.mp WB k (aIv.mpr hk);cases h:atI (tI HV) (k:Int) with
 | none=>rw[h] at a;cases a
 | some t=>
  rw[h] at a;cases t<;>first | (cases a;done) | skip
  rename_i i;simp only[aJ1,decide_eq_true_eq] at a;refine⟨i.toNat,by lia,by lia,?_⟩;rw[OE];unfold vP;simp only[rRet_at,f1_at,f2_at,fC_at,fVar_at,fCall_at,aCons_at,aNil_at,zz0,jn,zz2,f0,d3,m,oIx_lst,show atI (tI [1,2,3,4,3,4,5,6]) (k:Int)=some (.int i) from h,gScal_int,zz3,outT_rt]
  congr 2
  lia
theorem AQ (ns:List Int) (hl:ns.length<=63) {many:Nat}(h1:1<=many) (h64:many<=64) {far:Int}(hf:0<far):∃ ps,eS [.lst (tI ns),.int (many:Int),.int far]=some (.lst (tI ps))/\ps.length=many/\∀ x∈ps,0<=x/\x<far:=by
 have mM:∀ i:Int,aS (.int i) (.int (many:Int))=some (.int (i%(many:Int))):=fun i=>bU (by lia);have mF:∀ i:Int,aS (.int i) (.int far)=some (.int (i%far)):=fun i=>bU hf;have m1:∀ i:Int,bD (.int i) (.int 1009)=some (.int (i*1009)):=fun i=>nZ (by decide);have e1:bN bE DS [none] (G.rangeT 0 many)=some (tI ((List.range many).map fun _=>0)):=rQ _ fun i _=>rfl;obtain⟨ρ',hloop,ps,x4,x5,rfl,q1,q2⟩:=kI (j:=4) (n:=ns.length) (body:=zH) (fun i ρ=>∃ ps x4 x5,ρ=[some (.lst (tI ns)),some (.int (many:Int)),some (.int far),some (.lst (tI ps)),x4,x5]/\ps.length=many/\∀ x∈ps,0<=x/\x<far) (fun i hi ρ hρ=>by
   obtain⟨ps,x4,x5,rfl,q1,q2⟩:=hρ;have ec:atI (tI ns) (i:Int)=some (.int (ns.getD i 0)):=dG hi;generalize ns.getD i 0=c at ec;have p0:0<=(i:Int)%(many:Int):=aJc _ (by lia);have p1:(i:Int)%(many:Int)<(many:Int):=aJb _ (by lia);generalize hq:(i:Int)%(many:Int)=q at *;have ep:atI (tI ps) q=some (.int (ps.getD q.toNat 0)):=GJ (by lia) (by lia);generalize ps.getD q.toNat 0=g at ep;have ix:ixN ps.length q=some q.toNat:=nU (by lia) (by lia);refine⟨[some (.lst (tI ns)),some (.int (many:Int)),some (.int far),some (.lst (tI (ps.set q.toNat ((g*1009+c)%far)))),some (.int i),some (.int q)],?_,_,_,_,rfl,by simp[q1],?_⟩
   ·unfold zH
    simp only[rSeq_at,rSet_at,rPut_at,f2_at,fVar_at,fC_at,List.set,zz0,zz1,jn,zz2,zz3,mM,hq,oIx_lst,ep,m1,ec,oAdd_int,mF,tI_length,ix,xG]
   ·intro x hx
    rcases List.mem_or_eq_of_mem_set hx with hx | rfl
    ·exact q2 x hx
    ·exact⟨aJc _ (by lia),aJb _ hf⟩)
  [some (.lst (tI ns)),some (.int (many:Int)),some (.int far),some (.lst (tI ((List.range many).map fun _=>0))),none,none]
  ⟨_,_,_,rfl,by simp,fun x hx=>by
   obtain⟨i,_,rfl⟩:=aKj.mp hx;exact⟨aJe _,hf⟩⟩
 refine⟨ps,?_,q1,q2⟩;have r1:=eN ns.length (by lia);have r2:=eN many (by lia);have c2:((List.range many).map fun _=>(0:Int)).length<=cap:=by simp;unfold cap;lia
 rw[OA];unfold vK;simp only[rSeq_at,rSetM_at,rFor_at,rRet_at,fMut_at,fVar_at,fCall_at,aCons_at,aNil_at,fComp_at,fRange_at,List.set,zz0,zz1,jn,zz2,zz3,r2,bR,aKc,aKe,aLh,e1,tI_length,c2,if_true,okM_lst,oLen_lst,r1,hloop,flat_tI',outT_rt]
theorem ZR:(List.range 64).all (fun k=>DX (gK [.int (k:Int)]) (some (.int (bL k:Nat))))=true:=by decide +kernel
theorem FH {g:Nat}(h:g<64):gK [.int (g:Int)]=some (.int (bL g:Nat)):=MG (aIu.mp ZR g (aIv.mpr h))
theorem SQ:(List.range 64).all (fun k=>decide (bL k<=6))=true:=by decide +kernel
theorem SO {g:Nat}(h:g<64):bL g<=6:=of_decide_eq_true (aIu.mp SQ g (aIv.mpr h))
def Bd (b:Nat) (t:List Int):Prop:=∀ x∈t,x.natAbs<=b
theorem Bd.le {b c:Nat}{t:List Int}(h:Bd b t) (hc:b<=c):Bd c t:=fun x hx=>aKw (h x hx) hc
theorem nR {l:List Int}{i:Nat}(h:i<l.length):l.getD i 0∈l:=by
 rw[aIp,aIq h];exact aK1 h
theorem Bd.get {b:Nat}{t:List Int}(h:Bd b t) (i:Nat):(t.getD i 0).natAbs<=b:=by
 by_cases hi:i<t.length
 ·exact h _ (nR hi)
 ·rw[aIp,aJv (Nat.le_of_not_lt hi)];exact aLf _
theorem Bd.of {b:Nat}{t:List Int}(h:∀ i,i<t.length->(t.getD i 0).natAbs<=b):Bd b t:=fun x hx=>by
 obtain⟨i,hi,rfl⟩:=List.mem_iff_getElem.mp hx;have:=h i hi
 rwa [aIp,aIq hi] at this
theorem eX {n:Nat}(h:n<=6):2^n<=64:=aKw (aL8 (by decide) h) (by decide:2^6<=64)
theorem GD {a b n:Nat}(h:a<2^n):a&&&b<2^n:=aKy aKq h
structure Fal (n b:Nat) (t:List Int):Prop where
 len:t.length=2^n
 zero:t.getD 0 0=0
 bd:Bd b t
 sub:Sub n t
theorem Fal.le {n b c:Nat}{t:List Int}(h:Fal n b t) (k:b<=c):Fal n c t:=⟨h.len,h.zero,h.bd.le k,h.sub⟩
theorem FW {n j:Nat}{body:Rho->Option Out}{pre:List (Option T)}(mk:List Int->Option T->Option T->Rho) (f:Nat->Int) (hset:∀ tab x y (g:Nat),(mk tab x y).set j (some (.int (g:Int)))=mk tab (some (.int (g:Int))) y)
  (hb:∀ (tab:List Int) (g:Nat) (y:Option T),tab.length=2^n->g<2^n->∃ y',body (mk tab (some (.int (g:Int))) y)=some (.nx (mk (tab.set g (tab.getD g 0+f g)) (some (.int (g:Int))) y'))) {tab:List Int} (hl:tab.length=2^n) (x y:Option T):
  ∃ tab' x' y',cF j body (G.rangeT 0 (2^n)) (mk tab x y)=some (.nx (mk tab' x' y'))/\tab'.length=2^n/\∀ i,i<2^n->tab'.getD i 0=tab.getD i 0+f i:=by
 obtain⟨ρ',hloop,tab',x',y',rfl,q1,q2⟩:=kI (j:=j) (n:=2^n) (body:=body) (fun k ρ=>∃ tab' x' y',ρ=mk tab' x' y'/\tab'.length=2^n/\∀ i:Nat,tab'.getD i 0=if i<k then tab.getD i 0+f i else tab.getD i 0) (fun k hk ρ hρ=>by
   obtain⟨tab',x',y',rfl,q1,q2⟩:=hρ;obtain⟨y2,e⟩:=hb tab' k y' q1 hk;refine⟨mk (tab'.set k (tab'.getD k 0+f k)) (some (.int (k:Int))) y2,by rw[hset];exact e,_,_,_,rfl,by simpa using q1,fun i=>?_⟩
   by_cases hij:i=k
   ·subst hij
    have:=q2 i;rw[if_neg (aKx i)] at this;rw[aIp,aK0 (by lia),if_pos (aL0 _),this]
    rfl
   ·rw[aIp,aIy (Ne.symm hij),<- List.getD_eq_getElem?_getD,q2 i]
    by_cases h:i<k
    ·rw[if_pos h,if_pos (by lia)]
    ·rw[if_neg h,if_neg (by lia)])
  (mk tab x y) ⟨tab,x,y,rfl,hl,fun i=>by rw[if_neg (Nat.not_lt_zero _)]⟩
 exact⟨tab',x',y',hloop,q1,fun i hi=>by rw[q2 i,if_pos hi]⟩
theorem ID {n b c:Nat}{tab tab':List Int}{f:Nat->Int}(h:Fal n b tab) (hl':tab'.length=2^n) (he:∀ i,i<2^n->tab'.getD i 0=tab.getD i 0+f i) (f0:f 0=0) (fb:∀ i,i<2^n->(f i).natAbs<=c)
  (fs:∀ x y,x<2^n->y<2^n->f (x|||y)+f (x&&&y)<=f x+f y):Fal n (b+c) tab':=by
 have hp:0<2^n:=aLa (by decide);refine⟨hl',?_,Bd.of fun i hi=>?_,fun x y hx hy=>?_⟩
 ·rw[he 0 hp,h.zero,f0];rfl
 ·rw[he i (by lia)]
  have h1:=h.bd.get i;have h2:=fb i (by lia);lia
 ·rw[he _ (aL6 hx hy),he _ (GD hx),he _ hx,he _ hy]
  have s:=h.sub x y hx hy;have m:=fs x y hx hy;lia
theorem JY {a:Nat}{m:Int}(hm0:1<=m) (hm:m<=6):0<=mn a m/\mn a m<=6:=by
 unfold mn
 split<;>lia
theorem QX (ns:List Int) (hn:ns.length<=63) {n:Nat}(h6:n<=6):∃ t,mV [.lst (tI ns),.int (n:Int)]=some (.lst (tI t))/\Fal n (10^43) t:=by
 have h64:=eX h6;have hp:0<2^n:=aLa (by decide);obtain⟨D,hD⟩:∃ D:Nat,D=10^40:=⟨_,rfl⟩;obtain⟨P,hP⟩:∃ P:Int,P=10^60:=⟨_,rfl⟩;have p60:eF (.int 10) (.int 60)=some (.int P):=by rw[hP];exact uS 10 60 (by decide +kernel)
 have p40:eF (.int 10) (.int 40)=some (.int (D:Int)):=by rw[hD];exact uS 10 40 (by decide +kernel)
 obtain⟨ts,et,hlt,hts⟩:=AQ ns hn (many:=12) (by decide) (by decide) (far:=P) (by rw[hP];decide);have et:eS [.lst (tI ns),.int 12,.int P]=some (.lst (tI ts)):=et;have sh:=kW (b:=n) (by lia);have hr:=eN (2^n) (by lia);have e1:bN bE DV [none] (G.rangeT 0 (2^n))=some (tI ((List.range (2^n)).map fun _=>0)):=rQ _ fun i _=>rfl;have hc1:((List.range (2^n)).map fun _=>(0:Int)).length<=cap:=by simp;unfold cap;lia
 have hf0:Fal n 0 ((List.range (2^n)).map fun _=>0):=⟨by simp,by rw[jP hp],fun x hx=>by obtain⟨i,_,rfl⟩:=aKj.mp hx;exact aKv 0,aF9 fun a b _ _=>by lia⟩;have mS:∀ i:Int,aS (.int i) (.int ((2^n:Nat):Int))=some (.int (i%((2^n:Nat):Int))):=fun i=>bU (by lia);have d64:∀ i:Int,aY (.int i) (.int 64)=some (.int (i / 64)):=fun i=>cP (by decide) (by decide);have d512:∀ i:Int,aY (.int i) (.int 512)=some (.int (i / 512)):=fun i=>cP (by decide) (by decide);have d2048:∀ i:Int,aY (.int i) (.int 2048)=some (.int (i / 2048)):=fun i=>cP (by decide) (by decide);have d4096:∀ i:Int,aY (.int i) (.int 4096)=some (.int (i / 4096)):=fun i=>cP (by decide) (by decide);have d3:∀ i:Int,aY (.int i) (.int 3)=some (.int (i / 3)):=fun i=>cP (by decide) (by decide);have d7:∀ i:Int,aY (.int i) (.int 7)=some (.int (i / 7)):=fun i=>cP (by decide) (by decide);have m2:∀ i:Int,aS (.int i) (.int 2)=some (.int (i%2)):=fun i=>bU (by decide);have m3:∀ i:Int,aS (.int i) (.int 3)=some (.int (i%3)):=fun i=>bU (by decide);have m4:∀ i:Int,aS (.int i) (.int 4)=some (.int (i%4)):=fun i=>bU (by decide);have m6:∀ i:Int,aS (.int i) (.int 6)=some (.int (i%6)):=fun i=>bU (by decide);have m13:∀ i:Int,aS (.int i) (.int 13)=some (.int (i%13)):=fun i=>bU (by decide);have mD:∀ i:Int,aS (.int i) (.int (D:Int))=some (.int (i%(D:Int))):=fun i=>bU (by rw[hD];decide);have k2D:bD (.int 2) (.int (D:Int))=some (.int (2*(D:Int))):=hX (by decide);have m2D:∀ i:Int,aS (.int i) (.int (2*(D:Int)+1))=some (.int (i%(2*(D:Int)+1))):=fun i=>bU (by lia);have hD1:4<=D:=by rw[hD];decide
 have c2:(2:Nat)<=cap:=by decide
 obtain⟨ρ1,hloop1,tab1,x4,x5,x6,x7,x8,x9,rfl,w1⟩:=WJ (j:=4) (ns:=ts) (body:=zR) (fun i ρ=>∃ tab x4 x5 x6 x7 x8 x9,ρ=[some (.lst (tI ns)),some (.int (n:Int)),some (.lst (tI ts)),some (.lst (tI tab)),x4,x5,x6,x7,x8,x9,none,none]/\Fal n (i*(6*D)) tab) (fun i hi ρ hρ=>by
   obtain⟨tab,x4,x5,x6,x7,x8,x9,rfl,w1⟩:=hρ;have c0:=(hts _ (aK1 hi)).1;generalize ts[i]=c at c0;have p0:0<=c%((2^n:Nat):Int):=aJc _ (by lia);have pe:c%((2^n:Nat):Int)=(((c%((2^n:Nat):Int)).toNat:Nat):Int):=by lia
   generalize (c%((2^n:Nat):Int)).toNat=part at pe;have k0:0<=c / 64%6:=aJc _ (by decide);have k1:c / 64%6<6:=aJb _ (by decide);obtain⟨w,ew,hw0,hw1⟩:∃ w:Int,atI [T.int (c / 512%4),T.int (c / 4096%(D:Int))] (c / 2048%2)=some (.int w)/\0<=w/\w<=(D:Int):=by
    have v0:0<=c / 512%4:=aJc _ (by decide);have v1:c / 512%4<4:=aJb _ (by decide);have u0:0<=c / 4096%(D:Int):=aJc _ (by lia);have u1:c / 4096%(D:Int)<(D:Int):=aJb _ (by lia);rcases (show c / 2048%2=0\/c / 2048%2=1 by lia) with h | h
    ·exact⟨_,by rw[h];rfl,v0,by lia⟩
    ·exact⟨_,by rw[h];rfl,u0,by lia⟩
   obtain⟨tab',y8,y9,el,z1,z2⟩:=FW (n:=n) (j:=8) (body:=zQ) (pre:=[]) (fun tab x y=>[some (.lst (tI ns)),some (.int (n:Int)),some (.lst (tI ts)),some (.lst (tI tab)),some (.int c),some (.int (part:Int)),some (.int (1+c / 64%6)),some (.int w),x,y,none,none]) (fun g=>w*mn (bL (g&&&part)) (1+c / 64%6)) (fun tab x y g=>rfl) (fun tab g y hl hg=>by
    have fm:=FH (g:=g&&&part) (aIw (GD hg) h64);have hmu:DB [.int ((bL (g&&&part):Nat):Int),.int (1+c / 64%6)]=some (.int (mn (bL (g&&&part)) (1+c / 64%6))):=rfl;have hb:=JY (a:=bL (g&&&part)) (m:=1+c / 64%6) (by lia) (by lia);have ep:atI (tI tab) (g:Int)=some (.int (tab.getD g 0)):=dG (by lia);have ix:ixN tab.length (g:Int)=some g:=by rw[nU (by lia) (by lia)];simp
    generalize mn (bL (g&&&part)) (1+c / 64%6)=mu at hmu hb;have mu':bD (.int w) (.int mu)=some (.int (w*mu)):=nZ (by lia);refine⟨some (.int (w*mu)),?_⟩;unfold zQ;simp only[rSeq_at,rSet_at,rPut_at,f2_at,fVar_at,fCall_at,aCons_at,aNil_at,List.set,zz0,zz1,jn,zz2,zz3,oAnd_int,gO,fm,hmu,mu',oIx_lst,ep,oAdd_int,tI_length,ix,xG]) w1.len x8 x9
   have hfal:Fal n (i*(6*D)+6*D) tab':=ID w1 z1 z2 (by
     show w*mn (bL (0&&&part)) (1+c / 64%6)=0;rw[Nat.zero_and];have:mn (bL 0) (1+c / 64%6)=0:=by unfold mn;rw[if_neg (by simp[bL];lia)];rfl
     rw[this];simp) (fun g hg=>by
     have hb:=JY (a:=bL (g&&&part)) (m:=1+c / 64%6) (by lia) (by lia);show (w*mn (bL (g&&&part)) (1+c / 64%6)).natAbs<=6*D;rw[aJl,Nat.mul_comm];exact aL2 (by lia) (by lia)) (fun x y hx hy=>by
     have m:=ZT (a:=x) (b:=y) (p:=part) (m:=1+c / 64%6) (by lia) (by lia);have m':=Int.mul_le_mul_of_nonneg_left m hw0;rw[aJf,aJf] at m';exact m')
   refine⟨[some (.lst (tI ns)),some (.int (n:Int)),some (.lst (tI ts)),some (.lst (tI tab')),some (.int c),some (.int (part:Int)),some (.int (1+c / 64%6)),some (.int w),y8,y9,none,none],?_,_,_,_,_,_,_,_,rfl,by rw[Nat.add_mul,Nat.one_mul];exact hfal⟩;unfold zR;simp only[rSeq_at,rSet_at,rFor_at,fRange_at,fLst_at,f1_at,f2_at,fVar_at,fC_at,aCons_at,aNil_at,List.set,zz0,zz1,jn,zz2,zz3,sh,mS,pe,d64,m6,oAdd_int,d512,m4,d4096,p40,mD,aK3,aK6,aLe,Nat.reduceAdd,c2,if_true,d2048,m2,oIx_lst,ew,gScal_int,hr,el])
  [some (.lst (tI ns)),some (.int (n:Int)),some (.lst (tI ts)),some (.lst (tI ((List.range (2^n)).map fun _=>0))),none,none,none,none,none,none,none,none] ⟨_,none,none,none,none,none,none,rfl,by rw[Nat.zero_mul];exact hf0⟩
 rw[hlt] at w1;have f36:aT [.lst (tI ns),.int 36]=some (.int (aP ns 36)):=cU ns (k:=36) (by decide);obtain⟨ρ2,hloop2,tab2,x8',x10,x11,rfl,w2⟩:=kI (j:=10) (n:=n) (body:=wF) (fun i ρ=>∃ tab x8 x10 x11,ρ=[some (.lst (tI ns)),some (.int (n:Int)),some (.lst (tI ts)),some (.lst (tI tab)),x4,x5,x6,x7,x8,x9,x10,x11]/\Fal n (12*(6*D)+i*(2*D)) tab) (fun i hi ρ hρ=>by
   obtain⟨tab,x8,x10,x11,rfl,w1⟩:=hρ;have f30:aT [.lst (tI ns),.int (30+(i:Int))]=some (.int (aP ns (30+i))):=by
    have:=cU ns (k:=30+i) (by lia)
    rwa [show ((30+i:Nat):Int)=30+(i:Int) by lia] at this
   generalize aP ns (30+i)=c at f30;have at1:atI (tI ts) (i:Int)=some (.int (ts.getD i 0)):=dG (by lia);generalize ts.getD i 0=ti at at1;have q0:0<=c / 3%13:=aJc _ (by decide);have q1:c / 3%13<13:=aJb _ (by decide);have u0:0<=ti%(2*(D:Int)+1):=aJc _ (by lia);have u1:ti%(2*(D:Int)+1)<2*(D:Int)+1:=aJb _ (by lia);have go:∀ own:Int,own.natAbs<=2*D->∃ tab' y8,cF 8 wE (G.rangeT 0 (2^n)) [some (.lst (tI ns)),some (.int (n:Int)),some (.lst (tI ts)),some (.lst (tI tab)),x4,x5,x6,x7,x8,x9,some (.int (i:Int)),some (.int own)]=some (.nx [some (.lst (tI ns)),some (.int (n:Int)),some (.lst (tI ts)),some (.lst (tI tab')),x4,x5,x6,x7,y8,x9,some (.int (i:Int)),some (.int own)])/\Fal n (12*(6*D)+(i+1)*(2*D)) tab':=fun own hown=>by
    obtain⟨tab',y8,y9,el,z1,z2⟩:=FW (n:=n) (j:=8) (body:=wE) (pre:=[]) (fun tab x y=>[some (.lst (tI ns)),some (.int (n:Int)),some (.lst (tI ts)),some (.lst (tI tab)),x4,x5,x6,x7,x,x9,some (.int (i:Int)),some (.int own)]) (fun g=>own*((g / 2^i%2:Nat):Int)) (fun tab x y g=>rfl) (fun tab g y hl hg=>by
     have ep:atI (tI tab) (g:Int)=some (.int (tab.getD g 0)):=dG (by lia);have ix:ixN tab.length (g:Int)=some g:=by rw[nU (by lia) (by lia)];simp
     have mu:bD (.int own) (.int ((g / 2^i%2:Nat):Int))=some (.int (own*((g / 2^i%2:Nat):Int))):=nZ (by have:=Nat.mod_lt (g / 2^i) (show 0<2 by decide);lia);refine⟨y,?_⟩;unfold wE;simp only[rPut_at,f2_at,fVar_at,fC_at,List.set,zz0,zz1,jn,zz2,zz3,oIx_lst,ep,uT,oAnd_int,tR,mu,oAdd_int,tI_length,ix,xG]) w1.len x8 none
    refine⟨tab',y8,el,?_⟩;rw[Nat.add_mul,Nat.one_mul,<- Nat.add_assoc];refine ID w1 z1 z2 ?_ (fun g hg=>?_) (fun x y hx hy=>?_)
    ·show own*((0 / 2^i%2:Nat):Int)=0
     rw[Nat.zero_div];simp
    ·show (own*((g / 2^i%2:Nat):Int)).natAbs<=2*D
     have:=Nat.mod_lt (g / 2^i) (show 0<2 by decide);rcases (show g / 2^i%2=0\/g / 2^i%2=1 by lia) with h | h<;>rw[h]<;>simp<;>lia
    ·show own*(((x|||y) / 2^i%2:Nat):Int)+own*(((x&&&y) / 2^i%2:Nat):Int)<=own*((x / 2^i%2:Nat):Int)+own*((y / 2^i%2:Nat):Int)
     have hq:∀ g:Nat,g / 2^i%2=if g.testBit i then 1 else 0:=fun g=>by
      rw[<- BD];have:=Nat.mod_lt (g / 2^i) (show 0<2 by decide);rcases (show g / 2^i%2=0\/g / 2^i%2=1 by lia) with h | h<;>rw[h]<;>rfl
     rw[hq,hq,hq,hq,aLc,aLb];cases x.testBit i<;>cases y.testBit i<;>simp
   by_cases hz:aP ns 36 / 7%3=1
   ·obtain⟨tab',y8,el,hf⟩:=go (ti%(2*(D:Int)+1)-(D:Int)) (by lia)
    refine⟨[some (.lst (tI ns)),some (.int (n:Int)),some (.lst (tI ts)),some (.lst (tI tab')),x4,x5,x6,x7,y8,x9,some (.int (i:Int)),some (.int (ti%(2*(D:Int)+1)-(D:Int)))],?_,_,_,_,_,rfl,hf⟩;unfold wF;simp only[rSeq_at,rSet_at,rIf_at,rFor_at,fRange_at,fB_at,f2_at,fVar_at,fC_at,fCall_at,aCons_at,aNil_at,List.set,zz0,zz1,jn,zz2,zz3,oAdd_int,f30,d3,m13,oSub_int,f36,d7,m3,hz,oEq_int,beq_self_eq_true,isB_bl,if_true,oIx_lst,at1,p40,k2D,m2D,sh,hr,el]
   ·have hz':(aP ns 36 / 7%3 == 1)=false:=by simpa using hz
    obtain⟨tab',y8,el,hf⟩:=go (c / 3%13-6) (by lia);refine⟨[some (.lst (tI ns)),some (.int (n:Int)),some (.lst (tI ts)),some (.lst (tI tab')),x4,x5,x6,x7,y8,x9,some (.int (i:Int)),some (.int (c / 3%13-6))],?_,_,_,_,_,rfl,hf⟩;unfold wF;simp only[rSeq_at,rSet_at,rIf_at,rNext_at,rFor_at,fRange_at,fB_at,f2_at,fVar_at,fC_at,fCall_at,aCons_at,aNil_at,List.set,zz0,zz1,jn,zz2,zz3,oAdd_int,f30,d3,m13,oSub_int,f36,d7,m3,hz',oEq_int,isB_bl,aJ4,if_false,sh,hr,el])
  [some (.lst (tI ns)),some (.int (n:Int)),some (.lst (tI ts)),some (.lst (tI tab1)),x4,x5,x6,x7,x8,x9,none,none] ⟨_,x8,none,none,rfl,w1.le (by lia)⟩
 have hrn:=eN n (by lia);refine⟨tab2,?_,w2.le ?_⟩
 ·rw[OP]
  unfold wD;simp only[rSeq_at,rSet_at,rSetM_at,rFor_at,rRet_at,fMut_at,fCall_at,aCons_at,aNil_at,f2_at,fC_at,fVar_at,fComp_at,fRange_at,fFL_at,List.set,zz0,zz1,jn,zz2,zz3,p60,et,sh,hr,bR,aKc,aKe,aLh,e1,tI_length,hc1,if_true,okM_lst,hE,hloop1,hrn,hloop2,flat_tI',outT_rt]
 ·have:n*(2*D)<=6*(2*D):=Nat.mul_le_mul_right _ h6
  have e:10^43=1000*D:=by rw[hD]
  rw[e];lia
theorem NO {a b c:Int}{k:Int}(h0:0<=k) (h:k<3):∃ x:Int,atI [T.int a,T.int b,T.int c] k=some (.int x)/\(x=a\/x=b\/x=c):=by
 rcases (show k=0\/k=1\/k=2 by lia) with rfl | rfl | rfl
 ·exact⟨a,rfl,.inl rfl⟩
 ·exact⟨b,rfl,.inr (.inl rfl)⟩
 ·exact⟨c,rfl,.inr (.inr rfl)⟩
theorem QK (ns:List Int) (hn:ns.length<=63) {n:Nat}(h1:1<=n) (h6:n<=6):∃ t,mR [.lst (tI ns),.int (n:Int)]=some (.lst (tI t))/\Fal n (10^61) t:=by
 have h64:=eX h6;have hs2:2<=2^n:=aKw (by decide:2<=2^1) (aL8 (by decide) h1);have f1':aT [.lst (tI ns),.int 1]=some (.int (aP ns 1)):=cU ns (k:=1) (by decide);have d5:∀ i:Int,aY (.int i) (.int 5)=some (.int (i / 5)):=fun i=>cP (by decide) (by decide);have m3:∀ i:Int,aS (.int i) (.int 3)=some (.int (i%3)):=fun i=>bU (by decide);obtain⟨W,hW⟩:∃ W:Nat,W=10^59:=⟨_,rfl⟩;have p59:eF (.int 10) (.int 59)=some (.int (W:Int)):=by rw[hW];exact uS 10 59 (by decide +kernel)
 obtain⟨far,efar,hfar⟩:=NO (a:=8) (b:=1000) (c:=(W:Int)) (k:=aP ns 1 / 5%3) (aJc _ (by decide)) (aJb _ (by decide));have hf0:0<far:=by rcases hfar with rfl | rfl | rfl;decide;decide;rw[hW];decide
 have hfW:far.toNat<=W:=by rcases hfar with rfl | rfl | rfl;rw[hW];decide;rw[hW];decide;lia
 obtain⟨ps,ep,q1,q2⟩:=AQ ns hn (many:=2^n-1) (by lia) (by lia) hf0;have e3:((2^n:Nat):Int)-1=((2^n-1:Nat):Int):=by lia
 have sh:=kW (b:=n) (by lia);have hr:=eN (2^n) (by lia);have cat:gF (.lst (tI [0])) (.lst (tI ps))=some (.lst (tI (0::ps))):=by
  rw[CY (by rw[tI_length,tI_length,q1];simp;unfold cap;lia)];rfl
 have hnz:∀ i,i<2^n->0<=(0::ps).getD i 0/\(0::ps).getD i 0<far:=fun i hi=>by
  cases i with
  | zero=>exact⟨aJe _,hf0⟩
  | succ i=>exact q2 _ (nR (by lia))
 have hnl:(0::ps).length=2^n:=by simp;lia
 have hn0:(0::ps).getD 0 0=0:=rfl;generalize (0::ps)=no at cat hnz hnl hn0;obtain⟨ρ',hloop,tab,x5,x6,rfl,w1,w2,w4⟩:=kI (j:=5) (n:=2^n) (body:=zK) (fun i ρ=>∃ tab x5 x6,ρ=[some (.lst (tI ns)),some (.int (n:Int)),some (.int far),some (.lst (tI no)),some (.lst (tI tab)),x5,x6]/\tab.length=i/\Bd (37*W) tab/\∀ k,k<tab.length->tab.getD k 0=no.getD k 0-far*((sq k:Nat):Int)) (fun i hi ρ hρ=>by
   obtain⟨tab,x5,x6,rfl,w1,w2,w4⟩:=hρ;have fm:=FH (g:=i) (by lia);have fl:=SO (g:=i) (by lia);have a1:atI (tI no) (i:Int)=some (.int (no.getD i 0)):=dG (by lia);have ⟨n0,n1⟩:=hnz i hi;have m1:bD (.int far) (.int (bL i:Nat))=some (.int (far*(bL i:Nat))):=nZ (by lia);have m2:bD (.int (far*(bL i:Nat))) (.int (bL i:Nat))=some (.int (far*((sq i:Nat):Int))):=by
    rw[nZ (by lia)];unfold sq;rw[Int.natCast_mul,aJg]
   have hz:(far*((sq i:Nat):Int)).natAbs<=36*W:=by
    rw[aJl,Int.natAbs_natCast,Nat.mul_comm];refine aL2 ?_ (by lia);unfold sq;exact aL2 fl fl
   have hcap:tab.length<cap:=by rw[w1];unfold cap;lia
   refine⟨[some (.lst (tI ns)),some (.int (n:Int)),some (.int far),some (.lst (tI no)),some (.lst (tI (tab++[no.getD i 0-far*((sq i:Nat):Int)]))),some (.int (i:Int)),some (.int (bL i:Nat))],?_,_,_,_,rfl,by simp[w1],fun x hx=>?_,fun k hk=>?_⟩
   ·generalize far*((sq i:Nat):Int)=z at m2
    unfold zK;simp only[rSeq_at,rSet_at,rApp_at,f1_at,f2_at,fVar_at,fC_at,fCall_at,aCons_at,aNil_at,List.set,zz0,zz1,jn,zz2,zz3,fm,gScal_int,oSub_int,oIx_lst,a1,m1,m2,tI_length,hcap,if_true,aFi,tI_cons,tI_nil]
   ·rcases aKf.mp hx with hx | hx
    ·exact w2 x hx
    ·cases aKm.mp hx
     lia
   ·rw[aK2,List.length_singleton] at hk
    by_cases hkk:k<tab.length
    ·rw[aIp,aJt hkk,<- List.getD_eq_getElem?_getD];exact w4 k hkk
    ·have:k=tab.length:=by lia
     subst this;rw[aIp,List.getElem?_append_right (aKv _),Nat.sub_self,w1];rfl) [some (.lst (tI ns)),some (.int (n:Int)),some (.int far),some (.lst (tI no)),some (.lst (tI [])),none,none] ⟨[],none,none,rfl,rfl,(fun x hx=>by cases hx),(fun k hk=>by simp at hk)⟩
 have hp:0<2^n:=by lia
 refine⟨tab,?_,w1,?_,w2.le (by rw[hW];decide),aA2 h6 hf0 fun k hk=>⟨_,(hnz k hk).1,(hnz k hk).2,w4 k (by lia)⟩⟩
 ·have c3:(3:Nat)<=cap:=by decide
  have c0:(0:Nat)<=cap:=aLf _;rw[OH];unfold vS;simp only[rSeq_at,rSet_at,rSetM_at,rFor_at,rRet_at,fMut_at,fCall_at,aCons_at,aNil_at,fLst_at,f1_at,f2_at,fC_at,fVar_at,fRange_at,List.set,zz0,zz1,jn,zz2,zz3,p59,aK3,aK6,aLe,Nat.reduceAdd,c3,c0,if_true,f1',d5,m3,oIx_lst,efar,gScal_int,sh,oSub_int,e3,ep,cat,okM_lst,hr];rw[show (T.lst ([]:List T))=T.lst (tI []) from rfl,hloop];simp only[zz2,zz0,zz1,jn,flat_tI',if_true,zz3,outT_rt]
 ·rw[w4 0 (by lia),hn0];simp[sq,bL]
def tN' (ns:List Nat):List Int:=ns.map fun (n:Nat)=>(n:Int)
theorem tL (ns:List Nat):(tN' ns).length=ns.length:=by simp[tN']
theorem CN {α β:Type}(f:α->β) (xs:List α) (i:Int) (y:α):bZ (xs.map f) i (f y)=(bZ xs i y).map f:=by
 unfold bZ;simp[List.map_take,List.map_drop]
theorem CO {α:Type}(xs:List α) (i:Int) (y:α):(bZ xs i y).Perm (y::xs):=by
 unfold bZ;have:=List.perm_middle (a:=y) (l₁:=xs.take (min i.toNat xs.length)) (l₂:=xs.drop (min i.toNat xs.length))
 rwa [List.take_append_drop] at this
theorem QL (ns:List Int) {k:Nat}(hk:k<900) {n:Nat}(h6:n<=6):∃ o:List Nat,jF [.lst (tI ns),.int (k:Int),.int (n:Int)]=some (.lst (tI (tN' o)))/\o.Perm (List.range n):=by
 have d5:∀ i:Int,aY (.int i) (.int 5)=some (.int (i / 5)):=fun i=>cP (by decide) (by decide);obtain⟨ρ',hloop,o,x4,rfl,hp⟩:=kI (j:=4) (n:=n) (body:=zL) (fun i ρ=>∃ (o:List Nat) (x4:Option T),ρ=[some (.lst (tI ns)),some (.int (k:Int)),some (.int (n:Int)),some (.lst (tI (tN' o))),x4]/\o.Perm (List.range i)) (fun i hi ρ hρ=>by
   obtain⟨o,x4,rfl,hp⟩:=hρ;have hol:o.length=i:=by rw[hp.length_eq,aK7]
   have hm:aT [.lst (tI ns),.int ((k:Int)+(i:Int))]=some (.int (aP ns (k+i))):=by
    have:=cU ns (k:=k+i) (by lia)
    rwa [Int.natCast_add] at this
   generalize aP ns (k+i)=c at hm;have p0:0<=c / 5%((i:Int)+1):=aJc _ (by lia);have p1:c / 5%((i:Int)+1)<(i:Int)+1:=aJb _ (by lia);have mi:aS (.int (c / 5)) (.int ((i:Int)+1))=some (.int (c / 5%((i:Int)+1))):=bU (by lia);generalize c / 5%((i:Int)+1)=q at p0 p1 mi;have hcap:(tI (tN' o)).length<cap/\0<=q/\q<2^63:=⟨by rw[tI_length,tL,hol];unfold cap;lia,p0,by lia⟩;have hins:bZ (tI (tN' o)) q (.int (i:Int))=tI (tN' (bZ o q i)):=by
    unfold tI tN';rw[aKd,aKd];exact CN (fun (n:Nat)=>T.int (n:Int)) o q i
   refine⟨[some (.lst (tI ns)),some (.int (k:Int)),some (.int (n:Int)),some (.lst (tI (tN' (bZ o q i)))),some (.int (i:Int))],?_,_,_,rfl,?_⟩
   ·unfold zL
    simp only[rIns_at,f1_at,f2_at,fCall_at,aCons_at,aNil_at,fVar_at,fC_at,List.set,zz0,zz1,jn,zz2,oAdd_int,hm,d5,mi,gScal_int,hins];rw[if_pos hcap]
   ·refine (CO o q i).trans ?_
    rw[List.range_succ];exact (List.Perm.cons i hp).trans (List.perm_append_singleton i (List.range i)).symm) [some (.lst (tI ns)),some (.int (k:Int)),some (.int (n:Int)),some (.lst (tI (tN' []))),none] ⟨[],none,rfl,.refl _⟩
 have hr:=eN n (by lia);have hn:tI (tN' [])=[]:=rfl;rw[hn] at hloop;have z0:(0:Nat)<=cap:=aLf _;refine⟨o,?_,hp⟩;rw[OI];unfold vT;simp[hr,hloop,z0]
theorem aCm:(List.range 64).all (fun a=>(List.range 6).all fun h=>a.testBit h||(a|||2^h == a+2^h))=true:=by decide +kernel
theorem aCl {a h:Nat}(ha:a<64) (hh:h<6) (hb:a.testBit h=false):a|||2^h=a+2^h:=by
 have:=aIu.mp (aIu.mp aCm a (aIv.mpr ha)) h (aIv.mpr hh);rw[hb,Bool.false_or] at this;exact eq_of_beq this
theorem NP {n j:Nat}{body:Rho->Option Out}{t:List Int}(h6:n<=6) (hl:t.length=2^n) (mk:List Int->Nat->Option T->Option T->Rho) (hset:∀ s a x y (h:Nat),(mk s a x y).set j (some (.int (h:Int)))=mk s a (some (.int (h:Int))) y)
  (hb:∀ (s:List Int) (a h:Nat) (y:Option T),s.length=n->a|||2^h<2^n->a.testBit h=false->h<n->∃ y',body (mk s a (some (.int (h:Int))) y)=some (.nx (mk (s.set h (t.getD (a|||2^h) 0-t.getD a 0)) (a|||2^h) (some (.int (h:Int))) y'))):
  ∀ (o:List Nat) (a:Nat) (s:List Int) (x y:Option T),s.length=n->a<2^n->o.Nodup->(∀ h∈o,h<n/\a.testBit h=false)->∃ a' x' y',cF j body (tI (tN' o)) (mk s a x y)=some (.nx (mk (tM t o a s) a' x' y'))
 | [],a,s,x,y,_,_,_,_=>⟨a,x,y,rfl⟩
 | h::r,a,s,x,y,hs,ha,hn,hh=>by
  obtain⟨h1,h2⟩:=hh h aIs;obtain⟨hr,hn'⟩:=aKn.mp hn;have hlt:a|||2^h<2^n:=aL6 ha (aL9 (by decide) h1);obtain⟨y',e⟩:=hb s a h y hs hlt h2 h1;obtain⟨a',x'',y'',e2⟩:=NP h6 hl mk hset hb r (a|||2^h) (s.set h (t.getD (a|||2^h) 0-t.getD a 0)) (some (.int (h:Int))) y' (by rw[aK9,hs]) hlt hn' (fun k hk=>⟨(hh k (aIr _ hk)).1,by
   rw[aLc,Nat.testBit_two_pow,(hh k (aIr _ hk)).2];simp;intro e;subst e;exact hr hk⟩)
  refine⟨a',x'',y'',?_⟩;show cF j body (.int (h:Int)::tI (tN' r)) (mk s a x y)=_;rw[BW,hset,e];exact e2
def fR (n:Nat) (t:List Int) (o:List Nat):List Int:=tM t o 0 (List.replicate n 0)
theorem NI (n:Nat) (t:List Int) (o:List Nat):(fR n t o).length=n:=by unfold fR;rw[NK,aK8]
theorem aAj {n:Nat}{o:List Nat}(hp:o.Perm (List.range n)):o.Nodup:=hp.nodup_iff.mpr List.nodup_range
theorem aAi {n:Nat}{o:List Nat}(hp:o.Perm (List.range n)) {h:Nat}(hh:h∈o):h<n:=aIv.mp (hp.mem_iff.mp hh)
theorem QW {n:Nat}(h6:n<=6) {t:List Int}(hl:t.length=2^n) {o:List Nat}(hp:o.Perm (List.range n)):kB [.lst (tI t),.lst (tI (tN' o))]=some (.lst (tI (fR n t o))):=by
 have h64:=eX h6;have hol:o.length=n:=by rw[hp.length_eq,aK7]
 have hp0:0<2^n:=aLa (by decide);obtain⟨a',x',y',hloop⟩:=NP (j:=4) (body:=zP) h6 hl (fun s a x y=>[some (.lst (tI t)),some (.lst (tI (tN' o))),some (.lst (tI s)),some (.int (a:Int)),x]) (fun s a x y h=>rfl) (fun s a h y hs hlt hb hh=>by
  have sh:=kW (b:=h) (by lia);have hle:a<=a|||2^h:=Nat.left_le_or;have ad:(a:Int)+((2^h:Nat):Int)=((a|||2^h:Nat):Int):=by rw[aCl (by lia) (by lia) hb];lia
  have a1:atI (tI t) ((a|||2^h:Nat):Int)=some (.int (t.getD (a|||2^h) 0)):=dG (by lia);have a2:atI (tI t) (a:Int)=some (.int (t.getD a 0)):=dG (by lia);have ix:ixN s.length (h:Int)=some h:=by rw[nU (by lia) (by lia)];simp
  refine⟨none,?_⟩;unfold zP;simp only[rSeq_at,rSet_at,rPut_at,f2_at,fVar_at,fC_at,List.set,zz0,zz1,jn,zz2,zz3,sh,oAdd_int,ad,oIx_lst,a1,a2,oSub_int,tI_length,ix,xG]) o 0 (List.replicate n 0) none none (by simp) hp0 (aAj hp) (fun h hh=>⟨aAi hp hh,aLg h⟩)
 have e1:bN bE DU [none] (tI (tN' o))=some (tI ((tN' o).map fun _=>0)):=tT _ fun i _=>rfl;have e2:((tN' o).map fun _=>(0:Int))=List.replicate n 0:=by
  rw[List.map_const',tL,hol]
 rw[e2] at e1;have hc:(List.replicate n (0:Int)).length<=cap:=by rw[aK8];unfold cap;lia
 rw[OO];unfold wC fR;simp only[rSeq_at,rSet_at,rSetM_at,rFor_at,rRet_at,fMut_at,fVar_at,fC_at,fComp_at,fFL_at,List.set,zz0,zz1,jn,zz2,zz3,hE,bR,aKc,aKe,aLh,e1,tI_length,hc,if_true,okM_lst];rw[show (T.int 0)=T.int ((0:Nat):Int) from rfl,hloop];simp only[zz2,zz0,zz1,jn,flat_tI',if_true,zz3,outT_rt]
def uI (g:Nat):List Int:=((List.range 6).filter fun h=>g / 2^h%2 == 1).map fun (h:Nat)=>(h:Int)
theorem YE:(List.range 64).all (fun k=>DX (nE [.int (k:Int)]) (some (.lst (tI (uI k)))))=true:=by decide +kernel
theorem PV {g:Nat}(h:g<64):nE [.int (g:Int)]=some (.lst (tI (uI g))):=MG (aIu.mp YE g (aIv.mpr h))
def rV (row:List Int) (g:Nat):Int:=(((List.range row.length).filter fun k=>g / 2^k%2 == 1).map fun k=>row.getD k 0).sum
theorem PP {row:List Int}(h6:row.length<=6) (g:Nat):fX [.lst (tI row),.int (g:Int)]=some (.int (rV row g)):=by
 have e:bN zJ zI [none,some (.int (g:Int)),some (.lst (tI row))] (G.rangeT 0 row.length)=some (tI (((List.range row.length).filter fun k=>g / 2^k%2 == 1).map fun k=>row.getD k 0)):=by
  refine TL _ _ (fun i hi=>?_) (fun i hi _=>?_)
  ·unfold zJ
   simp only[fB_at,f2_at,fVar_at,fC_at,List.set,zz0,zz1,jn,zz2,uT,oAnd_int,tR,oEq_int,isB_bl]
   congr 1
   generalize g / 2^i=m;rw[aJ3];simp;lia
  ·unfold zI
   simp only[f1_at,f2_at,fVar_at,List.set,zz0,zz1,jn,zz2,oIx_lst,dG hi,gScal_int]
 have hr:=eN row.length (by lia);have hc:(((List.range row.length).filter fun k=>g / 2^k%2 == 1).map fun k=>row.getD k 0).length<=cap:=by
  rw[aK5];have:=List.length_filter_le (fun k=>g / 2^k%2 == 1) (List.range row.length);rw[aK7] at this;unfold cap;lia
 rw[OD];unfold vO rV;simp only[rRet_at,fCall_at,aCons_at,aNil_at,fComp_at,fRange_at,fVar_at,zz0,zz1,jn,zz2,zz3,oLen_lst,tI_length,hr,bR,List.map,aLh,e,hc,if_true,DC,outT_rt]
theorem xZ (row:List Int) (g:Nat):rV row g=gv row g:=JA row g _
theorem FB {row:List Int}(h6:row.length<=6) (g:Nat):fX [.lst (tI row),.int (g:Int)]=some (.int (gv row g)):=by rw[PP h6,xZ]
theorem YG:(List.range 7).all (fun n=>(List.range (2^n)).all fun g=>decide (uI g=((List.range n).filter fun k=>g / 2^k%2 == 1).map fun (k:Nat)=>(k:Int)))=true:=by decide +kernel
theorem YF {n g:Nat}(hn:n<=6) (hg:g<2^n):uI g=((List.range n).filter fun k=>g / 2^k%2 == 1).map fun (k:Nat)=>(k:Int):=
 of_decide_eq_true (aIu.mp (aIu.mp YG n (aIv.mpr (by lia))) g (aIv.mpr hg))
theorem aDd {n:Nat}(h:n<=6):2^n<=64:=aKw (aL8 (by decide) h) (by decide:2^6<=64)
theorem FJ {row:List Int}(h6:row.length<=6) {g:Nat}(hg:g<2^row.length):eV [.lst (tI row),.int (g:Int)]=some (.int (rV row g)):=by
 have h64:=aDd h6;have e:bN bE zZ [none,some (.lst (tI row))] (tI (uI g))=some (tI (((List.range row.length).filter fun k=>g / 2^k%2 == 1).map fun k=>row.getD k 0)):=by
  rw[YF h6 hg];have:(((List.range row.length).filter fun k=>g / 2^k%2 == 1).map fun k=>row.getD k 0)=(((List.range row.length).filter fun k=>g / 2^k%2 == 1).map fun (k:Nat)=>(k:Int)).map fun i=>row.getD i.toNat 0:=by
   simp
  rw[this];refine tT _ fun i hi=>?_;obtain⟨k,hk,rfl⟩:=aKj.mp hi;have hk':=aIv.mp (aKi.mp hk).1;unfold zZ;simp only[f1_at,f2_at,fVar_at,List.set,zz0,zz1,jn,zz2,oIx_lst,dG hk',gScal_int,Int.toNat_natCast]
 have hc:(((List.range row.length).filter fun k=>g / 2^k%2 == 1).map fun k=>row.getD k 0).length<=cap:=by
  rw[aK5];have:=List.length_filter_le (fun k=>g / 2^k%2 == 1) (List.range row.length);rw[aK7] at this;unfold cap;lia
 rw[QQ];unfold wW rV;simp only[rRet_at,fCall_at,aCons_at,aNil_at,fComp_at,fFL_at,fVar_at,zz0,zz1,jn,zz2,zz3,PV (show g<64 by lia),hE,bR,List.map,aLh,e,tI_length,hc,if_true,DC,outT_rt]
theorem SA:(List.range 7).all (fun n=>Builtin.Int.intBits ((2^n:Nat):Int) == n+1)=true:=by decide +kernel
theorem PR {t:List Int}{n:Nat}(h6:n<=6) (hl:t.length=2^n):gL [.lst (tI t)]=some (.int (n:Int)):=by
 have b:=eq_of_beq (aIu.mp SA n (aIv.mpr (by lia)));rw[PQ];unfold wQ;simp only[rRet_at,fCall_at,aCons_at,aNil_at,f1_at,f2_at,fC_at,fVar_at,zz0,zz1,jn,zz2,zz3,oLen_lst,tI_length,hl,oBits_int,b,oSub_int,outT_rt]
 congr 2
 lia
theorem JB {x y:List Int}(g:Nat):∀ ks:List Nat,(∀ k∈ks,x.getD k 0<=y.getD k 0)->gvS x ks g<=gvS y ks g
 | [],_=>aJe _
 | k::ks,h=>by
  have ih:=JB g ks fun j hj=>h j (aIr _ hj);have e:=h k aIs;rw[gvS,gvS];cases g.testBit k<;>simp only[aJ4,if_false,if_true]<;>lia
theorem CL {x y:List Int}(hl:x.length=y.length) (h:∀ k,k<x.length->x.getD k 0<=y.getD k 0) (g:Nat):gv x g<=gv y g:=by
 unfold gv;rw[<- hl];exact JB g _ fun k hk=>h k (aIv.mp hk)
theorem FD {row:List Int}(h6:row.length<=6) {g:Nat}(hg:g<2^row.length):eV [.lst (tI row),.int (g:Int)]=some (.int (gv row g)):=by rw[FJ h6 hg,xZ]
def cW (t row:List Int):List Int:=(List.range t.length).map fun g=>t.getD g 0-gv row g
theorem nW (t row:List Int):(cW t row).length=t.length:=by simp[cW]
theorem CU {t row:List Int}{g:Nat}(h:g<t.length):(cW t row).getD g 0=t.getD g 0-gv row g:=jP h
theorem JV {n:Nat}{t row:List Int}(hl:t.length=2^n):cW t row≠[]:=fun z=>by
 have:=nW t row;rw[z,hl] at this;have hp:0<2^n:=aLa (by decide);simp at this;lia
theorem QC {n:Nat}(h6:n<=6) {t row:List Int}(hl:t.length=2^n) (hr:row.length=n):nH [.lst (tI t),.lst (tI row)]=some (.lst (tI (cW t row))):=by
 have h64:=eX h6;have e:cN [0,1] bE zY [none,none,some (.lst (tI row))] (dW 0 (tI t))=some (tI (cW t row)):=by
  refine TK _ fun g hg=>?_;unfold zY;simp only[f2_at,fVar_at,fCall_at,aCons_at,aNil_at,List.set,zz0,zz1,jn,zz2,FD (row:=row) (by lia) (show g<2^row.length by rw[hr,<- hl];exact hg),oSub_int]
 have hc:(cW t row).length<=cap:=by rw[nW];unfold cap;lia
 rw[QE];unfold wU;simp only[rSeq_at,rIf_at,rNext_at,rRet_at,fB_at,f2_at,fVar_at,fCall_at,aCons_at,aNil_at,fCompT_at,fEnum_at,fFL_at,zz0,zz1,jn,zz2,zz3,oLen_lst,tI_length,PR h6 hl,hr,oNe_int,beq_self_eq_true,aJ7,isB_bl,aJ4,if_false,hE,bR,aKc,aKe,aLh,e,hc,if_true,outT_rt]
theorem QN {n:Nat}(h6:n<=6) {t row:List Int}(hl:t.length=2^n) (hr:row.length=n):nI [.lst (tI t),.lst (tI row)]=some (.tup [.int ((cW t row).idxOf (dR (cW t row)):Nat),.int (-dR (cW t row))]):=by
 have hne:=JV (row:=row) hl;have c2:(2:Nat)<=cap:=by decide
 have ng:∀ i:Int,dJ (.int i)=some (.int (-i)):=fun i=>rfl;rw[QM];unfold wV;simp only[rSeq_at,rSet_at,rRet_at,f1_at,f2_at,fVar_at,fCall_at,aCons_at,aNil_at,fTup_at,List.set,zz0,zz1,jn,zz2,zz3,QC h6 hl hr,aA9 hne,aA6 (JX hne),ng,aK3,aK6,aLe,Nat.reduceAdd,c2,if_true,outT_rt]
theorem QY {n:Nat}(h6:n<=6) {t row:List Int}(hl:t.length=2^n) (hr:row.length=n):nG [.lst (tI t),.lst (tI row)]=some (.bl (-dR (cW t row) == 0)):=by
 have i1:∀ x y:T,oIx (.tup [x,y]) (.int 1)=some y:=fun x y=>rfl;rw[PY];unfold wS;simp only[rRet_at,f2_at,fVar_at,fC_at,fCall_at,aCons_at,aNil_at,zz0,zz1,jn,zz2,zz3,QN h6 hl hr,i1,oEq_int,outT_rt]
theorem OX (t:List Int):fG [.lst (tI t)]=some (.int ((t.length:Int)-1)):=by
 rw[EX];simp[sV]
theorem RC {g k:Nat}:fZ [.int ((2^k:Nat):Int),.int (g:Int)]=some (.bl (g.testBit k)):=by
 rw[FM];unfold sZ;simp only[rRet_at,f2_at,fVar_at,zz0,zz1,jn,zz2,zz3,oAnd_int,gO,oEq_int,outT_rt];rw[<- aGj]
 congr 2
 generalize 2^k&&&g=z;generalize 2^k=y;rw[aJ3];simp;lia
theorem OS {n:Nat}(h6:n<=6) {t row:List Int}(hl:t.length=2^n) (hr:row.length=n):nF [.lst (tI t),.lst (tI row)]=some (.bl ((-dR (cW t row) == 0)&&(gv row (2^n-1) == t.getD (2^n-1) 0))):=by
 have hp:0<2^n:=aLa (by decide);have ew:(t.length:Int)-1=((2^n-1:Nat):Int):=by lia
 have a1:atI (tI t) ((2^n-1:Nat):Int)=some (.int (t.getD (2^n-1) 0)):=dG (by lia);have fg:=FD (row:=row) (by lia) (g:=2^n-1) (by rw[hr];lia);rw[PX];unfold wR;simp only[rSeq_at,rSet_at,rRet_at,vAnd_at,f1_at,f2_at,fVar_at,fCall_at,aCons_at,aNil_at,List.set,zz0,zz1,jn,zz2,zz3,OX,ew,gScal_int,QY h6 hl hr,isB_bl,fg,oIx_lst,a1,oEq_int];cases (-dR (cW t row) == 0)<;>rfl
theorem IZ (row:List Int) {g:Nat}:∀ ks:List Nat,(∀ k∈ks,g.testBit k=true)->gvS row ks g=(ks.map fun k=>row.getD k 0).sum
 | [],_=>rfl
 | k::ks,h=>by rw[gvS,h k aIs,IZ row ks fun j hj=>h j (aIr _ hj)];simp
theorem YB (row:List Int):gv row (2^row.length-1)=row.sum:=by
 unfold gv;rw[IZ row _ fun k hk=>by rw[BX,decide_eq_true (aIv.mp hk)]]
 congr 1
 exact (WF rfl fun g _=>rfl).symm
abbrev Tri:=Nat × Nat × Nat
def brk (t:List Int) (x:Tri):Bool:=decide (t.getD (x.1|||2^x.2.1) 0+t.getD (x.1|||2^x.2.2) 0<t.getD ((x.1|||2^x.2.1)|||(x.1|||2^x.2.2)) 0+t.getD ((x.1|||2^x.2.1)&&&(x.1|||2^x.2.2)) 0)
theorem OY (t:List Int):fG [.lst (tI t)]=some (.int ((t.length:Int)-1)):=by
 rw[EX];simp[sV]
theorem aAc (i:Int):dJ (.int i)=some (.int (-i)):=rfl
theorem EW (t b:Int) (hb:b.natAbs<2^9000):mW [.int t,.int b]=some (.int (Int.gcd t b:Int)):=by
 obtain⟨x',h⟩:=IL (p:=zV) (r:=zU) (st:=fun a b' x=>[some (.int t),some (.int b),some (.int (a:Int)),some (.int (b':Int)),x])
  (fun a b' x=>by
   have e:oNe (.int (b':Int)) (.int 0)=some (.bl (decide (b'≠0))):=by
    rw[oNe_int];congr 2;rcases Nat.eq_zero_or_pos b' with e | e
    ·subst e;rfl
    ·rw[decide_eq_true (show b'≠0 by lia)]
     simp;lia
   unfold zV;simp only[fB_at,f2_at,fVar_at,fC_at,zz0,zz1,jn,zz2,e,isB_bl])
  (fun a b' x hb'=>by
   have e:aS (.int (a:Int)) (.int (b':Int))=some (.int ((a%b':Nat):Int)):=by rw[bU (by lia),Int.natCast_emod]
   refine⟨some (.int ((a%b':Nat):Int)),?_⟩;unfold zU;simp only[rSeq_at,rSet_at,f1_at,f2_at,fVar_at,List.set,zz0,zz1,jn,zz2,zz3,e,gScal_int]) t.natAbs b.natAbs none hb
 rw[OV];unfold wH;simp only[rSeq_at,rSet_at,rRet_at,f1_at,fVar_at,fCall_at,aCons_at,aNil_at,List.set,zz0,zz1,jn,zz2,zz3,KH,h,gScal_int,outT_rt]
 rfl
theorem PJ {t b:Int}(h0:b≠0) (hb:b.natAbs<2^9000):mZ [.int t,.int b]=some (.tup [.int (frI t b).1,.int (frI t b).2]):=by
 have hf:=dX (t:=t) h0;have hc:(2:Nat)<=cap:=by decide
 have d1:fD (.int t) (.int (frD t b))=some (.int (frI t b).1):=uP hf.1 (aKy hf.2.1 hb);have d2:fD (.int b) (.int (frD t b))=some (.int (frI t b).2):=uP hf.1 (aKy hf.2.1 hb);rw[PH];unfold wM
 by_cases h:b<0
 ·have ed : -(Int.gcd t b:Int)=frD t b:=by unfold frD;rw[if_pos h]
  simp only[rSeq_at,rSet_at,rIf_at,rRet_at,fB_at,f1_at,f2_at,fVar_at,fC_at,fCall_at,fTup_at,aCons_at,aNil_at,List.set,zz0,zz1,jn,zz2,zz3,EW t b hb,gScal_int,oLt_int,h,decide_true,isB_bl,if_true,aAc,ed,d1,d2,aK3,aK6,aLe,Nat.reduceAdd,hc,outT_rt]
 ·have ed:(Int.gcd t b:Int)=frD t b:=by unfold frD;rw[if_neg h]
  simp only[rSeq_at,rSet_at,rIf_at,rNext_at,rRet_at,fB_at,f1_at,f2_at,fVar_at,fC_at,fCall_at,fTup_at,aCons_at,aNil_at,List.set,zz0,zz1,jn,zz2,zz3,EW t b hb,gScal_int,oLt_int,h,decide_false,isB_bl,aJ4,if_false,ed,d1,d2,aK3,aK6,aLe,Nat.reduceAdd,hc,if_true,outT_rt]
theorem QO (t b:Nat) (hb:b<2^9000):jZ [.int (t:Int),.int (b:Int)]=some (.int (Nat.gcd t b:Int)):=by
 obtain⟨x',h⟩:=IL (p:=zN) (r:=zM) (st:=fun a b' x=>[some (.int (a:Int)),some (.int (b':Int)),x])
  (fun a b' x=>by
   have e:oGt (.int (b':Int)) (.int 0)=some (.bl (decide (b'≠0))):=by
    rw[oGt_int];congr 2;rcases Nat.eq_zero_or_pos b' with e | e
    ·subst e;rfl
    ·rw[decide_eq_true (show b'≠0 by lia)]
     exact decide_eq_true (by lia)
   unfold zN;simp only[fB_at,f2_at,fVar_at,fC_at,zz0,zz1,jn,zz2,e,isB_bl])
  (fun a b' x hb'=>by
   have e:aS (.int (a:Int)) (.int (b':Int))=some (.int ((a%b':Nat):Int)):=by rw[bU (by lia),Int.natCast_emod]
   refine⟨some (.int ((a%b':Nat):Int)),?_⟩;unfold zM;simp only[rSeq_at,rSet_at,f1_at,f2_at,fVar_at,List.set,zz0,zz1,jn,zz2,zz3,e,gScal_int]) t b none hb
 rw[OJ];unfold vU;simp only[rSeq_at,rRet_at,f1_at,fVar_at,zz0,zz1,jn,zz2,zz3,h,gScal_int,outT_rt]
theorem rK {t b:Int}(h0:0<b) (hb:b.natAbs<2^9000):cR [.int t,.int b]=some (.tup [.int (frI t b).1,.int (frI t b).2]):=by
 have hf:=dX (t:=t) (b:=b) (by lia);have hc:(2:Nat)<=cap:=by decide
 have ed:(Int.gcd t b:Int)=frD t b:=by unfold frD;rw[if_neg (by lia)]
 have pt:jZ [.int (t.natAbs:Int),.int b]=some (.int (frD t b)):=by
  have:=QO t.natAbs b.natAbs hb;rw[show ((b.natAbs:Nat):Int)=b by lia] at this;rw[this,<- ed]
  rfl
 have d1:fD (.int t) (.int (frD t b))=some (.int (frI t b).1):=uP hf.1 (aKy hf.2.1 hb);have d2:fD (.int b) (.int (frD t b))=some (.int (frI t b).2):=uP hf.1 (aKy hf.2.1 hb);rw[OB];unfold vL;simp only[rSeq_at,rSet_at,rRet_at,f1_at,f2_at,fVar_at,fCall_at,fTup_at,aCons_at,aNil_at,List.set,zz0,zz1,jn,zz2,zz3,KH,pt,gScal_int,d1,d2,aK3,aK6,aLe,Nat.reduceAdd,hc,if_true,outT_rt]
structure Frc (L:Nat) (y z:Int):Prop where
 pos:0<z
 ty:y.natAbs<2^L
 tz:z.natAbs<2^L
theorem rT {t b:Int}{L:Nat}(h0:b≠0) (ht:t.natAbs<2^L) (hb:b.natAbs<2^L):Frc L (frI t b).1 (frI t b).2:=by
 obtain⟨d0,dl,e1,e2,hp,hg,_⟩:=dX (t:=t) h0;have hdy:(frD t b).natAbs*(frI t b).1.natAbs=t.natAbs:=by
  rw[<- Int.natAbs_mul,<- e1]
 have hdz:(frD t b).natAbs*(frI t b).2.natAbs=b.natAbs:=by
  rw[<- Int.natAbs_mul,<- e2]
 have hy:(frI t b).1.natAbs<=t.natAbs:=by rw[<- hdy];exact Nat.le_mul_of_pos_left _ (by lia)
 have hz:(frI t b).2.natAbs<=b.natAbs:=by rw[<- hdz];exact Nat.le_mul_of_pos_left _ (by lia)
 exact⟨hp,aKy hy ht,aKy hz hb⟩
theorem aAe {n:Nat}(h6:n<=6):sG (.lst (tI [1])) (.int (n:Int))=some (.lst (tI (List.replicate n 1))):=by
 rcases (show n=0\/n=1\/n=2\/n=3\/n=4\/n=5\/n=6 by lia) with rfl | rfl | rfl | rfl | rfl | rfl | rfl<;>rfl
theorem QZ (ns:List Int) {n:Nat}(h1:1<=n) (h6:n<=6):∃ w,kD [.lst (tI ns),.int (n:Int)]=some (.lst (tI w))/\w.length=n/\∀ x∈w,1<=x/\x<=10^9:=by
 have f0:aT [.lst (tI ns),.int 110]=some (.int (aP ns 110)):=cU ns (k:=110) (by decide);have d3:∀ i:Int,aY (.int i) (.int 3)=some (.int (i / 3)):=fun i=>cP (by decide) (by decide);have d5:∀ i:Int,aY (.int i) (.int 5)=some (.int (i / 5)):=fun i=>cP (by decide) (by decide);have m3:∀ i:Int,aS (.int i) (.int 3)=some (.int (i%3)):=fun i=>bU (by decide);have m5:∀ i:Int,aS (.int i) (.int 5)=some (.int (i%5)):=fun i=>bU (by decide);have m9:∀ i:Int,aS (.int i) (.int 1000000000)=some (.int (i%1000000000)):=fun i=>bU (by decide);have fk:∀ k:Nat,k<n->aT [.lst (tI ns),.int (111+(k:Int))]=some (.int (aP ns (111+k))):=fun k hk=>by
  have:=cU ns (k:=111+k) (by lia)
  rwa [show ((111+k:Nat):Int)=111+(k:Int) by lia] at this
 have e1:bN bE zS [none,some (.lst (tI ns))] (G.rangeT 0 n)=some (tI ((List.range n).map fun k=>1+aP ns (111+k) / 5%5)):=rQ _ fun k hk=>by
  unfold zS;simp only[f2_at,fVar_at,fC_at,fCall_at,aCons_at,aNil_at,List.set,zz0,zz1,jn,zz2,oAdd_int,fk k hk,d5,m5]
 have e2:bN bE zT [none,some (.lst (tI ns))] (G.rangeT 0 n)=some (tI ((List.range n).map fun k=>1+aP ns (111+k)%1000000000)):=rQ _ fun k hk=>by
  unfold zT;simp only[f2_at,fVar_at,fC_at,fCall_at,aCons_at,aNil_at,List.set,zz0,zz1,jn,zz2,oAdd_int,fk k hk,m9]
 have hr:=eN n (by lia);have hc:n<=cap:=by unfold cap;lia
 have rep:sG (.lst (tI [1])) (.int (n:Int))=some (.lst (tI (List.replicate n 1))):=aAe h6;rw[OQ];unfold wG
 by_cases w0:aP ns 110 / 3%3=0
 ·refine⟨List.replicate n 1,?_,by simp,fun x hx=>by rw[List.eq_of_mem_replicate hx];decide⟩
  simp only[rSeq_at,rSet_at,rIf_at,rNext_at,rRet_at,fB_at,f2_at,fVar_at,fC_at,fCall_at,aCons_at,aNil_at,List.set,zz0,zz1,jn,zz2,zz3,f0,d3,m3,w0,oEq_int,beq_self_eq_true,isB_bl,if_true,rep,outT_rt]
 ·have z0:(aP ns 110 / 3%3 == 0)=false:=by simpa using w0
  by_cases w1:aP ns 110 / 3%3=1
  ·have z1:(aP ns 110 / 3%3 == 1)=true:=by simpa using w1
   refine⟨(List.range n).map fun k=>1+aP ns (111+k) / 5%5,?_,by simp,fun x hx=>?_⟩
   ·simp only[rSeq_at,rSet_at,rIf_at,rNext_at,rRet_at,fB_at,f2_at,fVar_at,fC_at,fCall_at,fComp_at,fRange_at,aCons_at,aNil_at,List.set,zz0,zz1,jn,zz2,zz3,f0,d3,m3,z0,z1,oEq_int,isB_bl,aJ4,if_false,if_true,hr,bR,aKc,aKe,aLh,e1,tI_length,aK5,aK7,hc,outT_rt]
   ·obtain⟨k,_,rfl⟩:=aKj.mp hx
    have a0:=aJc (aP ns (111+k) / 5) (show (5:Int)≠0 by decide);have a1:=aJb (aP ns (111+k) / 5) (show (0:Int)<5 by decide);lia
  ·have z1:(aP ns 110 / 3%3 == 1)=false:=by simpa using w1
   refine⟨(List.range n).map fun k=>1+aP ns (111+k)%1000000000,?_,by simp,fun x hx=>?_⟩
   ·simp only[rSeq_at,rSet_at,rIf_at,rNext_at,rRet_at,fB_at,f2_at,fVar_at,fC_at,fCall_at,fComp_at,fRange_at,aCons_at,aNil_at,List.set,zz0,zz1,jn,zz2,zz3,f0,d3,m3,z0,z1,oEq_int,isB_bl,aJ4,if_false,if_true,hr,bR,aKc,aKe,aLh,e2,tI_length,aK5,aK7,hc,outT_rt]
   ·obtain⟨k,_,rfl⟩:=aKj.mp hx
    have a0:=aJc (aP ns (111+k)) (show (1000000000:Int)≠0 by decide);have a1:=aJb (aP ns (111+k)) (show (0:Int)<1000000000 by decide);lia
theorem XY {row:List Int}(hw:∀ x∈row,1<=x) {g:Nat}(h0:g≠0) (hg:g<2^row.length):0<gv row g:=by
 obtain⟨i,hi⟩:=Nat.exists_testBit_of_ne_zero h0;have hil:i<row.length:=by
  rcases aKz i row.length with h | h
  ·exact h
  ·have:=Nat.testBit_lt_two_pow (aIw hg (aL8 (by decide) h))
   rw[this] at hi;cases hi
 have e:=YD (row:=row) (h:=i) (x:=0) hil g;rw[if_pos hi] at e;have h1:1<=row.getD i 0:=by
  rw[aIp,aIq hil];exact hw _ (aK1 _)
 have h2:gv (List.replicate (row.set i 0).length 0) g<=gv (row.set i 0) g:=CL (by simp) (fun k hk=>by
  have hk':k<row.length:=by simpa using hk
  rw[aIp,aIp,aJz];rw[if_pos (by simpa using hk')]
  by_cases e:i=k
  ·subst e;rw[aK0 hk'];simp
  ·rw[aIy e,aIq hk']
   have:=hw _ (aK1 hk');simp;lia) g
 rw[YC] at h2;lia
theorem JJ {row:List Int}{m:Int}(hm:0<=m) (hw:∀ x∈row,0<=x/\x<=m) (g:Nat):gv row g<=row.length*m:=by
 rw[<- xZ];unfold rV;have key:∀ l:List Nat,(∀ k∈l,k<row.length)->(l.map fun k=>row.getD k 0).sum<=l.length*m:=fun l=>by
  induction l with
  | nil=>intro _;simp
  | cons a l ih=>
   intro h;have h1:=ih fun k hk=>h k (aIr _ hk);have ha:=h a aIs;have h2:row.getD a 0<=m:=by
    rw[aIp,aIq ha];exact (hw _ (aK1 _)).2
   rw[aKc,List.sum_cons,aK3,Int.natCast_add,Int.add_mul];lia
 have h1:=key ((List.range row.length).filter fun k=>g / 2^k%2 == 1) fun k hk=>aIv.mp (aKi.mp hk).1;have h2:=List.length_filter_le (fun k=>g / 2^k%2 == 1) (List.range row.length);rw[aK7] at h2;have h3:(((List.range row.length).filter fun k=>g / 2^k%2 == 1).length:Int)*m<=(row.length:Int)*m:=aJj (by lia) hm;lia
theorem RB (t w:List Int):nL [.lst (tI t),.lst (tI w)]=some (.lst (tI w)):=by
 have on:oIs (.lst (tI w)) .non=some (.bl false):=rfl;rw[RA];unfold wZ;simp only[rRet_at,fIf_at,fB_at,f2_at,fVar_at,fC_at,zz0,zz1,jn,zz2,on,isB_bl,aJ4,if_false,zz3,outT_rt]
theorem AM {n:Nat}(h6:n<=6) {w:List Int}(hw:w.length=n) (hx:∀ x∈w,1<=x/\x<=10^9) {g:Nat}(h0:g≠0) (hg:g<2^n):0<gv w g/\gv w g<=6*10^9:=by
 have h1:=XY (fun x h=>(hx x h).1) h0 (by rw[hw];exact hg);have h2:=JJ (row:=w) (m:=10^9) (by decide) (fun x h=>⟨by have:=(hx x h).1;lia,(hx x h).2⟩) g;rw[hw] at h2;have h3:(n:Int)*10^9<=6*10^9:=aJj (by lia) (by decide);lia
theorem KN {i j:Int}(hi:i.natAbs<2^700) (hj:j.natAbs<2^700):bD (.int i) (.int j)=some (.int (i*j)):=uR (CW 700 700 hi hj (by decide) (by decide))
theorem QH {t b t' b':Int}(h:0<b) (h':0<b') (ht:t.natAbs<2^700) (hb:b.natAbs<2^700) (ht':t'.natAbs<2^700) (hb':b'.natAbs<2^700):
  dE [.tup [.int (frI t b).1,.int (frI t b).2],.tup [.int (frI t' b').1,.int (frI t' b').2]]=some (.bl (decide (t*b'<t'*b))):=by
 have f:=rT (t:=t) (b:=b) (L:=700) (by lia) ht hb;have g:=rT (t:=t') (b:=b') (L:=700) (by lia) ht' hb';have e:decide ((frI t b).1*(frI t' b').2<(frI t' b').1*(frI t b).2)=decide (t*b'<t'*b):=decide_eq_decide.mpr (nO h h');have i0:∀ y z:Int,oIx (.tup [.int y,.int z]) (.int 0)=some (.int y):=fun _ _=>rfl;have i1:∀ y z:Int,oIx (.tup [.int y,.int z]) (.int 1)=some (.int z):=fun _ _=>rfl;rw[<- e,AN];unfold pD;simp only[rRet_at,f2_at,fVar_at,fC_at,zz0,zz1,jn,zz2,i0,i1,KN f.ty g.tz,KN g.ty f.tz,oLt_int,zz3,outT_rt]
structure Fst (n:Nat) (t w:List Int):Prop where
 one:1<=n
 six:n<=6
 fal:Fal n (10^200) t
 wl:w.length=n
 wx:∀ x∈w,1<=x/\x<=10^9
theorem Fst.pos {n:Nat}{t w:List Int}(F:Fst n t w):∀ g,g≠0->g<2^n->0<gv w g:=fun g h0 hg=>(AM F.six F.wl F.wx h0 hg).1
theorem Fst.wb {n:Nat}{t w:List Int}(F:Fst n t w) {g:Nat}(h0:g≠0) (hg:g<2^n):(gv w g).natAbs<2^700:=by
 have:=AM F.six F.wl F.wx h0 hg;exact aKy (show (gv w g).natAbs<=2^100 by lia) (aL9 (by decide) (by decide))
theorem Fst.cb {n:Nat}{t w:List Int}(F:Fst n t w) (a g:Nat):(cB t a g).natAbs<2^700:=by
 have h1:=F.fal.bd.get (a|||g);have h2:=F.fal.bd.get a;unfold cB;exact aKy (show (t.getD (a|||g) 0-t.getD a 0).natAbs<=10^200+10^200 by lia) (by decide +kernel)
def frT (t w:List Int) (a g:Nat):T:=.tup [.int (frI (cB t a g) (gv w g)).1,.int (frI (cB t a g) (gv w g)).2]
theorem aF5 (t w:List Int) (a m:Nat):jT t w a m=.tup [.int ((a|||m:Nat):Int),frT t w a m]:=rfl
theorem RM:(List.range 64).all (fun a=>(List.range 64).all fun g=>!(g&&&a == 0)||(a+g == a|||g))=true:=by decide +kernel
theorem RL {a g:Nat}(ha:a<64) (hg:g<64) (h:g&&&a=0):a+g=a|||g:=by
 have:=aIu.mp (aIu.mp RM a (aIv.mpr ha)) g (aIv.mpr hg)
 simpa [h] using this
theorem QJ {n:Nat}{t w:List Int}(F:Fst n t w) {a m:Nat}(ha:a<2^n-1) (hm:Stp n t w a m):mU [.lst (tI t),.lst (tI w),.int (a:Int)]=some (jT t w a m):=by
 have h6:=F.six;have h64:=eX h6;have hl:=F.fal.len;have ha':a<2^n:=by lia
 have r2:sF [.int 1,.int ((2^n:Nat):Int)]=some (G.rangeT 1 (2^n-1)):=by
  rw[aAd (by decide) (by lia)]
  congr 2
  lia
 have hc2:(2:Nat)<=cap:=by decide
 obtain⟨ρ',hloop,s,J,x5,x6,rfl,q⟩:=xW (j:=5) (body:=mE) (fun i ρ=>∃ (s:T) (J:Nat) (x5 x6:Option T),ρ=[some (.lst (tI t)),some (.lst (tI w)),some (.int (a:Int)),some s,some (.int ((a|||J:Nat):Int)),x5,x6]/\((s=.non/\J=0/\∀ x,Cnd n a x->¬ x<1+i)\/∃ r,Cnd n a r/\s=frT t w a r/\(∀ x,Cnd n a x->x<1+i->cB t a r*gv w x<=cB t a x*gv w r)/\∀ k,J.testBit k=true ↔ ∃ x,Cnd n a x/\x<1+i/\cB t a x*gv w r<=cB t a r*gv w x/\x.testBit k=true)) (G.rangeT 1 (2^n-1)) (fun i hi ρ hρ=>by
   obtain⟨s,J,x5,x6,rfl,q⟩:=hρ;have hi':i<2^n-1:=by rw[kY] at hi;exact hi
   rw[DP];rw[show 1+(i:Int)=((1+i:Nat):Int) by lia];rw[show 1+(i+1)=(1+i)+1 by lia];have hg1:1+i<2^n:=by lia
   have hg0:1+i≠0:=by lia
   generalize 1+i=g at *
   by_cases hoff:g&&&a=0
   ·have hc:Cnd n a g:=⟨hg0,hg1,hoff⟩
    have ez:oEq (.int ((g&&&a:Nat):Int)) (.int 0)=some (.bl true):=by rw[hoff];rfl
    have eadd:(a:Int)+(g:Int)=((a|||g:Nat):Int):=by rw[<- RL (by lia) (by lia) hoff];lia
    have a1:atI (tI t) ((a|||g:Nat):Int)=some (.int (t.getD (a|||g) 0)):=dG (by have:=aL6 ha' hg1;lia);have a2:atI (tI t) (a:Int)=some (.int (t.getD a 0)):=dG (by lia);have gi:=FB (row:=w) (by rw[F.wl];exact h6) g;have gw:=F.pos g hg0 hg1;have lf:cR [.int (t.getD (a|||g) 0-t.getD a 0),.int (gv w g)]=some (frT t w a g):=rK gw (aL1 (F.wb hg0 hg1) (aL9 (by decide) (by decide)));have gs:aN (frT t w a g)=some (frT t w a g):=rfl;have dp:∀ x,dep (frT t w a x)<=60:=fun x=>by simp[frT,dep,depL]
    rcases q with ⟨rfl,rfl,q⟩ | ⟨r,hr,rfl,q1,q2⟩
    ·have on:oIs .non .non=some (.bl true):=rfl
     refine⟨_,.inl ?_,frT t w a g,g,some (.int (g:Int)),some (frT t w a g),rfl,.inr ⟨g,hc,rfl,fun x hx hxg=>?_,fun k=>?_⟩⟩
     ·unfold mE
      simp only[rSeq_at,rSet_at,rIf_at,pOr_at,fB_at,f1_at,f2_at,fVar_at,fC_at,fCall_at,aCons_at,aNil_at,List.set,zz0,zz1,jn,zz2,zz3,oAnd_int,gO,ez,isB_bl,if_true,oAdd_int,eadd,oIx_lst,a1,a2,oSub_int,gi,lf,gs,on,gScal_int,CZ (dp g),oOr_int,rM]
     ·have:x=g:=by
       rcases aKz x g with k | k
       ·exact absurd k (q x hx)
       ·lia
      subst this;exact aJe _
     ·constructor
      ·intro k';exact⟨g,hc,by lia,aJe _,k'⟩
      ·rintro ⟨x,hx,hxg,_,hk⟩
       have:x=g:=by
        rcases aKz x g with k | k
        ·exact absurd k (q x hx)
        ·lia
       subst this;exact hk
    ·have on:oIs (frT t w a r) .non=some (.bl false):=rfl
     have rw':=F.pos r hr.ne hr.lt;have fl:dE [frT t w a g,frT t w a r]=some (.bl (decide (cB t a g*gv w r<cB t a r*gv w g))):=QH gw rw' (F.cb a g) (F.wb hg0 hg1) (F.cb a r) (F.wb hr.ne hr.lt)
     by_cases hlt:cB t a g*gv w r<cB t a r*gv w g
     ·rw[decide_eq_true hlt] at fl
      refine⟨_,.inl ?_,frT t w a g,g,some (.int (g:Int)),some (frT t w a g),rfl,.inr ⟨g,hc,rfl,fun x hx hxg=>?_,fun k=>?_⟩⟩
      ·unfold mE
       simp only[rSeq_at,rSet_at,rIf_at,pOr_at,fT_at,fB_at,f1_at,f2_at,fVar_at,fC_at,fCall_at,aCons_at,aNil_at,List.set,zz0,zz1,jn,zz2,zz3,oAnd_int,gO,ez,isB_bl,if_true,oAdd_int,eadd,oIx_lst,a1,a2,oSub_int,gi,lf,gs,on,aJ4,if_false,fl,truT_bl,gScal_int,CZ (dp g),oOr_int,rM]
      ·rcases aKz x g with k | k
       ·exact xQ rw' (aJd gw) (aJd (F.pos x hx.ne hx.lt)) (by lia) (q1 x hx k)
       ·have:x=g:=by lia
        subst this;exact aJe _
      ·constructor
       ·intro k';exact⟨g,hc,by lia,aJe _,k'⟩
       ·rintro ⟨x,hx,hxg,hle,hk⟩
        rcases aKz x g with k | k
        ·exfalso
         have h3:=xQ (F.pos x hx.ne hx.lt) (aJd rw') (aJd gw) (q1 x hx k) hle;lia
        ·have:x=g:=by lia
         subst this;exact hk
     ·rw[decide_eq_false hlt] at fl
      by_cases heq:cB t a g*gv w r=cB t a r*gv w g
      ·have fe:frT t w a g=frT t w a r:=by unfold frT;rw[jJ gw rw' heq]
       refine⟨_,.inl ?_,frT t w a r,J|||g,some (.int (g:Int)),some (frT t w a g),rfl,.inr ⟨r,hr,rfl,fun x hx hxg=>?_,fun k=>?_⟩⟩
       ·rw[<- Nat.or_assoc]
        rw[fe] at lf gs fl;rw[fe];unfold mE;simp only[rSeq_at,rSet_at,rIf_at,rNext_at,pOr_at,fT_at,fB_at,f1_at,f2_at,fVar_at,fC_at,fCall_at,aCons_at,aNil_at,List.set,zz0,zz1,jn,zz2,zz3,oAnd_int,gO,ez,isB_bl,if_true,oAdd_int,eadd,oIx_lst,a1,a2,oSub_int,gi,lf,gs,on,aJ4,if_false,fl,truT_bl,CZ (dp r),oOr_int,rM]
       ·rcases aKz x g with k | k
        ·exact q1 x hx k
        ·have:x=g:=by lia
         subst this;lia
       ·rw[aLc,Bool.or_eq_true,q2 k]
        constructor
        ·rintro (⟨x,hx,hxg,hle,hk⟩ | k')
         ·exact⟨x,hx,by lia,hle,hk⟩
         ·exact⟨g,hc,by lia,by lia,k'⟩
        ·rintro ⟨x,hx,hxg,hle,hk⟩
         rcases aKz x g with k' | k'
         ·exact .inl ⟨x,hx,k',hle,hk⟩
         ·have:x=g:=by lia
          subst this;exact .inr hk
      ·have ne:oEq (frT t w a g) (frT t w a r)=some (.bl false):=by
        have hn:frI (cB t a g) (gv w g)≠frI (cB t a r) (gv w r):=fun z=>by
         have k1:=nO (t:=cB t a g) (t':=cB t a r) gw rw';have k2:=nO (t:=cB t a r) (t':=cB t a g) rw' gw;rw[z] at k1 k2;lia
        unfold oEq;rw[if_pos (by have:=dp g;have:=dp r;lia)];unfold frT;generalize frI (cB t a g) (gv w g)=u at hn;generalize frI (cB t a r) (gv w r)=v at hn;obtain⟨u1,u2⟩:=u;obtain⟨v1,v2⟩:=v;simp only[G.eqT,G.eqL,Bool.and_true]
        by_cases h1:u1=v1
        ·have h2:u2≠v2:=fun z=>hn (by rw[h1,z])
         simp[h2]
        ·simp[h1]
       refine⟨_,.inl ?_,frT t w a r,J,some (.int (g:Int)),some (frT t w a g),rfl,.inr ⟨r,hr,rfl,fun x hx hxg=>?_,fun k=>?_⟩⟩
       ·unfold mE
        simp only[rSeq_at,rSet_at,rIf_at,rNext_at,pOr_at,fT_at,fB_at,f1_at,f2_at,fVar_at,fC_at,fCall_at,aCons_at,aNil_at,List.set,zz0,zz1,jn,zz2,zz3,oAnd_int,gO,ez,isB_bl,if_true,oAdd_int,eadd,oIx_lst,a1,a2,oSub_int,gi,lf,gs,on,aJ4,if_false,fl,truT_bl,ne]
       ·rcases aKz x g with k | k
        ·exact q1 x hx k
        ·have:x=g:=by lia
         subst this;lia
       ·rw[q2 k]
        constructor
        ·rintro ⟨x,hx,hxg,hle,hk⟩
         exact⟨x,hx,by lia,hle,hk⟩
        ·rintro ⟨x,hx,hxg,hle,hk⟩
         rcases aKz x g with k' | k'
         ·exact⟨x,hx,k',hle,hk⟩
         ·have:x=g:=by lia
          subst this;lia
   ·have ez:oEq (.int ((g&&&a:Nat):Int)) (.int 0)=some (.bl false):=by
     rw[oEq_int];congr 2;rw[beq_eq_false_iff_ne];lia
    have hnc:∀ x,Cnd n a x->x<g+1->x<g:=fun x hx hxg=>by
     rcases aKz x g with k | k
     ·exact k
     ·have:x=g:=by lia
      subst this;exact absurd hx.off hoff
    refine⟨_,.inl ?_,s,J,some (.int (g:Int)),x6,rfl,?_⟩
    ·unfold mE
     simp only[rIf_at,rNext_at,fB_at,f2_at,fVar_at,fC_at,List.set,zz0,zz1,jn,zz2,oAnd_int,gO,ez,isB_bl,aJ4,if_false]
    ·rcases q with ⟨rfl,rfl,q⟩ | ⟨r,hr,rfl,q1,q2⟩
     ·exact .inl ⟨rfl,rfl,fun x hx k=>q x hx (hnc x hx k)⟩
     ·refine .inr ⟨r,hr,rfl,fun x hx hxg=>q1 x hx (hnc x hx hxg),fun k=>?_⟩
      rw[q2 k]
      constructor
      ·rintro ⟨x,hx,hxg,hle,hk⟩;exact⟨x,hx,by lia,hle,hk⟩
      ·rintro ⟨x,hx,hxg,hle,hk⟩;exact⟨x,hx,hnc x hx hxg,hle,hk⟩)
  [some (.lst (tI t)),some (.lst (tI w)),some (.int (a:Int)),some .non,some (.int (a:Int)),none,none] ⟨.non,0,none,none,by rw[Nat.or_zero],.inl ⟨rfl,rfl,fun x hx k=>hx.ne (by lia)⟩⟩
 rw[kY] at q;have hpow:1+(2^n-1)=2^n:=by lia
 rw[hpow] at q;rcases q with ⟨_,_,q⟩ | ⟨r,hr,rfl,q1,q2⟩
 ·exact absurd hm.cnd.lt (q m hm.cnd)
 ·have rw':=F.pos r hr.ne hr.lt
  have mw:=F.pos m hm.cnd.ne hm.cnd.lt;have k1:=q1 m hm.cnd hm.cnd.lt;have k2:=hm.least r hr;have hJ:J=m:=by
   apply aKr;intro i
   rw[aJ3,q2 i]
   constructor
   ·rintro ⟨x,hx,_,hle,hk⟩
    have h3:=xQ rw' (aJd (F.pos x hx.ne hx.lt)) (aJd mw) hle k1;have h4:=hm.top x hx h3;rw[<- h4,aLc,hk];rfl
   ·intro hk
    exact⟨m,hm.cnd,hm.cnd.lt,k2,hk⟩
  subst hJ;have fe:frT t w a r=frT t w a J:=by unfold frT;rw[jJ (t:=cB t a r) (t':=cB t a J) rw' mw (by lia)]
  have gs:aN (frT t w a J)=some (frT t w a J):=rfl;rw[fe] at hloop;rw[aF5,OM];unfold vY;simp only[rSeq_at,rSet_at,rFor_at,rRet_at,f1_at,f2_at,fVar_at,fC_at,fCall_at,fTup_at,fRange_at,aCons_at,aNil_at,List.set,zz0,zz1,jn,zz2,zz3,gScal_int,oLen_lst,tI_length,hl,r2,hloop,gs,aK3,aK6,aLe,Nat.reduceAdd,hc2,if_true,outT_rt]
theorem HE {n:Nat}{t w:List Int}{p:Rho->Option Bool}{b:Rho->Option Out}{st:List T->Nat->Option T->Rho}(hp:∀ S a x,a<2^n->p (st S a x)=some (decide (a≠2^n-1)))
  (hb:∀ S a x m,a<2^n-1->Stp n t w a m->S.length<=1000->∃ x',b (st S a x)=some (.nx (st (S++[jT t w a m]) (a|||m) x'))):
  ∀ (L:List Nat) (k:Nat) (S:List T) (a:Nat) (x:Option T),L.length<k->a<2^n->S.length+L.length<=1000->Chn n t w a L->∃ x',cS p b k (st S a x)=some (.nx (st (S++gA t w a L) (2^n-1) x'))
 | [],k,S,a,x,hk,ha,_,h=>by
  obtain⟨k,rfl⟩:∃ k',k=k'+1:=⟨k-1,by lia⟩;have e:a=2^n-1:=h;subst e;refine⟨x,?_⟩;rw[cS,hp S _ x ha];simp[gA]
 | m::L,k,S,a,x,hk,ha,hS,h=>by
  obtain⟨h1,h2,h3⟩:=h;rw[aK3] at hk hS;obtain⟨k,rfl⟩:∃ k',k=k'+1:=⟨k-1,by lia⟩;obtain⟨x1,e1⟩:=hb S a x m h1 h2 (by lia);obtain⟨x',e2⟩:=HE hp hb L k (S++[jT t w a m]) (a|||m) x1 (by lia) (rG ha h2.cnd).2 (by simp;lia) h3;refine⟨x',?_⟩;rw[cS,hp S a x ha,e1];rw[decide_eq_true (show a≠2^n-1 by lia)];simp only[zz2,if_true];rw[e2];simp[gA]
theorem HI (t w:List Int):∀ (a:Nat) (L:List Nat),bF (gA t w a L)=true
 | _,[]=>rfl
 | a,m::L=>by
  have:=HI t w (a|||m) L;unfold bF at this ⊢;rw[gA,aJm,this]
  rfl
theorem FG {n:Nat}{t w:List Int}(F:Fst n t w) {L:List Nat}(hL:Chn n t w 0 L) (hl:L.length<=64):kA [.lst (tI t),.lst (tI w)]=some (.lst (gA t w 0 L)):=by
 have h6:=F.six;have h64:=eX h6;have hlen:=F.fal.len;have hp0:0<2^n:=aLa (by decide);obtain⟨x',hloop⟩:=HE (n:=n) (t:=t) (w:=w) (p:=wB) (b:=wA) (st:=fun S a x=>[some (.lst (tI t)),some (.lst (tI w)),some (.lst S),some (.int (a:Int)),x])
  (fun S a x ha=>by
   have e:decide ((a:Int)<((2^n:Nat):Int)-1)=decide (a≠2^n-1):=decide_eq_decide.mpr (by lia);unfold wB;simp only[fB_at,f2_at,fVar_at,fC_at,fCall_at,aCons_at,aNil_at,zz0,zz1,jn,zz2,oLen_lst,tI_length,hlen,oSub_int,oLt_int,e,isB_bl])
  (fun S a x m ha hm hS=>by
   have e:=QJ F ha hm;have gs:aN (jT t w a m)=some (jT t w a m):=rfl;have i0:oIx (jT t w a m) (.int 0)=some (.int ((a|||m:Nat):Int)):=rfl;have hc:S.length<cap:=by unfold cap;lia
   refine⟨some (jT t w a m),?_⟩;unfold wA;simp only[rSeq_at,rSet_at,rApp_at,f1_at,f2_at,fVar_at,fC_at,fCall_at,aCons_at,aNil_at,List.set,zz0,zz1,jn,zz2,zz3,e,gs,hc,if_true,i0,gScal_int]) L 100000 [] 0 none (by lia) hp0 (by simp;lia) hL
 have hc0:(0:Nat)<=cap:=aLf _;have hfl:=HI t w 0 L;have hw:gI wB wA [some (.lst (tI t)),some (.lst (tI w)),some (.lst []),some (.int 0),none]=some (.nx [some (.lst (tI t)),some (.lst (tI w)),some (.lst (gA t w 0 L)),some (.int ((2^n-1:Nat):Int)),x']):=hloop;rw[ON];unfold vZ;simp only[rSeq_at,rSet_at,rSetM_at,rRet_at,fMut_at,fVar_at,fC_at,fLst_at,aNil_at,List.set,zz0,zz1,jn,zz2,zz3,aK6,hc0,if_true,okM_lst,hw,hfl,outT_rt]
def prT (A D:Int):T:=.tup [.int (frI A D).1,.int (frI A D).2]
def chP:Nat->List Nat->List (Nat × Nat)
 | _,[]=>[]
 | a,m::L=>(a,m)::chP (a|||m) L
theorem HJ (t w:List Int):∀ (L:List Nat) (a:Nat),gA t w a L=(chP a L).map fun p=>.tup [.int ((p.1|||p.2:Nat):Int),frT t w p.1 p.2]
 | [],_=>rfl
 | m::L,a=>by rw[gA,chP,aKc,HJ t w L (a|||m)];rfl
theorem GY {n:Nat}{t w:List Int}:∀ (L:List Nat) (a:Nat),Chn n t w a L->∀ h,h<n->a.testBit h=false->∃ r,(chP a L).filter (fun p=>(p.1|||p.2).testBit h)=chF a L h::r
 | [],a,hL,h,hh,hb=>by
  exfalso
  have e:a=2^n-1:=hL;rw[e,Nat.testBit_two_pow_sub_one] at hb;simp at hb;lia
 | m::L,a,hL,h,hh,hb=>by
  rw[chP,chF,List.filter_cons];cases hc:(a|||m).testBit h with
  | true=>simp only[if_true];exact⟨_,rfl⟩
  | false=>
   simp only[aJ4,if_false];exact GY L (a|||m) hL.2.2 h hh hc
theorem HA:∀ (L:List Nat) (a:Nat),(chP a L).length=L.length
 | [],_=>rfl
 | m::L,a=>by rw[chP,aK3,aK3,HA]
theorem xP {α:Type}{p:Rho->Option Bool}{f:Rho->Option T}{ρ:Rho}(tp:α->T) (c:α->Bool) (h:α->T):∀ xs:List α,(∀ x∈xs,p (ρ.set 0 (some (tp x)))=some (c x)/\(c x=true->f (ρ.set 0 (some (tp x)))=some (h x)))->bN p f ρ (xs.map tp)=some ((xs.filter c).map h)
 | [],_=>rfl
 | x::xs,hx=>by
  have ih:=xP tp c h xs fun y hy=>hx y (aIr _ hy);obtain⟨h1,h2⟩:=hx x aIs;rw[aKc];unfold bN;rw[h1];simp only[zz2];cases hc:c x with
  | true=>
   rw[if_pos rfl,h2 hc,List.filter_cons,if_pos hc,aKc];simp only[zz2];rw[ih];rfl
  | false=>
   rw[if_neg (by decide),List.filter_cons,if_neg (by simp[hc])];exact ih
theorem gG {i j:Int}(hi:i.natAbs<2^4000) (hj:j.natAbs<2^4000):bD (.int i) (.int j)=some (.int (i*j)):=uR (CW 4000 4000 hi hj (by decide) (by decide))
theorem KK (A D:Int):oIx (prT A D) (.int 0)=some (.int (frI A D).1):=rfl
theorem KM (A D:Int):oIx (prT A D) (.int 1)=some (.int (frI A D).2):=rfl
theorem BZ (A D:Int):aN (prT A D)=some (prT A D):=rfl
theorem pw {x L M:Nat}(h:x<2^L) (hL:L<=M):x<2^M:=aIw h (aL8 (by decide) hL)
theorem QI {A B D:Int}(hD:0<D) (hA:A.natAbs<2^4000) (hB:B.natAbs<2^4000) (hDb:D.natAbs<2^4000):eU [prT A D,prT B D]=some (prT (A+B) D):=by
 have f:=rT (t:=A) (b:=D) (L:=4000) (by lia) hA hDb;have g:=rT (t:=B) (b:=D) (L:=4000) (by lia) hB hDb;have hb:((frI A D).2*(frI B D).2).natAbs<2^9000:=by
  have:((frI A D).2*(frI B D).2).natAbs<2^(4000+4000):=by
   rw[aJl,Nat.pow_add];exact Nat.mul_lt_mul'' f.tz g.tz
  exact pw this (by decide)
 have e:=rK (t:=(frI A D).1*(frI B D).2+(frI B D).1*(frI A D).2) (Int.mul_pos f.pos g.pos) hb;rw[WL hD] at e;have e:cR [.int ((frI A D).1*(frI B D).2+(frI B D).1*(frI A D).2),.int ((frI A D).2*(frI B D).2)]=some (prT (A+B) D):=e;rw[EV];unfold sT;simp only[rRet_at,f1_at,f2_at,fVar_at,fC_at,fCall_at,aCons_at,aNil_at,zz0,zz1,jn,zz2,KK,KM,gG f.ty g.tz,gG g.ty f.tz,gG f.tz g.tz,oAdd_int,zz3,e,BZ,outT_rt]
theorem QG {t b t' b':Int}(h:0<b) (h':0<b') (ht:t.natAbs<2^4000) (hb:b.natAbs<2^4000) (ht':t'.natAbs<2^4000) (hb':b'.natAbs<2^4000):
  dE [prT t b,prT t' b']=some (.bl (decide (t*b'<t'*b))):=by
 have f:=rT (t:=t) (b:=b) (L:=4000) (by lia) ht hb;have g:=rT (t:=t') (b:=b') (L:=4000) (by lia) ht' hb';have e:decide ((frI t b).1*(frI t' b').2<(frI t' b').1*(frI t b).2)=decide (t*b'<t'*b):=decide_eq_decide.mpr (nO h h');rw[<- e,AN];unfold pD;simp only[rRet_at,f2_at,fVar_at,fC_at,zz0,zz1,jn,zz2,KK,KM,gG f.ty g.tz,gG g.ty f.tz,oLt_int,zz3,outT_rt]
theorem CK {R:List Int}{B:Nat}(hR:∀ k,(R.getD k 0).natAbs<=B) (g:Nat):∀ ks:List Nat,(gvS R ks g).natAbs<=ks.length*B
 | []=>by simp[gvS]
 | k::ks=>by
  have ih:=CK hR g ks;rw[gvS,aK3,Nat.add_mul,Nat.one_mul];have:=hR k;cases g.testBit k<;>simp only[aJ4,if_false,if_true]<;>lia
structure Shr (n:Nat) (R:List Int) (D:Int):Prop where
 len:R.length=n
 pos:0<D
 bd:D.natAbs<2^3900
 rd:∀ k,(R.getD k 0).natAbs<=2^3900
def shT (R:List Int) (D:Int):List T:=(List.range R.length).map fun h=>prT (R.getD h 0) D
theorem aEx {R:List Int}{D:Int}{h:Nat}(hh:h<R.length):oIx (.lst (shT R D)) (.int (h:Int))=some (prT (R.getD h 0) D):=by
 rw[oIx_lst];refine jH ?_;unfold shT;rw[aJx,List.getElem?_range hh];rfl
theorem aEy (R:List Int) (D:Int):(shT R D).length=R.length:=by simp[shT]
theorem AO {n:Nat}(h6:n<=6) {R:List Int}{D:Int}(S:Shr n R D) (g:Nat):fW [.lst (shT R D),.int (g:Int)]=some (prT (gv R g) D):=by
 have hr:=eN R.length (by have:=S.len;lia);have hc2:(2:Nat)<=cap:=by decide
 have z0:T.tup [.int 0,.int 1]=prT 0 D:=by
  unfold prT;rw[jJ (t:=0) (b:=D) (t':=0) (b':=1) S.pos (by decide) (by simp),nP]
 obtain⟨ρ',hloop,x3,rfl⟩:=kI (j:=3) (n:=R.length) (body:=vN) (fun i ρ=>∃ x3,ρ=[some (.lst (shT R D)),some (.int (g:Int)),some (prT (gvS R (List.range i) g) D),x3]) (fun i hi ρ hρ=>by
   obtain⟨x3,rfl⟩:=hρ;have a1:=aEx (R:=R) (D:=D) hi;rw[List.range_succ,JF];have hb:=GQ g i;have b1:=CK S.rd g (List.range i);rw[aK7] at b1;have b2:i*2^3900<=2^6*2^3900:=Nat.mul_le_mul_right _ (by have:=S.len;lia);rw[<- Nat.pow_add] at b2;have b3:(gvS R (List.range i) g).natAbs<2^4000:=aKy (aKw b1 b2) (aL9 (by decide) (by decide));have b4:(R.getD i 0).natAbs<2^4000:=aKy (S.rd i) (aL9 (by decide) (by decide));have pl:=QI S.pos b3 b4 (pw S.bd (by decide));cases hc:g.testBit i with
   | true=>
    rw[hc] at hb;refine⟨_,?_,some (.int (i:Int)),rfl⟩;unfold vN;simp only[rIf_at,rSet_at,fB_at,f1_at,f2_at,fVar_at,fC_at,fCall_at,aCons_at,aNil_at,List.set,zz0,zz1,jn,zz2,zz3,uT,oAnd_int,tR,oEq_int,hb,isB_bl,if_true,a1,pl,BZ]
   | false=>
    rw[hc] at hb;refine⟨_,?_,some (.int (i:Int)),rfl⟩;unfold vN;simp only[rIf_at,rNext_at,fB_at,f2_at,fVar_at,fC_at,List.set,zz0,zz1,jn,zz2,zz3,uT,oAnd_int,tR,oEq_int,hb,isB_bl,aJ4,if_false,Int.add_zero])
  [some (.lst (shT R D)),some (.int (g:Int)),some (prT 0 D),none] ⟨none,rfl⟩
 rw[OC];unfold vM;simp only[rSeq_at,rSet_at,rFor_at,rRet_at,f1_at,fVar_at,fC_at,fCall_at,fTup_at,fRange_at,aCons_at,aNil_at,List.set,zz0,zz1,jn,zz2,zz3,aK3,aK6,aLe,Nat.reduceAdd,hc2,if_true,z0,oLen_lst,aEy,hr,hloop,BZ,outT_rt]
 rfl
theorem QT {m:Int}{t:List Int}(hm:∀ x∈t,fM m x=true) (hc:t.length<=1000000):nJ [.int m,.lst (tI t)]=some (.lst (tI (t.map (m * ·)))):=by
 have e:bN bE AA [none,some (.int m)] (tI t)=some (tI (t.map (m * ·))):=by
  refine tT _ fun x hx=>?_;unfold AA;simp only[f2_at,fVar_at,List.set,zz0,zz1,jn,zz2,uR (hm x hx)]
 have hc':t.length<=cap:=hc;rw[QS];unfold wX;simp[hE,bR,e,hc']
abbrev Fc:=Int × Int
abbrev Sp2:=Nat × Fc
def tF (y:Fc):T:=.tup [.int y.1,.int y.2]
def tpS (s:Sp2):List T:=[.int (s.1:Int),tF s.2]
structure Rf (y:Fc):Prop where
 pos:0<y.2
 red:frI y.1 y.2=y
 ty:y.1.natAbs<2^1000
 tz:y.2.natAbs<2^100
theorem aDe (A D:Int):prT A D=tF (frI A D):=rfl
theorem IH {A D:Int}(h:0<D):(frI A D).2<=D:=by
 obtain⟨_,_,_,e2,p,_,_⟩:=dX (t:=A) (b:=D) (by lia);have hd:=nN (t:=A) h;have:1*(frI A D).2<=frD A D*(frI A D).2:=aJj (by lia) (by lia);rw[<- e2,Int.one_mul] at this;exact this
theorem IG {A D:Int}(h:0<D):(frI A D).1.natAbs<=A.natAbs:=by
 obtain⟨_,_,e1,_,_,_,_⟩:=dX (t:=A) (b:=D) (by lia);have hd:=nN (t:=A) h;have:A.natAbs=(frD A D).natAbs*(frI A D).1.natAbs:=by rw[<- Int.natAbs_mul,<- e1]
 rw[this];exact Nat.le_mul_of_pos_left _ (by lia)
theorem aE8 {A D:Int}(h:0<D) (hA:A.natAbs<2^1000) (hD:D.natAbs<2^100):Rf (frI A D):=by
 obtain⟨_,_,e1,e2,p,_,_⟩:=dX (t:=A) (b:=D) (by lia);refine⟨p,?_,aKy (IG h) hA,?_⟩
 ·refine jJ p h ?_
  generalize frD A D=d at *;generalize (frI A D).1=y at *;generalize (frI A D).2=z at *;rw[e1,e2,aJk,aJg]
 ·have:=IH (A:=A) h
  lia
theorem xV {j:Nat}{body:Rho->Option Out}{ts:List T}(I:Nat->Rho->Prop) (c:Nat->Bool) (h:∀ i (hi:i<ts.length) ρ,I i ρ->(c i=true->∃ ρ',body (ρ.set j (some ts[i]))=some (.nx ρ')/\I (i+1) ρ')/\(c i=false->body (ρ.set j (some ts[i]))=some (.rt (.bl false)))):
  ∀ (k i:Nat),ts.length-i=k->i<=ts.length->∀ ρ,I i ρ->(∃ ρ',cF j body (ts.drop i) ρ=some (.nx ρ')/\I ts.length ρ'/\∀ m,i<=m->m<ts.length->c m=true)\/(cF j body (ts.drop i) ρ=some (.rt (.bl false))/\∃ m,m<ts.length/\c m=false)
 | 0,i,hk,hi,ρ,h0=>by
  have:i=ts.length:=by lia
  subst this;rw[List.drop_length];exact .inl ⟨ρ,rfl,h0,fun m h1 h2=>by lia⟩
 | k+1,i,hk,hi,ρ,h0=>by
  have hlt:i<ts.length:=by lia
  rw[aJn hlt,BW];obtain⟨h1,h2⟩:=h i hlt ρ h0;cases hc:c i with
  | true=>
   obtain⟨ρ',e,hI⟩:=h1 hc;rw[e];rcases xV I c h k (i+1) (by lia) (by lia) ρ' hI with ⟨ρ2,e2,e3,e4⟩ | z
   ·refine .inl ⟨ρ2,e2,e3,fun m m1 m2=>?_⟩
    by_cases hm:m=i
    ·rw[hm];exact hc
    ·exact e4 m (by lia) m2
   ·exact .inr z
  | false=>
   rw[h2 hc];exact .inr ⟨rfl,i,hlt,hc⟩
theorem IF {α:Type}{js:List Nat}{body:Rho->Option Out}(tp:α->List T) (xs:List α) (I:Nat->Rho->Prop) (c:Nat->Bool) (h:∀ i (hi:i<xs.length) ρ,I i ρ->∃ ρ1,setL ρ js (tp xs[i])=some ρ1/\(c i=true->∃ ρ',body ρ1=some (.nx ρ')/\I (i+1) ρ')/\(c i=false->body ρ1=some (.rt (.bl false)))):
  ∀ (k i:Nat),xs.length-i=k->i<=xs.length->∀ ρ,I i ρ->(∃ ρ',eW js body (tP tp (xs.drop i)) ρ=some (.nx ρ')/\I xs.length ρ'/\∀ m,i<=m->m<xs.length->c m=true)\/(eW js body (tP tp (xs.drop i)) ρ=some (.rt (.bl false))/\∃ m,m<xs.length/\c m=false)
 | 0,i,hk,hi,ρ,h0=>by
  have:i=xs.length:=by lia
  subst this;rw[List.drop_length];exact .inl ⟨ρ,rfl,h0,fun m h1 h2=>by lia⟩
 | k+1,i,hk,hi,ρ,h0=>by
  have hlt:i<xs.length:=by lia
  rw[aJn hlt];obtain⟨ρ1,hs,h1,h2⟩:=h i hlt ρ h0;show (_\/_);have un:∀ r,eW js body (tP tp (xs[i]::xs.drop (i+1))) r=eW js body (.tup (tp xs[i])::tP tp (xs.drop (i+1))) r:=fun r=>rfl;rw[un];unfold eW;rw[hs];simp only[zz2];cases hc:c i with
  | true=>
   obtain⟨ρ',e,hI⟩:=h1 hc;rw[e];simp only[zz2];rcases IF tp xs I c h k (i+1) (by lia) (by lia) ρ' hI with ⟨ρ2,e2,e3,e4⟩ | z
   ·refine .inl ⟨ρ2,e2,e3,fun m m1 m2=>?_⟩
    by_cases hm:m=i
    ·rw[hm];exact hc
    ·exact e4 m (by lia) m2
   ·exact .inr z
  | false=>
   rw[h2 hc];exact .inr ⟨rfl,i,hlt,hc⟩
def gAt (st:List Sp2) (i:Nat):Nat:=(st.getD i (0,0,1)).1
def yAt (st:List Sp2) (i:Nat):Fc:=(st.getD i (0,0,1)).2
def prv (st:List Sp2) (i:Nat):Nat:=if i=0 then 0 else gAt st (i-1)
def cG (st:List Sp2) (i:Nat):Bool:=!(gAt st i == prv st i)&&(prv st i&&&gAt st i == prv st i)
def lsB (a b:Fc):Bool:=decide (a.1*b.2<b.1*a.2)
structure Sts (n:Nat) (st:List Sp2):Prop where
 lt:∀ s∈st,s.1<2^n
 rf:∀ s∈st,Rf s.2
 len:st.length<=70
theorem Sts.at {n:Nat}{st:List Sp2}(S:Sts n st) {i:Nat}(hi:i<st.length):st[i]=(gAt st i,yAt st i)/\gAt st i<2^n/\Rf (yAt st i):=by
 have e:st.getD i (0,0,1)=st[i]:=by rw[aIp,aIq hi];rfl
 unfold gAt yAt;rw[e];exact⟨rfl,S.lt _ (aK1 hi),S.rf _ (aK1 hi)⟩
theorem DH (st:List Sp2) (i:Nat):prv st (i+1)=gAt st i:=by unfold prv;rw[if_neg (by lia)];rfl
theorem RD (a b:Nat):fZ [.int (a:Int),.int (b:Int)]=some (.bl (a&&&b == a)):=by
 rw[FM];unfold sZ;simp only[rRet_at,f2_at,fVar_at,zz0,zz1,jn,zz2,zz3,oAnd_int,gO,oEq_int,outT_rt]
 congr 2
 rw[aJ3,beq_iff_eq,beq_iff_eq];lia
theorem tQ (a b:Nat):((a:Int) == (b:Int))=(a == b):=by rw[aJ3,beq_iff_eq,beq_iff_eq];lia
theorem tV (st:List Sp2):bF (tP tpS st)=true:=by
 unfold bF tP;rw[List.all_map,aIu];intro s _
 rfl
theorem kQ (st:List Sp2):gD (.lst (tP tpS st))=some (tP tpS st):=(if_pos (tV st):(if bF (tP tpS st) then some (tP tpS st) else none)=_)
def uE (st:List Sp2) (whole:Nat):Prop:=(∀ i,i<st.length->cG st i=true)/\prv st st.length=whole
theorem PN {n:Nat}{st:List Sp2}(S:Sts n st) (whole:Nat):∃ b,nD [.int (whole:Int),.lst (tP tpS st)]=some (.bl b)/\(b=true ↔ uE st whole):=by
 have key:=IF (js:=[3,4]) (body:=sY) tpS st (fun i ρ=>∃ x3 x4,ρ=[some (.int (whole:Int)),some (.lst (tP tpS st)),some (.int (prv st i:Int)),x3,x4]) (cG st) (fun i hi ρ hρ=>by
  obtain⟨x3,x4,rfl⟩:=hρ;obtain⟨e,_,_⟩:=S.at hi;have fw:=RD (prv st i) (gAt st i);have oe:oEq (.int (gAt st i:Int)) (.int (prv st i:Int))=some (.bl (gAt st i == prv st i)):=by rw[oEq_int,tQ]
  refine⟨[some (.int (whole:Int)),some (.lst (tP tpS st)),some (.int (prv st i:Int)),some (.int (gAt st i:Int)),some (tF (yAt st i))],by rw[e];rfl,fun hc=>?_,fun hc=>?_⟩
  ·unfold cG at hc
   rw[aJ1,Bool.not_eq_true'] at hc;rw[hc.1] at oe;rw[hc.2] at fw;refine⟨[some (.int (whole:Int)),some (.lst (tP tpS st)),some (.int (prv st (i+1):Int)),some (.int (gAt st i:Int)),some (tF (yAt st i))],?_,_,_,rfl⟩;rw[DH];unfold sY;simp only[rSeq_at,rIf_at,rNext_at,rSet_at,pOr_at,pNot_at,fT_at,fB_at,f1_at,f2_at,fVar_at,fCall_at,aCons_at,aNil_at,List.set,zz0,zz1,jn,zz2,zz3,oe,fw,truT_bl,isB_bl,aJ7,aJ4,if_false,gScal_int]
  ·unfold cG at hc
   cases h1:(gAt st i == prv st i) with
   | true=>
    rw[h1] at oe;unfold sY;simp only[rSeq_at,rIf_at,rRet_at,pOr_at,fB_at,f2_at,fVar_at,fC_at,zz0,zz1,jn,zz2,zz3,oe,isB_bl,if_true]
   | false=>
    rw[h1] at oe hc;rw[aJ6,Bool.true_and] at hc;rw[hc] at fw;unfold sY;simp only[rSeq_at,rIf_at,rRet_at,pOr_at,pNot_at,fT_at,fB_at,f2_at,fVar_at,fC_at,fCall_at,aCons_at,aNil_at,zz0,zz1,jn,zz2,zz3,oe,fw,truT_bl,isB_bl,aJ6,aJ4,if_false,if_true]) st.length 0 (by simp) (aLf _) [some (.int (whole:Int)),some (.lst (tP tpS st)),some (.int (prv st 0:Int)),none,none] ⟨none,none,rfl⟩
 have p0:(prv st 0:Int)=0:=rfl;rw[p0,List.drop_zero] at key;rcases key with ⟨ρ',e,⟨x3,x4,rfl⟩,hall⟩ | ⟨e,m,hm,hc⟩
 ·refine⟨prv st st.length == whole,?_,?_⟩
  ·have oe:oEq (.int (prv st st.length:Int)) (.int (whole:Int))=some (.bl (prv st st.length == whole)):=by rw[oEq_int,tQ]
   rw[FE];unfold sX;simp only[rSeq_at,rSet_at,rForT_at,rRet_at,fFL_at,f2_at,fVar_at,fC_at,List.set,zz0,zz1,jn,zz2,zz3,kQ,e,oe,outT_rt]
  ·rw[beq_iff_eq]
   exact⟨fun z=>⟨fun i hi=>hall i (aLf _) hi,z⟩,fun z=>z.2⟩
 ·refine⟨false,?_,⟨(fun z=>by cases z),fun z=>by rw[z.1 m hm] at hc;cases hc⟩⟩
  rw[FE];unfold sX;simp only[rSeq_at,rSet_at,rForT_at,fFL_at,f2_at,fVar_at,fC_at,List.set,zz0,zz1,jn,zz2,zz3,kQ,e,outT_rt]
theorem yO {a b:Fc}(ha:Rf a) (hb:Rf b):bD (.int a.1) (.int b.2)=some (.int (a.1*b.2)):=gG (pw ha.ty (by decide)) (pw hb.tz (by decide))
theorem sE (y:Fc):oIx (tF y) (.int 0)=some (.int y.1):=rfl
theorem nY (y:Fc):oIx (tF y) (.int 1)=some (.int y.2):=rfl
theorem dC (y:Fc):aN (tF y)=some (tF y):=rfl
theorem QD {a b:Fc}(ha:Rf a) (hb:Rf b):nA [tF a,tF b]=some (.bl (lsB a b)):=by
 rw[PK];unfold wN;simp only[rRet_at,f2_at,fVar_at,fC_at,zz0,zz1,jn,zz2,sE,nY,yO ha hb,yO hb ha,oLt_int,zz3,outT_rt]
 rfl
theorem AR {a b:Fc}(ha:Rf a) (hb:Rf b):dE [tF a,tF b]=some (.bl (lsB a b)):=by
 rw[AN];unfold pD;simp only[rRet_at,f2_at,fVar_at,fC_at,zz0,zz1,jn,zz2,sE,nY,yO ha hb,yO hb ha,oLt_int,zz3,outT_rt]
 rfl
def dF:List Sp2->List Bool
 | a::b::r=>lsB a.2 b.2::dF (b::r)
 | _=>[]
theorem FX:∀ st:List Sp2,(dF st).length<=st.length
 | []=>aKv _
 | [_]=>aLf _
 | a::b::r=>by
  have:=FX (b::r);simp only[dF,aK3] at this ⊢;lia
theorem AY:∀ st:List Sp2,((dF st).all id=true ↔ ∀ i,i+1<st.length->lsB (yAt st i) (yAt st (i+1))=true)
 | []=>by simp[dF]
 | [a]=>by simp[dF]
 | a::b::r=>by
  have ih:=AY (b::r);rw[dF,aJm,aJ1,ih]
  constructor
  ·rintro ⟨h1,h2⟩ i hi
   cases i with
   | zero=>exact h1
   | succ i=>exact h2 i (by simpa using hi)
  ·intro h
   exact⟨h 0 (by simp),fun i hi=>h (i+1) (by simpa using hi)⟩
theorem FY {n:Nat}:∀ st:List Sp2,(∀ s∈st,Rf s.2)->cN [0,1] bE mG [none,none] (jU (tP tpS st) (tP tpS (st.drop 1)))=some (G.tB (dF st))
 | [],_=>rfl
 | [_],_=>rfl
 | a::b::r,h=>by
  have ih:=FY (n:=n) (b::r) fun s hs=>h s (aIr _ hs);have ih:cN [0,1] bE mG [none,none] (jU (tP tpS (b::r)) (tP tpS r))=some (G.tB (dF (b::r))):=ih;have fl:=QD (h a aIs) (h b (aIr _ aIs));have i1:∀ s:Sp2,oIx (.tup (tpS s)) (.int 1)=some (tF s.2):=fun _=>rfl;have e1:mG [some (.tup (tpS a)),some (.tup (tpS b))]=some (.bl (lsB a.2 b.2)):=by
   unfold mG;simp only[f1_at,f2_at,fVar_at,fC_at,fCall_at,aCons_at,aNil_at,zz0,zz1,jn,zz2,i1,fl,gScal_bl]
  show cN [0,1] bE mG [none,none] (.tup [.tup (tpS a),.tup (tpS b)]::jU (tP tpS (b::r)) (tP tpS r))=_;show (setL [none,none] [0,1] [.tup (tpS a),.tup (tpS b)]).bind _=_;simp only[setL_cons,setL_nil,zz2,bE,if_true,List.set];rw[e1];show (cN [0,1] bE mG [none,none] (jU (tP tpS (b::r)) (tP tpS r))).map (T.bl (lsB a.2 b.2) :: ·)=_;rw[ih]
  rfl
theorem OZ {n:Nat}{st:List Sp2}(S:Sts n st):nC [.lst (tP tpS st)]=some (.bl ((dF st).all id)):=by
 have e:=FY (n:=n) st S.rf;have sl:eI (tP tpS st) (some 1) none none=tP tpS (st.drop 1):=by
  rw[MS _ (by decide)];unfold tP;rw[<- List.map_drop];rfl
 have hc:(G.tB (dF st)).length<=cap:=by
  unfold G.tB;rw[aK5];have:=FX st;have:=S.len;unfold cap;lia
 have oa:=KI (dF st);generalize tP tpS (st.drop 1)=l1 at *;have i2:gD (.lst l1)=some l1->True:=fun _=>trivial;have fl1:bF l1=true:=by rw[<- sl,MS _ (by decide)];unfold tP bF;rw[<- List.map_drop,List.all_map,aIu];intro s _;rfl
 have i3:gD (.lst l1)=some l1:=(if_pos fl1:(if bF l1 then some l1 else none)=_);rw[PM];unfold wP;simp only[rRet_at,fVar_at,fC_at,fCall_at,fCompT_at,fZip_at,fFL_at,fSlice_at,oNone_at,oSome_at,aCons_at,aNil_at,zz0,jn,zz2,zz3,kQ,isI_int,reduceCtorEq,if_false,sl,i3,bR,aKc,aKe,aLh,e,hc,if_true,oa,outT_rt]
def cL (st:List Sp2) (i:Nat):Bool:=cG st i&&(decide (i=0)||lsB (yAt st (i-1)) (yAt st i))
theorem EK {st:List Sp2}{i:Nat}(hi:i<st.length):atI (tP tpS st) (i:Int)=some (.tup [.int (gAt st i:Int),tF (yAt st i)]):=by
 refine jH ?_;unfold tP;rw[aJx,aIq hi];unfold gAt yAt;rw[aIp,aIq hi]
 rfl
theorem QF {n:Nat}{st:List Sp2}(S:Sts n st) (whole:Nat):∃ b,mQ [.lst (tP tpS st),.int (whole:Int)]=some (.bl b)/\(b=true ↔ uE st whole/\(dF st).all id=true):=by
 have hlen:=S.len;have rn:=eN st.length (by lia);have hl:(tP tpS st).length=st.length:=by unfold tP;rw[aK5]
 have j0:∀ (g:Int) (y:T),oIx (.tup [.int g,y]) (.int 0)=some (.int g):=fun _ _=>rfl;have j1:∀ (g:Int) (y:T),oIx (.tup [.int g,y]) (.int 1)=some y:=fun _ _=>rfl;have key:=xV (j:=3) (body:=mC) (ts:=G.rangeT 0 st.length) (fun i ρ=>∃ x3,ρ=[some (.lst (tP tpS st)),some (.int (whole:Int)),some (.int (prv st i:Int)),x3]) (cL st) (fun i hi ρ hρ=>by
  obtain⟨x3,rfl⟩:=hρ;have hi':i<st.length:=by rw[kY] at hi;exact hi
  have et:(G.rangeT 0 st.length)[i]=.int (i:Int):=by rw[DP];simp
  rw[et];obtain⟨_,_,ri⟩:=S.at hi';have a1:=EK hi';have oa:fN (.int (gAt st i:Int)) (.int (prv st i:Int))=some (.int ((gAt st i&&&prv st i:Nat):Int)):=by rw[oAnd_int,gO]
  have on:oNe (.int ((gAt st i&&&prv st i:Nat):Int)) (.int (prv st i:Int))=some (.bl (!(prv st i&&&gAt st i == prv st i))):=by rw[oNe_int,tQ,Nat.and_comm]
  have oe:oEq (.int (gAt st i:Int)) (.int (prv st i:Int))=some (.bl (gAt st i == prv st i)):=by rw[oEq_int,tQ]
  have og:oGt (.int (i:Int)) (.int 0)=some (.bl (decide (0<i))):=by
   rw[oGt_int]
   congr 2
   exact decide_eq_decide.mpr (by lia)
  refine⟨fun hc=>?_,fun hc=>?_⟩
  ·unfold cL cG at hc
   rw[aJ1,aJ1,Bool.not_eq_true'] at hc;obtain⟨⟨h1,h2⟩,h3⟩:=hc;rw[h1] at oe;rw[h2] at on;refine⟨[some (.lst (tP tpS st)),some (.int (whole:Int)),some (.int (prv st (i+1):Int)),some (.int (i:Int))],?_,_,rfl⟩;rw[DH]
   by_cases hz:i=0
   ·subst hz
    have og:oGt (.int ((0:Nat):Int)) (.int 0)=some (.bl false):=rfl;unfold mC;simp only[rSeq_at,rIf_at,rNext_at,rSet_at,pOr_at,pAnd_at,fB_at,f1_at,f2_at,fVar_at,fC_at,List.set,zz0,zz1,jn,zz2,zz3,oIx_lst,a1,j0,oa,on,oe,og,isB_bl,aJ7,aJ4,if_false,gScal_int]
   ·have h3':lsB (yAt st (i-1)) (yAt st i)=true:=by
     rw[decide_eq_false hz,Bool.false_or] at h3;exact h3
    obtain⟨_,_,rp⟩:=S.at (i:=i-1) (by lia);have a2:=EK (st:=st) (i:=i-1) (by lia);rw[show ((i-1:Nat):Int)=(i:Int)-1 by lia] at a2;have fl:=AR rp ri;rw[h3'] at fl;rw[decide_eq_true (by lia)] at og;unfold mC;simp only[rSeq_at,rIf_at,rNext_at,rSet_at,pOr_at,pAnd_at,pNot_at,fT_at,fB_at,f1_at,f2_at,fVar_at,fC_at,fCall_at,aCons_at,aNil_at,List.set,zz0,zz1,jn,zz2,zz3,oIx_lst,a1,a2,j0,j1,oa,on,oe,og,oSub_int,fl,truT_bl,isB_bl,aJ7,aJ4,if_true,if_false,gScal_int]
  ·unfold cL cG at hc
   cases h2:(prv st i&&&gAt st i == prv st i) with
   | false=>
    rw[h2] at on;unfold mC;simp only[rSeq_at,rIf_at,rRet_at,pOr_at,fB_at,f2_at,fVar_at,fC_at,List.set,zz0,zz1,jn,zz2,zz3,oIx_lst,a1,j0,oa,on,isB_bl,aJ6,if_true]
   | true=>
    rw[h2] at on;cases h1:(gAt st i == prv st i) with
    | true=>
     rw[h1] at oe;unfold mC;simp only[rSeq_at,rIf_at,rRet_at,pOr_at,fB_at,f2_at,fVar_at,fC_at,List.set,zz0,zz1,jn,zz2,zz3,oIx_lst,a1,j0,oa,on,oe,isB_bl,aJ7,aJ4,if_false,if_true]
    | false=>
     rw[h1] at oe;rw[h1,h2] at hc;have hc:(decide (i=0)||lsB (yAt st (i-1)) (yAt st i))=false:=by simpa using hc
     rw[Bool.or_eq_false_iff] at hc;have hz:i≠0:=of_decide_eq_false hc.1;obtain⟨_,_,rp⟩:=S.at (i:=i-1) (by lia);have a2:=EK (st:=st) (i:=i-1) (by lia);rw[show ((i-1:Nat):Int)=(i:Int)-1 by lia] at a2;have fl:=AR rp ri;rw[hc.2] at fl;rw[decide_eq_true (by lia)] at og;unfold mC;simp only[rSeq_at,rIf_at,rNext_at,rRet_at,pOr_at,pAnd_at,pNot_at,fT_at,fB_at,f2_at,fVar_at,fC_at,fCall_at,aCons_at,aNil_at,List.set,zz0,zz1,jn,zz2,zz3,oIx_lst,a1,a2,j0,j1,oa,on,oe,og,oSub_int,fl,truT_bl,isB_bl,aJ7,aJ6,aJ4,if_true,if_false]) (G.rangeT 0 st.length).length 0 (by simp) (aLf _) [some (.lst (tP tpS st)),some (.int (whole:Int)),some (.int (prv st 0:Int)),none] ⟨none,rfl⟩
 have p0:(prv st 0:Int)=0:=rfl;rw[p0,List.drop_zero,kY] at key;have adj:(∀ m,m<st.length->cL st m=true)->(dF st).all id=true:=fun h=>(AY st).mpr fun i hi=>by
  have:=h (i+1) hi;unfold cL at this;rw[aJ1] at this
  simpa using this.2
 have back:(∀ i,i<st.length->cG st i=true)->(dF st).all id=true->∀ m,m<st.length->cL st m=true:=fun h1 h2 m hm=>by
  unfold cL;rw[h1 m hm,Bool.true_and,Bool.or_eq_true]
  by_cases z:m=0
  ·exact .inl (decide_eq_true z)
  ·have:=(AY st).mp h2 (m-1) (by lia)
   rw[show m-1+1=m by lia] at this;exact .inr this
 rcases key with ⟨ρ',e,⟨x3,rfl⟩,hall⟩ | ⟨e,m,hm,hc⟩
 ·refine⟨prv st st.length == whole,?_,?_⟩
  ·have oe:oEq (.int (prv st st.length:Int)) (.int (whole:Int))=some (.bl (prv st st.length == whole)):=by rw[oEq_int,tQ]
   rw[EU];unfold sS;simp only[rSeq_at,rSet_at,rFor_at,rRet_at,fRange_at,f2_at,fVar_at,fC_at,fCall_at,aCons_at,aNil_at,List.set,zz0,zz1,jn,zz2,zz3,oLen_lst,hl,rn,e,oe,outT_rt]
  ·have hall':∀ m,m<st.length->cL st m=true:=fun m hm=>hall m (aLf _) hm
   rw[beq_iff_eq];exact⟨fun z=>⟨⟨fun i hi=>by have:=hall' i hi;unfold cL at this;rw[aJ1] at this;exact this.1,z⟩,adj hall'⟩,fun z=>z.1.2⟩
 ·refine⟨false,?_,⟨(fun z=>by cases z),fun z=>by rw[back z.1.1 z.2 m hm] at hc;cases hc⟩⟩
  rw[EU];unfold sS;simp only[rSeq_at,rSet_at,rFor_at,fRange_at,f2_at,fVar_at,fC_at,fCall_at,aCons_at,aNil_at,List.set,zz0,zz1,jn,zz2,zz3,oLen_lst,hl,rn,e,outT_rt]
theorem BO (a b:Fc):eqT (tF a) (tF b)=decide (a=b):=by
 obtain⟨a1,a2⟩:=a;obtain⟨b1,b2⟩:=b;unfold tF;simp only[G.eqT,G.eqL,Bool.and_true];rw[aJ3,aJ1,beq_iff_eq,beq_iff_eq,decide_eq_true_eq,Prod.mk.injEq]
theorem HX:∀ (a b:List Fc),eqT (.lst (a.map tF)) (.lst (b.map tF))=decide (a=b)
 | [],[]=>rfl
 | [],_::_=>rfl
 | _::_,[]=>rfl
 | x::a,y::b=>by
  have ih:=HX a b;simp only[G.eqT] at ih ⊢;rw[aKc,aKc,G.eqL,BO,ih,aJ3,aJ1,decide_eq_true_eq,decide_eq_true_eq,decide_eq_true_eq,List.cons.injEq]
theorem BK (a:List Fc):dep (.lst (a.map tF))<=60:=by
 have:depL (a.map tF)<=1:=by
  induction a with
  | nil=>simp[depL]
  | cons x a ih=>
   rw[aKc];show max (dep (tF x)) _<=1;have:dep (tF x)<=1:=by simp[tF,dep,depL]
   lia
 show depL _+1<=60;lia
theorem KJ (a b:List Fc):oEq (.lst (a.map tF)) (.lst (b.map tF))=some (.bl (decide (a=b))):=by
 unfold oEq;rw[if_pos (by have:=BK a;have:=BK b;lia),HX]
theorem tU (a:List Fc):bF (a.map tF)=true:=by
 unfold bF;rw[List.all_map,aIu];intro s _
 rfl
theorem YW (a:List Fc):gD (.lst (a.map tF))=some (a.map tF):=(if_pos (tU a):(if bF (a.map tF) then some (a.map tF) else none)=_)
structure Shs (n:Nat) (sh:List Fc):Prop where
 len:sh.length=n
 rf:∀ y∈sh,Rf y
def dP (sh:List Fc):Int:=sh.foldl (fun m y=>m*y.2) 1
def rP (sh:List Fc):List Int:=sh.map fun y=>y.1*(dP sh).fdiv y.2
theorem xR:∀ (sh:List Fc) (m:Int),(∀ y∈sh,Rf y)->0<m->0<sh.foldl (fun m y=>m*y.2) m/\(∃ c,sh.foldl (fun m y=>m*y.2) m=m*c)/\(∀ y∈sh,∃ c,sh.foldl (fun m y=>m*y.2) m=y.2*c)/\∀ L,m.natAbs<=2^L->(sh.foldl (fun m y=>m*y.2) m).natAbs<=2^(L+100*sh.length)
 | [],m,_,hm=>⟨hm,⟨1,by simp⟩,(fun y hy=>by cases hy),fun L hL=>by simpa using hL⟩
 | y::sh,m,hr,hm=>by
  have ry:=hr y aIs;obtain⟨h1,⟨c,h2⟩,h3,h4⟩:=xR sh (m*y.2) (fun z hz=>hr z (aIr _ hz)) (Int.mul_pos hm ry.pos);rw[List.foldl_cons];refine⟨h1,⟨y.2*c,by rw[h2,aJg]⟩,fun z hz=>?_,fun L hL=>?_⟩
  ·rcases aJ0.mp hz with rfl | hz
   ·exact⟨m*c,by rw[h2,aJh m,aJg]⟩
   ·exact h3 z hz
  ·have:=h4 (L+100) (by
    rw[aJl,Nat.pow_add];exact aL2 hL (aKu ry.tz))
   rw[aK3,show L+100*(sh.length+1)=L+100+100*sh.length by lia];exact this
section
variable {n:Nat}{sh:List Fc}
theorem Shs.dpos (S:Shs n sh):0<dP sh:=(xR sh 1 S.rf (by decide)).1
theorem Shs.dbd (S:Shs n sh) (h6:n<=6):(dP sh).natAbs<=2^600:=by
 have:=(xR sh 1 S.rf (by decide)).2.2.2 0 (by decide);refine aKw this (aL8 (by decide) ?_);have:=S.len;lia
theorem Shs.quo (S:Shs n sh) {y:Fc}(hy:y∈sh):(dP sh).fdiv y.2*y.2=dP sh/\((dP sh).fdiv y.2).natAbs<=(dP sh).natAbs:=by
 obtain⟨c,e⟩:=(xR sh 1 S.rf (by decide)).2.2.1 y hy;have e:dP sh=y.2*c:=e;have ry:=S.rf y hy;have q:(dP sh).fdiv y.2=c:=by
  rw[e,Int.mul_fdiv_cancel_left _ (by have:=ry.pos;lia)]
 rw[q];refine⟨by rw[e,aJh],?_⟩;rw[e,aJl];exact Nat.le_mul_of_pos_left _ (by have:=ry.pos;lia)
theorem Shs.shr (S:Shs n sh) (h6:n<=6):Shr n (rP sh) (dP sh):=by
 refine⟨by unfold rP;rw[aK5];exact S.len,S.dpos,aKy (S.dbd h6) (aL9 (by decide) (by decide)),fun k=>?_⟩
 by_cases hk:k<sh.length
 ·have:(rP sh).getD k 0=sh[k].1*(dP sh).fdiv sh[k].2:=by
   unfold rP;rw[aIp,aJx,aIq hk];rfl
  rw[this,aJl];have r:=S.rf _ (aK1 hk);have q:=(S.quo (aK1 hk)).2;refine aKw (aL2 (aKu r.ty) (aKw q (S.dbd h6))) ?_;rw[<- Nat.pow_add];exact aL8 (by decide) (by decide)
 ·rw[aIp,aJv (by unfold rP;rw[aK5];lia)];exact aLf _
theorem Shs.tree (S:Shs n sh):sh.map tF=shT (rP sh) (dP sh):=by
 unfold shT;have hl:(rP sh).length=sh.length:=by unfold rP;rw[aK5]
 refine List.ext_getElem (by rw[aK5,aK5,aK7,hl]) fun i i1 i2=>?_;rw[aK5] at i1;rw[List.getElem_map,List.getElem_map,List.getElem_range,aDe];have e:(rP sh).getD i 0=sh[i].1*(dP sh).fdiv sh[i].2:=by
  unfold rP;rw[aIp,aJx,aIq i1];rfl
 have r:=S.rf _ (aK1 i1);have q:=(S.quo (aK1 i1)).1;rw[e];have:frI (sh[i].1*(dP sh).fdiv sh[i].2) (dP sh)=frI sh[i].1 sh[i].2:=jJ S.dpos r.pos (by rw[aJg,q]);rw[this,r.red]
end
def bsP (n:Nat) (t R:List Int) (D:Int):Prop:=(∀ g,g<2^n->gv R g<=D*t.getD g 0)/\gv R (2^n-1)=D*t.getD (2^n-1) 0
theorem WM {A D t:Int}(h:0<D):frI A D=(t,1) ↔ A=D*t:=by
 constructor
 ·intro e
  obtain⟨_,_,e1,e2,_,_,_⟩:=dX (t:=A) (b:=D) (by lia);rw[e] at e1 e2;have e1:A=frD A D*t:=e1;have e2:D=frD A D*1:=e2;rw[Int.mul_one] at e2;rw[<- e2] at e1;exact e1
 ·intro e
  rw[<- nP t];exact jJ h (by decide) (by rw[e,Int.mul_one,aJh])
theorem HY {A D t:Int}(h:0<D):eqT (prT A D) (.tup [.int t,.int 1])=decide (A=D*t):=by
 have:eqT (prT A D) (.tup [.int t,.int 1])=decide (frI A D=(t,1)):=BO (frI A D) (t,1);rw[this];exact decide_eq_decide.mpr (WM h)
theorem HR (A D:Int):dep (prT A D)<=60:=by simp[prT,dep,depL]
theorem HQ (t:Int):dep (.tup [.int t,.int 1])<=60:=by simp[dep,depL]
theorem aA5 {A D t:Int}(h:0<D):oEq (prT A D) (.tup [.int t,.int 1])=some (.bl (decide (A=D*t))):=by
 unfold oEq;rw[if_pos (by have:=HR A D;have:=HQ t;lia),HY h]
theorem aAa {A D t:Int}(h:0<D):oNe (prT A D) (.tup [.int t,.int 1])=some (.bl (!decide (A=D*t))):=by
 unfold oNe;rw[if_pos (by have:=HR A D;have:=HQ t;lia),HY h]
theorem XZ {n:Nat}(h6:n<=6) {R:List Int}{D:Int}(S:Shr n R D) (g:Nat):(gv R g).natAbs<2^4000:=by
 have b1:=CK S.rd g (List.range R.length);rw[aK7] at b1;have b2:R.length*2^3900<=2^6*2^3900:=Nat.mul_le_mul_right _ (by have:=S.len;lia);rw[<- Nat.pow_add] at b2;exact aKy (aKw b1 b2) (aL9 (by decide) (by decide))
theorem QB {n:Nat}(h6:n<=6) {t R:List Int}{D:Int}(hl:t.length=2^n) (hbd:Bd (10^200) t) (S:Shr n R D):∃ b,mO [.lst (tI t),.lst (shT R D)]=some (.bl b)/\(b=true ↔ bsP n t R D):=by
 have h64:=eX h6;have hp:0<2^n:=aLa (by decide);have hr:=eN (2^n) (by lia);have hc2:(2:Nat)<=cap:=by decide
 have gb:=XZ h6 S;have key:=xV (j:=2) (body:=vB) (ts:=G.rangeT 0 (2^n)) (fun i ρ=>∃ x2,ρ=[some (.lst (tI t)),some (.lst (shT R D)),x2]) (fun g=>decide (gv R g<=D*t.getD g 0)) (fun g hg ρ hρ=>by
   obtain⟨x2,rfl⟩:=hρ;have hg:g<2^n:=by rw[kY] at hg;exact hg
   have et:∀ hh,(G.rangeT 0 (2^n))[g]'hh=.int (g:Int):=fun hh=>by rw[DP];simp
   rw[et];have a1:atI (tI t) (g:Int)=some (.int (t.getD g 0)):=dG (by lia);have fg:=AO h6 S g;have z1:T.tup [.int (t.getD g 0),.int 1]=prT (t.getD g 0) 1:=by unfold prT;rw[nP]
   have tb:(t.getD g 0).natAbs<2^4000:=aKy (hbd.get g) (aL1 (by decide +kernel:10^200<2^700) (aL9 (by decide) (by decide)));have fl:=QG (t:=t.getD g 0) (b:=1) (t':=gv R g) (b':=D) (by decide) S.pos tb (aIw (by decide:(1:Int).natAbs<2^1) (aL8 (by decide) (by decide))) (gb g) (pw S.bd (by decide));refine⟨fun hc=>?_,fun hc=>?_⟩
   ·have hc:=of_decide_eq_true hc
    rw[decide_eq_false (show ¬ (t.getD g 0*D<gv R g*1) by rw[Int.mul_one,aJh];lia)] at fl;refine⟨_,?_,some (.int (g:Int)),rfl⟩;unfold vB;simp only[rIf_at,rNext_at,fT_at,f1_at,f2_at,fVar_at,fC_at,fCall_at,fTup_at,aCons_at,aNil_at,List.set,zz0,zz1,jn,zz2,zz3,oIx_lst,a1,gScal_int,aK3,aK6,aLe,Nat.reduceAdd,hc2,if_true,z1,fg,fl,truT_bl,aJ4,if_false]
   ·have hc:=of_decide_eq_false hc
    rw[decide_eq_true (show t.getD g 0*D<gv R g*1 by rw[Int.mul_one,aJh];lia)] at fl;unfold vB;simp only[rIf_at,rRet_at,fT_at,f1_at,f2_at,fVar_at,fC_at,fCall_at,fTup_at,aCons_at,aNil_at,List.set,zz0,zz1,jn,zz2,zz3,oIx_lst,a1,gScal_int,aK3,aK6,aLe,Nat.reduceAdd,hc2,if_true,z1,fg,fl,truT_bl]) (G.rangeT 0 (2^n)).length 0 (by simp) (aLf _) [some (.lst (tI t)),some (.lst (shT R D)),none] ⟨none,rfl⟩
 rw[List.drop_zero,kY] at key;have la:=GH (ns:=t) (by lia);rw[hl] at la;have ng:dJ (.int 1)=some (.int (-1)):=rfl;have e0:((2^n:Nat):Int)-1=((2^n-1:Nat):Int):=by lia
 have fg:=AO h6 S (2^n-1);have oe:=aA5 (A:=gv R (2^n-1)) (D:=D) (t:=t.getD (2^n-1) 0) S.pos;rcases key with ⟨ρ',e,⟨x2,rfl⟩,hall⟩ | ⟨e,m,hm,hc⟩
 ·refine⟨decide (gv R (2^n-1)=D*t.getD (2^n-1) 0),?_,?_⟩
  ·generalize decide (gv R (2^n-1)=D*t.getD (2^n-1) 0)=bb at *
   rw[ES];unfold sO;simp only[rSeq_at,rFor_at,rRet_at,f1_at,f2_at,fVar_at,fC_at,fCall_at,fTup_at,fRange_at,aCons_at,aNil_at,zz0,zz1,jn,zz2,zz3,oLen_lst,tI_length,hl,hr,e,oSub_int,e0,fg,ng,oIx_lst,la,gScal_int,aK3,aK6,aLe,Nat.reduceAdd,hc2,if_true,oe,outT_rt]
  ·rw[decide_eq_true_eq]
   exact⟨fun z=>⟨fun g hg=>of_decide_eq_true (hall g (aLf _) hg),z⟩,fun z=>z.2⟩
 ·refine⟨false,?_,⟨(fun z=>by cases z),fun z=>absurd (z.1 m hm) (of_decide_eq_false hc)⟩⟩
  rw[ES];unfold sO;simp only[rSeq_at,rFor_at,f2_at,fVar_at,fC_at,fCall_at,fRange_at,aCons_at,aNil_at,zz0,zz1,jn,zz2,zz3,oLen_lst,tI_length,hl,hr,e,outT_rt]
theorem gvP {t R:List Int}{n:Nat}(hl:t.length=2^n) (D:Int) (g:Nat):(t.map (D * ·)).getD g 0=D*t.getD g 0:=by
 rw[aIp,aJx,aIp];cases t[g]? with
 | none=>simp
 | some x=>rfl
theorem PB {n:Nat}(h6:n<=6) {t:List Int}(hl:t.length=2^n) (hz:t.getD 0 0=0) (hbd:Bd (10^200) t) {sh:List Fc}(S:Shs n sh) {st:List Sp2}(St:Sts n st):∃ b,mX [.lst (tI t),.lst (sh.map tF),.lst (tP tpS st)]=some (.bl b)/\(b=true ↔ bsP n t (rP sh) (dP sh)/\∀ s∈st,gv (rP sh) s.1=dP sh*t.getD s.1 0):=by
 have h64:=eX h6;have hp:0<2^n:=aLa (by decide);have W:=S.shr h6;have hRl:=W.len;have lp:∀ (pre suf:List Fc),pre++suf=sh->∀ (m:Int) (x4:Option T),m.natAbs<=2^(100*pre.length)->∃ x4',cF 4 sW (suf.map tF) [some (.lst (tI t)),some (.lst (sh.map tF)),some (.lst (tP tpS st)),some (.int m),x4,none,none]=some (.nx [some (.lst (tI t)),some (.lst (sh.map tF)),some (.lst (tP tpS st)),some (.int (suf.foldl (fun m y=>m*y.2) m)),x4',none,none]):=by
  intro pre suf
  induction suf generalizing pre with
  | nil=>intro _ m x4 _;exact⟨x4,rfl⟩
  | cons y suf ih=>
   intro e m x4 hm;have ry:=S.rf y (by rw[<- e];simp);have hlen:pre.length<6:=by
    have:=S.len;rw[<- e] at this;simp at this;lia
   have mu:bD (.int m) (.int y.2)=some (.int (m*y.2)):=gG (aKy hm (aL9 (by decide) (by lia))) (pw ry.tz (by decide));obtain⟨x4',e2⟩:=ih (pre++[y]) (by rw[<- e];simp) (m*y.2) (some (tF y)) (by
    rw[aJl,aK2,List.length_singleton,Nat.mul_add,Nat.pow_add,Nat.mul_one];exact aL2 hm (aKu ry.tz))
   refine⟨x4',?_⟩;rw[aKc,BW];have turn:sW ([some (.lst (tI t)),some (.lst (sh.map tF)),some (.lst (tP tpS st)),some (.int m),x4,none,none].set 4 (some (tF y)))=some (.nx [some (.lst (tI t)),some (.lst (sh.map tF)),some (.lst (tP tpS st)),some (.int (m*y.2)),some (tF y),none,none]):=by
    unfold sW;simp only[rSet_at,f2_at,fVar_at,fC_at,List.set,zz0,zz1,jn,zz2,zz3,nY,mu]
   rw[turn];exact e2
 obtain⟨x4,e4⟩:=lp [] sh rfl 1 none (by decide);have e4:cF 4 sW (sh.map tF) [some (.lst (tI t)),some (.lst (sh.map tF)),some (.lst (tP tpS st)),some (.int 1),none,none,none]=some (.nx [some (.lst (tI t)),some (.lst (sh.map tF)),some (.lst (tP tpS st)),some (.int (dP sh)),x4,none,none]):=e4;have dbd:=S.dbd h6;have fs:=QT (m:=dP sh) (t:=t) (fun x hx=>CW 4000 700 (aKy dbd (aL9 (by decide) (by decide))) (aKy (hbd x hx) (by decide +kernel)) (by decide) (by decide)) (by lia);have er:bN bE wJ [none,some (.int (dP sh))] (sh.map tF)=some (tI (rP sh)):=by
  have:=xP (p:=bE) (f:=wJ) (ρ:=[none,some (.int (dP sh))]) tF (fun _=>true) (fun y=>T.int (y.1*(dP sh).fdiv y.2)) sh (fun y hy=>⟨rfl,fun _=>by
   have ry:=S.rf y hy;have dv:fD (.int (dP sh)) (.int y.2)=some (.int ((dP sh).fdiv y.2)):=uP (by have:=ry.pos;lia) (pw ry.tz (by decide));have mu:bD (.int y.1) (.int ((dP sh).fdiv y.2))=some (.int (y.1*(dP sh).fdiv y.2)):=gG (pw ry.ty (by decide)) (aKy (aKw (S.quo hy).2 dbd) (aL9 (by decide) (by decide)));unfold wJ;simp only[f2_at,fVar_at,fC_at,List.set,zz0,zz1,jn,zz2,sE,nY,dv,mu]⟩)
  rw[this,List.filter_eq_self.mpr (fun _ _=>rfl)];unfold tI rP;rw[aKd];rfl
 have hcr:(tI (rP sh)).length<=cap:=by rw[tI_length,hRl];unfold cap;lia
 have hl':(t.map (dP sh * ·)).length=2^n:=by rw[aK5,hl]
 have fb:=OS h6 hl' hRl;have gt:=fun g=>gvP (R:=rP sh) hl (dP sh) g;rw[gt] at fb;have hmin:(-dR (cW (t.map (dP sh * ·)) (rP sh)) == 0)=true ↔ ∀ g,g<2^n->gv (rP sh) g<=dP sh*t.getD g 0:=by
  rw[beq_iff_eq];have hne:=JV (row:=rP sh) hl';have h0:(0:Int)∈cW (t.map (dP sh * ·)) (rP sh):=by
   have e:=CU (t:=t.map (dP sh * ·)) (row:=rP sh) (g:=0) (by lia);rw[gt,hz,kM] at e;have:(cW (t.map (dP sh * ·)) (rP sh)).getD 0 0∈cW (t.map (dP sh * ·)) (rP sh):=nR (by rw[nW];lia);rw[e] at this
   simpa using this
  constructor
  ·intro z g hg
   have e:=CU (t:=t.map (dP sh * ·)) (row:=rP sh) (g:=g) (by lia);rw[gt] at e;have hm:=nR (l:=cW (t.map (dP sh * ·)) (rP sh)) (i:=g) (by rw[nW];lia);have:=JW hm;rw[e] at this;lia
  ·intro z
   have h1:=JW h0;obtain⟨i,hi,e⟩:=List.mem_iff_getElem.mp (JX hne);rw[nW] at hi;have e2:=CU (t:=t.map (dP sh * ·)) (row:=rP sh) (g:=i) hi;rw[aIp,aIq (by rw[nW];exact hi),gt] at e2;have e2:(cW (t.map (dP sh * ·)) (rP sh))[i]'(by rw[nW];exact hi)=dP sh*t.getD i 0-gv (rP sh) i:=e2;rw[e] at e2;have:=z i (by lia);lia
 have e2:cN [0,1] bE wK [none,none,some (.lst (tI (rP sh))),some (.lst (tI (t.map (dP sh * ·))))] (tP tpS st)=some (G.tB (st.map fun s=>gv (rP sh) s.1 == dP sh*t.getD s.1 0)):=by
  have:=xO (js:=[0,1]) (p:=bE) (f:=wK) (ρ:=[none,none,some (.lst (tI (rP sh))),some (.lst (tI (t.map (dP sh * ·))))]) tpS (fun _=>true) (fun s=>T.bl (gv (rP sh) s.1 == dP sh*t.getD s.1 0)) st (fun s hs=>⟨[some (.int (s.1:Int)),some (tF s.2),some (.lst (tI (rP sh))),some (.lst (tI (t.map (dP sh * ·))))],rfl,rfl,fun _=>by
   have hs1:=St.lt s hs;have rg:=FJ (row:=rP sh) (by lia) (g:=s.1) (by rw[hRl];exact hs1);rw[xZ] at rg;have a1:atI (tI (t.map (dP sh * ·))) (s.1:Int)=some (.int ((t.map (dP sh * ·)).getD s.1 0)):=dG (by lia);rw[gt] at a1;generalize dP sh*t.getD s.1 0=v at *;unfold wK;simp only[f2_at,fVar_at,fCall_at,aCons_at,aNil_at,zz0,zz1,jn,zz2,rg,oIx_lst,a1,oEq_int]⟩)
  rw[this,List.filter_eq_self.mpr (fun _ _=>rfl)];unfold G.tB;rw[aKd];rfl
 have hcb:(G.tB (st.map fun s=>gv (rP sh) s.1 == dP sh*t.getD s.1 0)).length<=cap:=by unfold G.tB;rw[aK5,aK5];have:=St.len;unfold cap;lia
 have oa:=KI (st.map fun s=>gv (rP sh) s.1 == dP sh*t.getD s.1 0);have hst:(st.map fun s=>gv (rP sh) s.1 == dP sh*t.getD s.1 0).all id=true ↔ ∀ s∈st,gv (rP sh) s.1=dP sh*t.getD s.1 0:=by
  rw[List.all_map,aIu];exact⟨fun z s hs=>eq_of_beq (z s hs),fun z s hs=>beq_iff_eq.mpr (z s hs)⟩
 refine⟨((-dR (cW (t.map (dP sh * ·)) (rP sh)) == 0)&&(gv (rP sh) (2^n-1) == dP sh*t.getD (2^n-1) 0))&&(st.map fun s=>gv (rP sh) s.1 == dP sh*t.getD s.1 0).all id,?_,?_⟩
 ·generalize ((-dR (cW (t.map (dP sh * ·)) (rP sh)) == 0)&&(gv (rP sh) (2^n-1) == dP sh*t.getD (2^n-1) 0))=b1 at *
  generalize (st.map fun s=>gv (rP sh) s.1 == dP sh*t.getD s.1 0)=l2 at *;generalize l2.all id=b2 at *;generalize G.tB l2=l3 at *;generalize t.map (dP sh * ·)=t2 at *;generalize rP sh=rr at *;generalize dP sh=dd at *;rw[PC];unfold wI;simp only[rSeq_at,rSet_at,rFor_at,rRet_at,fFL_at,f1_at,vAnd_at,fVar_at,fC_at,fCall_at,fComp_at,fCompT_at,aCons_at,aNil_at,List.set,zz0,zz1,jn,zz2,zz3,YW,e4,fs,bR,aKc,aKe,aLh,er,hcr,if_true,fb,isB_bl,kQ,e2,hcb,oa];cases b1<;>cases b2<;>rfl
 ·rw[aJ1,aJ1,hmin,hst,beq_iff_eq]
  exact⟨fun z=>⟨⟨z.1.1,z.1.2⟩,z.2⟩,fun z=>⟨⟨z.1.1,z.1.2⟩,z.2⟩⟩
structure Wts (n:Nat) (w:List Int):Prop where
 len:w.length=n
 bd:∀ x∈w,1<=x/\x<=10^9+1
theorem Wts.w64 {n:Nat}{w:List Int}(W:Wts n w) (h:Nat):(w.getD h 0).natAbs<2^64:=by
 by_cases hh:h<w.length
 ·have:=W.bd _ (nR hh)
  lia
 ·rw[aIp,aJv (Nat.le_of_not_lt hh)];decide
def fyS (st:List Sp2) (h:Nat):Fc:=((st.filter fun s=>s.1.testBit h).getD 0 (0,0,1)).2
def sbL (n:Nat) (w:List Int) (st:List Sp2):List Fc:=(List.range n).map fun h=>frI (w.getD h 0*(fyS st h).1) (fyS st h).2
def Cov (n:Nat) (st:List Sp2):Prop:=∀ h,h<n->∃ s∈st,s.1.testBit h=true
theorem BH {n:Nat}{st:List Sp2}(S:Sts n st) (C:Cov n st) {h:Nat}(hh:h<n):∃ g r,(st.filter fun s=>s.1.testBit h)=(g,fyS st h)::r/\Rf (fyS st h):=by
 obtain⟨s,hs,hb⟩:=C h hh;have hm:s∈st.filter fun s=>s.1.testBit h:=aKi.mpr ⟨hs,hb⟩;unfold fyS;cases e:st.filter (fun s=>s.1.testBit h) with
 | nil=>rw[e] at hm;cases hm
 | cons a r=>
  have ha:a∈st:=(aKi.mp (by rw[e];exact aIs:a∈st.filter fun s=>s.1.testBit h)).1;exact⟨a.1,r,rfl,S.rf a ha⟩
theorem PD {n:Nat}(h6:n<=6) {st:List Sp2}(S:Sts n st) (C:Cov n st) {h:Nat}(hh:h<n):mY [.lst (tP tpS st),.int (h:Int)]=some (tF (fyS st h)):=by
 have sh:=kW (b:=h) (by lia);obtain⟨g,r,hr,_⟩:=BH S C hh;have e:cN [0,1] zX zW [none,none,some (.int (h:Int))] (tP tpS st)=some ((st.filter fun s=>s.1.testBit h).map fun s=>tF s.2):=
  xO tpS (fun s=>s.1.testBit h) (fun s=>tF s.2) st (fun s hs=>by
   have fw:=RC (g:=s.1) (k:=h);refine⟨_,rfl,?_,fun _=>?_⟩
   ·unfold zX
    simp only[fT_at,f2_at,fVar_at,fC_at,fCall_at,aCons_at,aNil_at,List.set,zz0,zz1,jn,zz2,sh,fw,truT_bl]
   ·unfold zW
    simp only[f1_at,fVar_at,List.set,zz0,zz1,jn,zz2,dC])
 rw[hr,aKc] at e;have hln:(tF (fyS st h)::r.map fun s=>tF s.2).length<=cap:=by
  have k1:=List.length_filter_le (fun s:Sp2=>s.1.testBit h) st;rw[hr,aK3] at k1;have:=S.len;rw[aK3,aK5];unfold cap;lia
 have i0:∀ (x:T) (xs:List T),atI (x::xs) 0=some x:=fun x xs=>jH (xs:=x::xs) (j:=0) (v:=x) rfl;rw[PF];unfold wL;simp only[rRet_at,f1_at,f2_at,fVar_at,fC_at,fCompT_at,fFL_at,zz0,zz1,jn,zz2,kQ,bR,aKc,aKe,aLh,e,hln,if_true,oIx_lst,i0,dC,zz3,outT_rt]
theorem xF (A D:Int):T.tup [.int (frI A D).1,.int (frI A D).2]=tF (frI A D):=rfl
theorem QR {n:Nat}(h6:n<=6) {w:List Int}(W:Wts n w) {st:List Sp2}(S:Sts n st) (C:Cov n st):nK [.lst (tI w),.lst (tP tpS st)]=some (.lst ((sbL n w st).map tF)):=by
 have e:cN [0,1] bE AB [none,none,some (.lst (tP tpS st))] (dW 0 (tI w))=some (((List.range w.length).filter fun _=>true).map fun h=>tF (frI (w.getD h 0*(fyS st h).1) (fyS st h).2)):=by
  rw[WD];refine xO (fun p:Nat=>[T.int (p:Int),T.int (w.getD p 0)]) (fun _=>true) (fun h=>tF (frI (w.getD h 0*(fyS st h).1) (fyS st h).2)) (List.range w.length) (fun h hh=>?_);have hh':h<n:=by rw[<- W.len];exact aIv.mp hh
  refine⟨_,rfl,rfl,fun _=>?_⟩;have ff:=PD h6 S C hh';obtain⟨g,r,hr,R⟩:=BH S C hh';have ft:=PJ (t:=w.getD h 0*(fyS st h).1) (b:=(fyS st h).2) (by have:=R.pos;lia) (pw R.tz (by decide));rw[xF] at ft;have mu:bD (.int (w.getD h 0)) (.int (fyS st h).1)=some (.int (w.getD h 0*(fyS st h).1)):=hX (W.w64 h);have fti:nB [.int (w.getD h 0),tF (fyS st h)]=some (tF (frI (w.getD h 0*(fyS st h).1) (fyS st h).2)):=by
   rw[PL];unfold wO;simp only[rRet_at,f1_at,f2_at,fVar_at,fC_at,fCall_at,aCons_at,aNil_at,zz0,zz1,jn,zz2,sE,nY,mu,zz3,ft,dC,outT_rt]
  unfold AB;simp only[f1_at,fVar_at,fCall_at,aCons_at,aNil_at,List.set,zz0,zz1,jn,zz2,ff,fti,dC]
 rw[List.filter_eq_self.mpr (fun _ _=>rfl),W.len] at e;have ef:((List.range n).map fun h=>tF (frI (w.getD h 0*(fyS st h).1) (fyS st h).2))=(sbL n w st).map tF:=by unfold sbL;rw[aKd];rfl
 rw[ef] at e;have hc:((sbL n w st).map tF).length<=cap:=by unfold sbL;rw[aK5,aK5,aK7];unfold cap;lia
 rw[QU];unfold wY;simp only[rRet_at,fVar_at,fCompT_at,fEnum_at,fFL_at,zz0,zz1,jn,zz2,zz3,hE,bR,aKc,aKe,aLh,e,hc,if_true,outT_rt]
theorem rJ {n:Nat}(h6:n<=6) {w:List Int}(W:Wts n w) {st:List Sp2}(S:Sts n st) (C:Cov n st):fU [.lst (tP tpS st),.lst (tI w)]=some (.lst ((sbL n w st).map tF)):=by
 have hr:=eN n (by lia);have i0':∀ (x:T) (xs:List T),atI (x::xs) 0=some x:=fun x xs=>jH (xs:=x::xs) (j:=0) (v:=x) rfl;obtain⟨ρ',hloop,x3,x4,rfl⟩:=kI (j:=3) (n:=n) (body:=zF) (fun i ρ=>∃ x3 x4,ρ=[some (.lst (tP tpS st)),some (.lst (tI w)),some (.lst ((List.range i).map fun h=>tF (frI (w.getD h 0*(fyS st h).1) (fyS st h).2))),x3,x4]) (fun h hh ρ hρ=>by
   obtain⟨x3,x4,rfl⟩:=hρ;obtain⟨g,r,hr',R⟩:=BH S C hh;have e:bN vI vH [none,some (.int (h:Int))] (st.map fun s=>.tup (tpS s))=some ((st.filter fun s=>s.1.testBit h).map fun s=>tF s.2):=
    xP _ _ _ st (fun s hs=>by
     have hb:=GQ s.1 h;have j0:oIx (.tup (tpS s)) (.int 0)=some (.int (s.1:Int)):=rfl;have j1:oIx (.tup (tpS s)) (.int 1)=some (tF s.2):=rfl;refine⟨?_,fun _=>?_⟩
     ·unfold vI
      simp only[fB_at,f2_at,fVar_at,fC_at,List.set,zz0,zz1,jn,zz2,j0,uT,oAnd_int,tR,oEq_int,hb,isB_bl]
     ·unfold vH
      simp only[f1_at,f2_at,fVar_at,fC_at,List.set,zz0,jn,zz2,j1,dC])
   have e:bN vI vH [none,some (.int (h:Int))] (tP tpS st)=some ((st.filter fun s=>s.1.testBit h).map fun s=>tF s.2):=e;rw[hr',aKc] at e;have hln:(tF (fyS st h)::r.map fun s=>tF s.2).length<=cap:=by
    have k1:=List.length_filter_le (fun s:Sp2=>s.1.testBit h) st;rw[hr',aK3] at k1;have:=S.len;rw[aK3,aK5];unfold cap;lia
   have ft:=rK (t:=w.getD h 0*(fyS st h).1) (b:=(fyS st h).2) R.pos (pw R.tz (by decide));rw[xF] at ft;have mu:bD (.int (w.getD h 0)) (.int (fyS st h).1)=some (.int (w.getD h 0*(fyS st h).1)):=hX (W.w64 h);have a1:atI (tI w) (h:Int)=some (.int (w.getD h 0)):=dG (by rw[W.len];exact hh);have hc:((List.range h).map fun h=>tF (frI (w.getD h 0*(fyS st h).1) (fyS st h).2)).length<cap:=by rw[aK5,aK7];unfold cap;lia
   refine⟨_,?_,some (.int (h:Int)),some (tF (fyS st h)),rfl⟩;rw[List.range_succ,List.map_append];unfold zF;simp only[rSeq_at,rSet_at,rApp_at,f1_at,f2_at,fVar_at,fC_at,fCall_at,fComp_at,fFL_at,aCons_at,aNil_at,List.set,zz0,zz1,jn,zz2,zz3,kQ,bR,aKc,aKe,aLh,e,hln,if_true,oIx_lst,i0',dC,a1,sE,nY,mu,ft,hc])
  [some (.lst (tP tpS st)),some (.lst (tI w)),some (.lst []),none,none] ⟨none,none,rfl⟩
 have ef:((List.range n).map fun h=>tF (frI (w.getD h 0*(fyS st h).1) (fyS st h).2))=(sbL n w st).map tF:=by unfold sbL;rw[aKd];rfl
 rw[ef] at hloop;have hc0:(0:Nat)<=cap:=aLf _;have hflat:=tU (sbL n w st);rw[NY];unfold vG;simp only[rSeq_at,rSetM_at,rFor_at,rRet_at,fMut_at,fVar_at,fCall_at,fLst_at,fRange_at,aCons_at,aNil_at,List.set,zz0,zz1,jn,zz2,zz3,aK6,hc0,if_true,okM_lst,oLen_lst,tI_length,W.len,hr,hloop,hflat,outT_rt]
theorem yC {n:Nat}(h1:1<=n) {st:List Sp2}(S:Sts n st) (hg:uE st (2^n-1)):Cov n st:=fun h hh=>by
 have hp:2<=2^n:=aKw (by decide:2<=2^1) (aL8 (by decide) h1);have hl:0<st.length:=by
  cases e:st with
  | nil=>
   have:=hg.2;rw[e] at this;have:0=2^n-1:=this;lia
  | cons _ _=>simp
 have e:=hg.2;rw[show st.length=st.length-1+1 by lia,DH] at e;obtain⟨e1,_,_⟩:=S.at (i:=st.length-1) (by lia);refine⟨st[st.length-1],aK1 (by lia),?_⟩;rw[e1];show (gAt st (st.length-1)).testBit h=true;rw[e,BX];exact decide_eq_true hh
structure Cw (n:Nat) (t w:List Int) (sh:List Fc) (st:List Sp2):Prop where
 one:1<=n
 six:n<=6
 tl:t.length=2^n
 tz:t.getD 0 0=0
 tb:Bd (10^200) t
 ws:Wts n w
 ss:Shs n sh
 ts:Sts n st
def kF (n:Nat) (t w:List Int) (sh:List Fc) (st:List Sp2):Prop:=uE st (2^n-1)/\(dF st).all id=true/\sh=sbL n w st/\bsP n t (rP sh) (dP sh)/\∀ s∈st,gv (rP sh) s.1=dP sh*t.getD s.1 0
theorem QV {n:Nat}{t w:List Int}{sh:List Fc}{st:List Sp2}(W:Cw n t w sh st):∃ b,jG [.lst (tI t),.lst (tI w),.lst (sh.map tF),.lst (tP tpS st)]=some (.bl b)/\(b=true ↔ kF n t w sh st):=by
 have hp:0<2^n:=aLa (by decide);obtain⟨g,eg,hg⟩:=PN W.ts (2^n-1);have ef:=OZ W.ts;have ev:fG [.lst (tI t)]=some (.int ((2^n-1:Nat):Int)):=by
  rw[OY,W.tl]
  congr 2
  lia
 have wf:=RB t w;cases hgb:g with
 | false=>
  refine⟨false,?_,⟨(fun z=>by cases z),fun z=>by have:=hg.mpr z.1;rw[hgb] at this;cases this⟩⟩;rw[hgb] at eg;rw[AT];unfold pF;simp only[rSeq_at,rIf_at,rRet_at,pOr_at,pNot_at,fT_at,fVar_at,fC_at,fCall_at,aCons_at,aNil_at,zz0,zz1,jn,zz2,zz3,ev,eg,truT_bl,aJ6,if_true,outT_rt]
 | true=>
  rw[hgb] at eg;have G1:=hg.mp hgb;cases hfb:(dF st).all id with
  | false=>
   refine⟨false,?_,⟨(fun z=>by cases z),fun z=>by rw[z.2.1] at hfb;cases hfb⟩⟩;rw[hfb] at ef;rw[AT];unfold pF;simp only[rSeq_at,rIf_at,rRet_at,pOr_at,pNot_at,fT_at,fVar_at,fC_at,fCall_at,aCons_at,aNil_at,zz0,zz1,jn,zz2,zz3,ev,eg,ef,truT_bl,aJ7,aJ6,aJ4,if_false,if_true,outT_rt]
  | true=>
   rw[hfb] at ef;have C:=yC W.one W.ts G1;have es:=QR W.six W.ws W.ts C;have oe:=KJ sh (sbL n w st);obtain⟨b,eb,hb⟩:=PB W.six W.tl W.tz W.tb W.ss W.ts;refine⟨decide (sh=sbL n w st)&&b,?_,?_⟩
   ·generalize (sbL n w st).map tF=l1 at *
    generalize decide (sh=sbL n w st)=b1 at *;generalize sh.map tF=l2 at *;rw[AT];unfold pF;simp only[rSeq_at,rIf_at,rNext_at,rRet_at,pOr_at,pNot_at,fT_at,f1_at,f2_at,vAnd_at,fVar_at,fC_at,fCall_at,aCons_at,aNil_at,zz0,zz1,jn,zz2,zz3,ev,eg,ef,truT_bl,aJ7,aJ4,if_false,wf,es,oe,isB_bl,eb];cases b1<;>cases b<;>rfl
   ·rw[aJ1,decide_eq_true_eq,hb]
    exact⟨fun z=>⟨G1,hfb,z.1,z.2.1,z.2.2⟩,fun z=>⟨z.2.2.1,z.2.2.2.1,z.2.2.2.2⟩⟩
theorem OW {n:Nat}{t w:List Int}{sh:List Fc}{st:List Sp2}(W:Cw n t w sh st):∃ b,jE [.lst (tI t),.lst (tI w),.lst (sh.map tF),.lst (tP tpS st)]=some (.bl b)/\(b=true ↔ kF n t w sh st):=by
 have hp:0<2^n:=aLa (by decide);have Sr:=W.ss.shr W.six;have et:=W.ss.tree;obtain⟨b0,e0,h0⟩:=QB W.six W.tl W.tb Sr;rw[<- et] at e0;obtain⟨g,eg,hg⟩:=QF W.ts (2^n-1);have el:((2^n:Nat):Int)-1=((2^n-1:Nat):Int):=by lia
 have hc2:(2:Nat)<=cap:=by decide
 cases hb0:b0 with
 | false=>
  refine⟨false,?_,⟨(fun z=>by cases z),fun z=>by have:=h0.mpr z.2.2.2.1;rw[hb0] at this;cases this⟩⟩;rw[hb0] at e0;rw[xI];unfold kZ;simp only[rSeq_at,rIf_at,rRet_at,pOr_at,pNot_at,fT_at,fVar_at,fC_at,fCall_at,aCons_at,aNil_at,zz0,zz1,jn,zz2,zz3,e0,truT_bl,aJ6,if_true,outT_rt]
 | true=>
  rw[hb0] at e0;have B1:=h0.mp hb0;cases hgb:g with
  | false=>
   refine⟨false,?_,⟨(fun z=>by cases z),fun z=>by have:=hg.mpr ⟨z.1,z.2.1⟩;rw[hgb] at this;cases this⟩⟩;rw[hgb] at eg;rw[xI];unfold kZ;simp only[rSeq_at,rIf_at,rRet_at,pOr_at,pNot_at,fT_at,f2_at,fVar_at,fC_at,fCall_at,aCons_at,aNil_at,zz0,zz1,jn,zz2,zz3,e0,truT_bl,aJ7,aJ6,aJ4,if_false,oLen_lst,tI_length,W.tl,oSub_int,el,eg,if_true,outT_rt]
  | true=>
   rw[hgb] at eg;obtain⟨G1,G2⟩:=hg.mp hgb;have C:=yC W.one W.ts G1;have fa:=rJ W.six W.ws W.ts C;have oe:=KJ sh (sbL n w st);have hlp:(tP tpS st).length=st.length:=by unfold tP;rw[aK5]
   have key:=xV (j:=4) (body:=vF) (ts:=tP tpS st) (fun i ρ=>∃ x4,ρ=[some (.lst (tI t)),some (.lst (tI w)),some (.lst (sh.map tF)),some (.lst (tP tpS st)),x4]) (fun i=>decide (gv (rP sh) (gAt st i)=dP sh*t.getD (gAt st i) 0)) (fun i hi ρ hρ=>by
    obtain⟨x4,rfl⟩:=hρ;have hi':i<st.length:=by rw[hlp] at hi;exact hi
    obtain⟨ei,gi,_⟩:=W.ts.at hi';have et2:(tP tpS st)[i]=.tup [.int (gAt st i:Int),tF (yAt st i)]:=by
     have:(tP tpS st)[i]?=some (.tup [.int (gAt st i:Int),tF (yAt st i)]):=by
      unfold tP;rw[aJx,aIq hi',ei]
      rfl
     exact (aIt.mp this).2
    rw[et2];have j0:oIx (.tup [.int (gAt st i:Int),tF (yAt st i)]) (.int 0)=some (.int (gAt st i:Int)):=rfl;have fg:=AO W.six Sr (gAt st i);rw[<- et] at fg;have a1:atI (tI t) (gAt st i:Int)=some (.int (t.getD (gAt st i) 0)):=dG (by rw[W.tl];exact gi);have on:=aAa (A:=gv (rP sh) (gAt st i)) (D:=dP sh) (t:=t.getD (gAt st i) 0) Sr.pos;refine⟨fun hc=>?_,fun hc=>?_⟩
    ·rw[hc] at on
     refine⟨_,?_,some (.tup [.int (gAt st i:Int),tF (yAt st i)]),rfl⟩;unfold vF;simp only[rIf_at,rNext_at,fB_at,f1_at,f2_at,fVar_at,fC_at,fCall_at,fTup_at,aCons_at,aNil_at,List.set,zz0,zz1,jn,zz2,zz3,j0,fg,oIx_lst,a1,gScal_int,aK3,aK6,aLe,Nat.reduceAdd,hc2,if_true,on,isB_bl,aJ7,aJ4,if_false]
    ·rw[hc] at on
     unfold vF;simp only[rIf_at,rRet_at,fB_at,f1_at,f2_at,fVar_at,fC_at,fCall_at,fTup_at,aCons_at,aNil_at,List.set,zz0,zz1,jn,zz2,zz3,j0,fg,oIx_lst,a1,gScal_int,aK3,aK6,aLe,Nat.reduceAdd,hc2,if_true,on,isB_bl,aJ6]) (tP tpS st).length 0 (by simp) (aLf _) [some (.lst (tI t)),some (.lst (tI w)),some (.lst (sh.map tF)),some (.lst (tP tpS st)),none] ⟨none,rfl⟩
   rw[List.drop_zero,hlp] at key;have ats:(∀ i,i<st.length->gv (rP sh) (gAt st i)=dP sh*t.getD (gAt st i) 0) ↔ ∀ s∈st,gv (rP sh) s.1=dP sh*t.getD s.1 0:=by
    constructor
    ·intro z s hs
     obtain⟨i,hi,e⟩:=List.mem_iff_getElem.mp hs;have:=z i hi;rw[show gAt st i=s.1 by rw[<- e,(W.ts.at hi).1]] at this;exact this
    ·intro z i hi
     have:=z st[i] (aK1 hi);rw[(W.ts.at hi).1] at this;exact this
   rcases key with ⟨ρ',e,⟨x4,rfl⟩,hall⟩ | ⟨e,m,hm,hc⟩
   ·have hall':=ats.mp fun i hi=>of_decide_eq_true (hall i (aLf _) hi)
    refine⟨decide (sh=sbL n w st),?_,?_⟩
    ·generalize (sbL n w st).map tF=l1 at *
     generalize decide (sh=sbL n w st)=b1 at *;generalize sh.map tF=l2 at *;rw[xI];unfold kZ;simp only[rSeq_at,rIf_at,rNext_at,rFor_at,rRet_at,pOr_at,pNot_at,fT_at,fFL_at,f2_at,fVar_at,fC_at,fCall_at,aCons_at,aNil_at,zz0,zz1,jn,zz2,zz3,e0,truT_bl,aJ7,aJ4,if_false,oLen_lst,tI_length,W.tl,oSub_int,el,eg,kQ,e,fa,oe,outT_rt]
    ·rw[decide_eq_true_eq]
     exact⟨fun z=>⟨G1,G2,z,B1,hall'⟩,fun z=>z.2.2.1⟩
   ·refine⟨false,?_,⟨(fun z=>by cases z),fun z=>absurd (ats.mpr z.2.2.2.2 m hm) (of_decide_eq_false hc)⟩⟩
    generalize sh.map tF=l2 at *;rw[xI];unfold kZ;simp only[rSeq_at,rIf_at,rNext_at,rFor_at,pOr_at,pNot_at,fT_at,fFL_at,f2_at,fVar_at,fC_at,fCall_at,aCons_at,aNil_at,zz0,zz1,jn,zz2,zz3,e0,truT_bl,aJ7,aJ4,if_false,oLen_lst,tI_length,W.tl,oSub_int,el,eg,kQ,e,outT_rt]
theorem aG7 {n:Nat}{t w:List Int}{sh:List Fc}{st:List Sp2}(W:Cw n t w sh st):∃ b,jG [.lst (tI t),.lst (tI w),.lst (sh.map tF),.lst (tP tpS st)]=some (.bl b)/\jE [.lst (tI t),.lst (tI w),.lst (sh.map tF),.lst (tP tpS st)]=some (.bl b)/\(b=true ↔ kF n t w sh st):=by
 obtain⟨b,e,h⟩:=QV W;obtain⟨b',e',h'⟩:=OW W;have:b'=b:=by
  rw[aJ3,h,h']
 rw[this] at e';exact⟨b,e,e',h⟩
theorem EY (ns:List Int) (hn:ns.length<=63) {n:Nat}(h1:1<=n) (h6:n<=6):∃ t,fV [.lst (tI ns),.int (n:Int)]=some (.lst (tI t))/\Fal n (10^200) t:=by
 have f2':aT [.lst (tI ns),.int 2]=some (.int (aP ns 2)):=cU ns (k:=2) (by decide);have d7:∀ i:Int,aY (.int i) (.int 7)=some (.int (i / 7)):=fun i=>cP (by decide) (by decide);have m2:∀ i:Int,aS (.int i) (.int 2)=some (.int (i%2)):=fun i=>bU (by decide)
 by_cases hc:aP ns 2 / 7%2=0
 ·obtain⟨t,et,hf⟩:=QK ns hn h1 h6
  refine⟨t,?_,hf.le (by decide)⟩;rw[ET];unfold sR;simp only[rSeq_at,rIf_at,rRet_at,fB_at,f2_at,fVar_at,fC_at,fCall_at,aCons_at,aNil_at,zz0,zz1,jn,zz2,zz3,f2',d7,m2,hc,oEq_int,beq_self_eq_true,isB_bl,if_true,et,outT_rt]
 ·have hc':(aP ns 2 / 7%2 == 0)=false:=by simpa using hc
  obtain⟨t,et,hf⟩:=QX ns hn h6;refine⟨t,?_,hf.le (by decide)⟩;rw[ET];unfold sR;simp only[rSeq_at,rIf_at,rNext_at,rRet_at,fB_at,f2_at,fVar_at,fC_at,fCall_at,aCons_at,aNil_at,zz0,zz1,jn,zz2,zz3,f2',d7,m2,hc',oEq_int,isB_bl,aJ4,if_false,et,outT_rt]
theorem OR (ns:List Int) (hn:ns.length<=63) {n:Nat}(h1:1<=n) (h6:n<=6):∃ t,jV [.lst (tI ns),.int (n:Int)]=some (.lst (tI t))/\t.length=2^n/\t.getD 0 0=0/\Bd (10^200) t:=by
 have h64:=eX h6;have hs2:2<=2^n:=aKw (by decide:2<=2^1) (aL8 (by decide) h1);have f3':aT [.lst (tI ns),.int 3]=some (.int (aP ns 3)):=cU ns (k:=3) (by decide);have f4':aT [.lst (tI ns),.int 4]=some (.int (aP ns 4)):=cU ns (k:=4) (by decide);have d5:∀ i:Int,aY (.int i) (.int 5)=some (.int (i / 5)):=fun i=>cP (by decide) (by decide);have d3:∀ i:Int,aY (.int i) (.int 3)=some (.int (i / 3)):=fun i=>cP (by decide) (by decide);have m2:∀ i:Int,aS (.int i) (.int 2)=some (.int (i%2)):=fun i=>bU (by decide);have m3:∀ i:Int,aS (.int i) (.int 3)=some (.int (i%3)):=fun i=>bU (by decide);obtain⟨t0,et,hf0⟩:=EY ns hn h1 h6
 by_cases hc:aP ns 3 / 5%2=0
 ·refine⟨t0,?_,hf0.len,hf0.zero,hf0.bd⟩
  rw[ER];unfold sN;simp only[rSeq_at,rIf_at,rRet_at,fB_at,f2_at,fVar_at,fC_at,fCall_at,aCons_at,aNil_at,zz0,zz1,jn,zz2,zz3,f3',d5,m2,hc,oEq_int,beq_self_eq_true,isB_bl,if_true,et,outT_rt]
 ·have hc':(aP ns 3 / 5%2 == 0)=false:=by simpa using hc
  obtain⟨W,hW⟩:∃ W:Int,W=10^60:=⟨_,rfl⟩;have p60:eF (.int 10) (.int 60)=some (.int W):=by rw[hW];exact uS 10 60 (by decide +kernel)
  obtain⟨far,efar,hfar⟩:=NO (a:=3) (b:=1000) (c:=W) (k:=aP ns 4 / 3%3) (aJc _ (by decide)) (aJb _ (by decide));have hf1:0<far:=by rcases hfar with rfl | rfl | rfl;decide;decide;rw[hW];decide
  have hf2:far<=W:=by rcases hfar with rfl | rfl | rfl;rw[hW];decide;rw[hW];decide;exact aJe _
  have k2:bD (.int 2) (.int far)=some (.int (2*far)):=hX (by decide);have sh:=kW (b:=n) (by lia);have e3:((2^n:Nat):Int)-1=((2^n-1:Nat):Int):=by lia
  obtain⟨ps,ep,q1,q2⟩:=AQ ns hn (many:=2^n-1) (by lia) (by lia) (far:=2*far+1) (by lia);have e1:bN bE zE [none,some (.int far)] (tI ps)=some (tI (ps.map fun x=>x-far)):=by
   refine tT _ fun x hx=>?_;unfold zE;simp only[f2_at,fVar_at,List.set,zz0,zz1,jn,zz2,oSub_int]
  have hcp:(ps.map fun x=>x-far).length<=cap:=by rw[aK5,q1];unfold cap;lia
  have cat:gF (.lst (tI [0])) (.lst (tI (ps.map fun x=>x-far)))=some (.lst (tI (0::ps.map fun x=>x-far))):=by
   rw[CY (by rw[tI_length,tI_length,aK5,q1];simp;unfold cap;lia)];rfl
  have c3:(3:Nat)<=cap:=by decide
  refine⟨0::ps.map fun x=>x-far,?_,by simp[q1];lia,rfl,fun x hx=>?_⟩
  ·rw[ER]
   unfold sN;simp only[rSeq_at,rSet_at,rIf_at,rNext_at,rRet_at,fB_at,fLst_at,f1_at,f2_at,fVar_at,fC_at,fCall_at,aCons_at,aNil_at,fComp_at,fFL_at,List.set,zz0,zz1,jn,zz2,zz3,f3',d5,m2,hc',oEq_int,isB_bl,aJ4,if_false,p60,aK3,aK6,aLe,Nat.reduceAdd,c3,if_true,f4',d3,m3,oIx_lst,efar,gScal_int,sh,oSub_int,e3,k2,oAdd_int,ep,hE,bR,aKc,aKe,aLh,e1,tI_length,hcp,cat,outT_rt]
  ·rcases aJ0.mp hx with rfl | hx
   ·decide
   ·obtain⟨y,hy,rfl⟩:=aKj.mp hx
    have:=q2 y hy;refine aKw (m:=10^61) ?_ (by decide);rw[hW] at hf2;lia
theorem MQ {t:List Int}{j:Nat}(hj:j<t.length) (v:Int) (i:Nat):(t.set j v).getD i 0=if i=j then v else t.getD i 0:=by
 by_cases h:i=j
 ·subst h
  rw[aIp,aK0 hj,if_pos rfl];rfl
 ·rw[aIp,aIy (Ne.symm h),<- List.getD_eq_getElem?_getD,if_neg h]
theorem NJ {b : Nat} {t : List Int} (hb : ∀ x y, (t.getD x 0 - t.getD y 0).natAbs <= b) : ∀ (o : List Nat) (a : Nat) (s : List Int), Bd b s -> Bd b (tM t o a s)
 | [], _, s, h => h
 | h :: r, a, s, hs => NJ hb r (a ||| 2 ^ h) (s.set h (t.getD (a ||| 2 ^ h) 0 - t.getD a 0)) (Bd.of fun i hi => by
   rw [aK9] at hi
   by_cases z : i = h
   ·rw [z] at hi ⊢
    rw [MQ hi, if_pos rfl]; exact hb _ _
   ·by_cases zz : h < s.length
    ·rw [MQ zz, if_neg z]; exact hs.get i
    ·rw [List.set_eq_of_length_le (by lia)]; exact hs.get i)
theorem aG6 {n:Nat}{t:List Int}(hb:Bd (10^200) t) (o:List Nat):Bd (2*10^200) (fR n t o):=by
 unfold fR;refine NJ (fun x y=>?_) o 0 _ (fun x hx=>?_)
 ·have h1:=hb.get x
  have h2:=hb.get y;lia
 ·rw[List.eq_of_mem_replicate hx];exact aLf _
theorem EZ {n:Nat}(h6:n<=6) {r:List Int}(hl:r.length=n):gJ [.lst (tI r)]=some (.lst (tI ((List.range (2^n)).map fun g=>gv r g))):=by
 have h64:=eX h6;have sh:=kW (b:=n) (by lia);have hr:=eN (2^n) (by lia);have e:bN bE zG [none,some (.lst (tI r))] (G.rangeT 0 (2^n))=some (tI ((List.range (2^n)).map fun g=>gv r g)):=rQ _ fun g hg=>by
  have fg:=FB (row:=r) (by lia) g;unfold zG;simp only[f1_at,fVar_at,fCall_at,aCons_at,aNil_at,List.set,zz0,zz1,jn,zz2,fg,gScal_int]
 have hc:2^n<=cap:=by unfold cap;lia
 rw[NZ];unfold vJ;simp only[rRet_at,f2_at,fVar_at,fC_at,fCall_at,fComp_at,fRange_at,aCons_at,aNil_at,zz0,jn,zz2,zz3,oLen_lst,tI_length,hl,sh,hr,bR,aKc,aKe,aLh,e,aK5,aK7,hc,if_true,outT_rt]
theorem YA {r:List Int}{b:Nat}(hb:Bd b r) (g:Nat):(gv r g).natAbs<=r.length*b:=by
 have k1:=CL (x:=r) (y:=List.replicate r.length (b:Int)) (by simp) (fun k hk=>by
  have:=hb.get k;rw[aIp (l:=List.replicate _ _),aJz,if_pos hk];show _<=(b:Int);lia) g
 have k2:=CL (x:=List.replicate r.length (-(b:Int))) (y:=r) (by simp) (fun k hk=>by
  rw[aK8] at hk;have:=hb.get k;rw[aIp (l:=List.replicate _ _),aJz,if_pos hk];show -(b:Int)<=_;lia) g
 have k3:=JJ (row:=List.replicate r.length (b:Int)) (m:=(b:Int)) (by lia) (fun x hx=>by rw[List.eq_of_mem_replicate hx];lia) g;have k4:gv (List.replicate r.length (-(b:Int))) g = -1*gv (List.replicate r.length (b:Int)) g:=sA (by simp) (fun j hj _=>by
  rw[aK8] at hj;rw[aIp,aIp,aJz,aJz,if_pos hj,if_pos hj];show -(b:Int) = -1*(b:Int);lia)
 rw[aK8] at k3;have k5:((r.length*b:Nat):Int)=(r.length:Int)*(b:Int):=Int.natCast_mul _ _;lia
structure Tb (n:Nat) (t:List Int):Prop where
 len:t.length=2^n
 zero:t.getD 0 0=0
 bd:Bd (10^200) t
theorem NN {n:Nat}(h6:n<=6) {r:List Int}(hl:r.length=n) (hb:Bd (10^100) r):Tb n ((List.range (2^n)).map fun g=>gv r g):=by
 have hp:0<2^n:=aLa (by decide);refine⟨by simp,?_,fun x hx=>?_⟩
 ·rw[aIp,aJx,List.getElem?_range hp]
  exact kM r
 ·obtain⟨g,_,rfl⟩:=aKj.mp hx
  have:=YA hb g;have h2:r.length*10^100<=6*10^100:=Nat.mul_le_mul_right _ (by lia);have h3:6*10^100<=10^200:=by decide
  lia
structure Rn (A B:Nat) (y:Fc):Prop where
 pos:0<y.2
 red:frI y.1 y.2=y
 ty:y.1.natAbs<2^A
 tz:y.2.natAbs<2^B
theorem Rn.mono {A B A' B':Nat}{y:Fc}(h:Rn A B y) (hA:A<=A') (hB:B<=B'):Rn A' B' y:=⟨h.pos,h.red,pw h.ty hA,pw h.tz hB⟩
theorem Rn.rf {A B:Nat}{y:Fc}(h:Rn A B y) (hA:A<=1000) (hB:B<=100):Rf y:=⟨h.pos,h.red,pw h.ty hA,pw h.tz hB⟩
theorem zD {X Y:Nat}{A D:Int}(h:0<D) (hA:A.natAbs<2^X) (hD:D.natAbs<2^Y):Rn X Y (frI A D):=by
 obtain⟨_,_,e1,e2,p,_,_⟩:=dX (t:=A) (b:=D) (by lia);refine⟨p,?_,aKy (IG h) hA,?_⟩
 ·refine jJ p h ?_
  generalize frD A D=d at *;generalize (frI A D).1=y at *;generalize (frI A D).2=z at *;rw[e1,e2,aJk,aJg]
 ·have:=IH (A:=A) h
  lia
structure Stg (n:Nat) (st:List Sp2):Prop where
 lt:∀ s∈st,s.1<2^n
 rn:∀ s∈st,Rn 800 40 s.2
 len:st.length<=69
theorem Stg.sts {n:Nat}{st:List Sp2}(S:Stg n st):Sts n st:=⟨S.lt,fun s hs=>(S.rn s hs).rf (by decide) (by decide),Nat.le_succ_of_le S.len⟩
def tX (x:List Int):List T:=x.map fun i=>tF (i,1)
def rat (x w:List Int) (h:Nat):Fc:=frI (x.getD h 0) (1*w.getD h 0)
theorem Wts.at {n:Nat}{w:List Int}(W:Wts n w) {h:Nat}(hh:h<n):1<=w.getD h 0/\w.getD h 0<=10^9+1:=W.bd _ (nR (by rw[W.len];exact hh))
theorem LR {n:Nat}{x w:List Int}(hx:Bd (2*10^200) x) (W:Wts n w) {h:Nat}(hh:h<n):Rn 800 40 (rat x w h):=by
 have h1:=W.at hh;have h2:=hx.get h;unfold rat;refine zD (by lia) ?_ (by lia);exact aKy h2 (by decide +kernel)
theorem LQ {n:Nat}{x w:List Int}(hx:Bd (2*10^200) x) (W:Wts n w) {h:Nat}(hh:h<n):Rf (rat x w h):=(LR hx W hh).rf (by decide) (by decide)
theorem aFw {x:List Int}{h:Nat}(hh:h<x.length):atI (tX x) (h:Int)=some (tF (x.getD h 0,1)):=jH (by
 unfold tX;rw[aJx,aIq hh,aIp,aIq hh];rfl)
theorem AS {n:Nat}{x w:List Int}(hl:x.length=n) (W:Wts n w) {h:Nat}(hh:h<n):fY [.lst (tX x),.lst (tI w),.int (h:Int)]=some (tF (rat x w h)):=by
 have h1:=W.at hh;have a1:=aFw (x:=x) (h:=h) (by lia);have a2:atI (tI w) (h:Int)=some (.int (w.getD h 0)):=dG (by rw[W.len];exact hh);have mu:bD (.int 1) (.int (w.getD h 0))=some (.int (1*w.getD h 0)):=hX (by decide);have ft:=rK (t:=x.getD h 0) (b:=1*w.getD h 0) (by lia) (pw (L:=100) (by lia) (by decide));rw[xF] at ft;have j0:oIx (tF (x.getD h 0,1)) (.int 0)=some (.int (x.getD h 0)):=rfl;have j1:oIx (tF (x.getD h 0,1)) (.int 1)=some (.int 1):=rfl;rw[OK];unfold vV rat;simp only[rRet_at,f1_at,f2_at,fVar_at,fC_at,fCall_at,aCons_at,aNil_at,zz0,zz1,jn,zz2,zz3,oIx_lst,a1,a2,j0,j1,mu,ft,dC,outT_rt]
theorem NW {p:Rho->Option Bool}{b:Rho->Option Out}(st:Nat->Rho) (N:Nat) (hp:∀ k,k<=N->∃ c,p (st k)=some c/\(c=true->k<N)) (hb:∀ k,k<N->b (st k)=some (.nx (st (k+1)))):∀ (m k:Nat),k<=N->N-k<m->∃ k',k'<=N/\cS p b m (st k)=some (.nx (st k'))
 | 0,k,_,h=>absurd h (Nat.not_lt_zero _)
 | m+1,k,hk,h=>by
  obtain⟨c,e,hc⟩:=hp k hk;cases c with
  | false=>exact⟨k,hk,by simp[cS,e]⟩
  | true=>
   have hk':=hc rfl;obtain⟨k',h1,h2⟩:=NW st N hp hb m (k+1) hk' (by lia);exact⟨k',h1,by simp[cS,e,hb k hk',h2]⟩
theorem QP {n:Nat}(h6:n<=6) {x w:List Int}(hl:x.length=n) (hx:Bd (2*10^200) x) (W:Wts n w):∃ o:List Nat,mT [.lst (tX x),.lst (tI w)]=some (.lst (tI (tN' o)))/\o.length=n/\∀ h∈o,h<n:=by
 obtain⟨ρ',hloop,o,x3,x4,x5,rfl,ho,hlt⟩:=kI (j:=3) (n:=n) (body:=zO) (fun i ρ=>∃ (o:List Nat) (x3 x4 x5:Option T),ρ=[some (.lst (tX x)),some (.lst (tI w)),some (.lst (tI (tN' o))),x3,x4,x5]/\o.length=i/\∀ h∈o,h<n) (fun i hi ρ hρ=>by
   obtain⟨o,x3,x4,x5,rfl,ho,hlt⟩:=hρ;have fr:=AS hl W hi;obtain⟨k',hk',hw⟩:=NW (p:=sU) (b:=vX) (fun k=>[some (.lst (tX x)),some (.lst (tI w)),some (.lst (tI (tN' o))),some (.int (i:Int)),some (tF (rat x w i)),some (.int (k:Int))]) i (fun k hk=>by
     by_cases hki:k<i
     ·have hko:k<o.length:=by lia
      have hm:=hlt _ (aK1 hko);have a1:atI (tI (tN' o)) (k:Int)=some (.int (o[k]:Int)):=jH (by
       unfold tI tN';rw[aKd,aJx,aIq hko];rfl)
      have fr2:=AS hl W hm;have ls:=AR (LQ hx W hi) (LQ hx W hm);have dl:decide ((k:Int)<(o.length:Int))=true:=decide_eq_true (by lia);refine⟨!lsB (rat x w i) (rat x w o[k]),?_,fun _=>hki⟩;unfold sU;simp only[pAnd_at,pNot_at,fT_at,fB_at,f2_at,fVar_at,fCall_at,aCons_at,aNil_at,zz0,zz1,jn,zz2,zz3,oLen_lst,tI_length,tL,oLt_int,dl,isB_bl,if_true,oIx_lst,a1,fr2,ls,truT_bl]
     ·have dl:decide ((k:Int)<(o.length:Int))=false:=decide_eq_false (by lia)
      refine⟨false,?_,fun z=>by cases z⟩;unfold sU;simp only[pAnd_at,fB_at,f2_at,fVar_at,fCall_at,aCons_at,aNil_at,zz0,zz1,jn,zz2,zz3,oLen_lst,tI_length,tL,oLt_int,dl,isB_bl,aJ4,if_false])
    (fun k hk=>by
     have e:((k+1:Nat):Int)=(k:Int)+1:=by lia
     unfold vX;simp only[rSet_at,f2_at,fVar_at,fC_at,List.set,zz0,zz1,jn,zz2,zz3,oAdd_int,e]) 100000 0 (aLf _) (by lia)
   have hw:gI sU vX [some (.lst (tX x)),some (.lst (tI w)),some (.lst (tI (tN' o))),some (.int (i:Int)),some (tF (rat x w i)),some (.int 0)]=some (.nx [some (.lst (tX x)),some (.lst (tI w)),some (.lst (tI (tN' o))),some (.int (i:Int)),some (tF (rat x w i)),some (.int (k':Int))]):=hw;have hcap:(tI (tN' o)).length<cap/\(0:Int)<=(k':Int)/\(k':Int)<2^63:=⟨by rw[tI_length,tL,ho];unfold cap;lia,by lia,by lia⟩;have hins:bZ (tI (tN' o)) (k':Int) (.int (i:Int))=tI (tN' (bZ o (k':Int) i)):=by
    unfold tI tN';rw[aKd,aKd];exact CN (fun (n:Nat)=>T.int (n:Int)) o (k':Int) i
   have hpm:=CO o (k':Int) i;refine⟨[some (.lst (tX x)),some (.lst (tI w)),some (.lst (tI (tN' (bZ o (k':Int) i)))),some (.int (i:Int)),some (tF (rat x w i)),some (.int (k':Int))],?_,_,_,_,_,rfl,?_,fun h hh=>?_⟩
   ·unfold zO
    simp only[rSeq_at,rSet_at,rIns_at,f1_at,fCall_at,aCons_at,aNil_at,fVar_at,fC_at,List.set,zz0,zz1,jn,zz2,zz3,fr,dC,hw,gScal_int,hins];rw[if_pos hcap]
   ·rw[hpm.length_eq,aK3,ho]
   ·rcases aJ0.mp (hpm.mem_iff.mp hh) with rfl | z
    ·exact hi
    ·exact hlt h z) [some (.lst (tX x)),some (.lst (tI w)),some (.lst (tI (tN' []))),none,none,none] ⟨[],none,none,none,rfl,rfl,fun h hh=>by cases hh⟩
 have hr:=eN n (by lia);have hn:tI (tN' [])=[]:=rfl;rw[hn] at hloop;have z0:(0:Nat)<=cap:=aLf _;refine⟨o,?_,ho,hlt⟩;rw[OL];unfold vW;simp only[rSeq_at,rSetM_at,rFor_at,rRet_at,fMut_at,fVar_at,fCall_at,fLst_at,fRange_at,aCons_at,aNil_at,List.set,zz0,zz1,jn,zz2,zz3,aK6,z0,if_true,okM_lst,oLen_lst,tI_length,W.len,hr,hloop,flat_tI',outT_rt]
theorem aA4 (a b:Fc):oEq (tF a) (tF b)=some (.bl (decide (a=b))):=by
 have h1:∀ y:Fc,dep (tF y)<=60:=fun y=>by simp[tF,dep,depL]
 unfold oEq;rw[if_pos (by have:=h1 a;have:=h1 b;lia),BO]
theorem EJ (a b:List Sp2):tP tpS (a++b)=tP tpS a++tP tpS b:=by unfold tP;rw[List.map_append]
theorem NF (a:List Sp2) (s:Sp2):atI (tP tpS (a++[s])) (-1)=some (.tup (tpS s)):=by
 have hl:(tP tpS (a++[s])).length=a.length+1:=by unfold tP;simp
 unfold atI ixN;rw[hl,if_neg (by decide),if_pos (by lia)];show (tP tpS (a++[s]))[((-1:Int)+((a.length+1:Nat):Int)).toNat]?=_;rw[show ((-1:Int)+((a.length+1:Nat):Int)).toNat=a.length by lia];unfold tP;rw[aJx,List.getElem?_append_right (aKv _),Nat.sub_self]
 rfl
theorem NG (a:List Sp2) (s u:Sp2):ixN (tP tpS (a++[s])).length (-1)=some a.length/\(tP tpS (a++[s])).set a.length (.tup (tpS u))=tP tpS (a++[u]):=by
 have hl:(tP tpS (a++[s])).length=a.length+1:=by unfold tP;simp
 constructor
 ·rw[hl];unfold ixN
  rw[if_neg (by decide),if_pos (by lia)]
  congr 1;lia
 ·unfold tP
  rw[List.map_append,List.map_append,List.set_append_right _ _ (by simp)];simp
theorem FF {n:Nat}(h1:1<=n) (h6:n<=6) {x w:List Int}(hl:x.length=n) (hx:Bd (2*10^200) x) (W:Wts n w) (c:Bool):∃ st:List Sp2,jY [.lst (tX x),.lst (tI w),.bl c]=some (.lst (tP tpS st))/\Stg n st/\st≠[]:=by
 obtain⟨o,eo,ho,hlt⟩:=QP h6 hl hx W;have neg1:dJ (.int 1)=some (.int (-1)):=rfl;have hc2:(2:Nat)<=cap:=by decide
 have ci:DA [.bl c]=some (.int (if c then 1 else 0)):=by cases c<;>rfl
 have hlo:(tI (tN' o)).length=n:=by rw[tI_length,tL,ho]
 obtain⟨ρ',hloop,st,g,x5,x6,rfl,hs1,hs2,hs3,hg,hs4⟩:=xW (j:=5) (body:=pE) (fun i ρ=>∃ (st:List Sp2) (g:Nat) (x5 x6:Option T),ρ=[some (.lst (tX x)),some (.lst (tI w)),some (.bl c),some (.lst (tP tpS st)),some (.int (g:Int)),x5,x6]/\(∀ s∈st,s.1<2^n)/\(∀ s∈st,Rn 800 40 s.2)/\st.length<=i/\g<2^n/\(0<i->st≠[])) (tI (tN' o)) (fun i hi ρ hρ=>by
   obtain⟨st,g,x5,x6,rfl,hs1,hs2,hs3,hg,hs4⟩:=hρ;have hi':i<o.length:=by rw[hlo] at hi;lia
   have hm:=hlt _ (aK1 hi');have et:(tI (tN' o))[i]=.int (o[i]:Int):=by simp[tI,tN']
   rw[et];generalize o[i]=h at hm;have fr:=AS hl W hm;have sh:=kW (b:=h) (by lia);have hp:2^h<2^n:=aL9 (by decide) hm;have R:=LR hx W hm;have hgn:g|||2^h<2^n:=aL6 hg hp;have ap:∀ st':List Sp2,(st=st')->(tru:mJ (.lst (tP tpS st))=some (!st.isEmpty))->True:=fun _ _ _=>trivial;have mu:bD (.int (g:Int)) (.int (if c then 1 else 0))=some (.int (((if c then g else 0:Nat)):Int)):=by
    rw[nZ (by cases c<;>decide)]
    cases c<;>simp
   have hq:(if c then g else 0)|||2^h<2^n:=aL6 (by cases c<;>simp<;>lia) hp
   have hcap:(tP tpS st).length<cap:=by unfold tP;rw[aK5];unfold cap;lia
   rcases List.eq_nil_or_concat st with rfl | ⟨a,s,rfl⟩
   ·have tr:mJ (.lst (tP tpS []))=some false:=rfl
    refine⟨[some (.lst (tX x)),some (.lst (tI w)),some (.bl c),some (.lst (tP tpS ([]++[((if c then g else 0)|||2^h,rat x w h)]))),some (.int ((g|||2^h:Nat):Int)),some (.int (h:Int)),some (tF (rat x w h))],.inl ?_,[]++[((if c then g else 0)|||2^h,rat x w h)],_,_,_,rfl,?_,?_,by simp,hgn,by simp⟩
    ·rw[EJ]
     unfold pE;simp only[rSeq_at,rSet_at,rIf_at,rApp_at,pAnd_at,fT_at,f1_at,f2_at,fVar_at,fC_at,fCall_at,fTup_at,aCons_at,aNil_at,List.set,zz0,zz1,jn,zz2,zz3,fr,dC,tr,aJ4,if_false,ci,mu,sh,oOr_int,rM,aK3,aK6,aLe,Nat.reduceAdd,hc2,if_true,hcap]
     rfl
    ·simp;exact hq
    ·simp;exact R
   ·rw[List.concat_eq_append] at *
    have tr:mJ (.lst (tP tpS (a++[s])))=some true:=by rw[EJ];cases tP tpS a<;>rfl
    have la:=NF a s;obtain⟨ix,se⟩:=NG a s (s.1|||2^h,rat x w h);have j0:oIx (.tup (tpS s)) (.int 0)=some (.int (s.1:Int)):=rfl;have j1:oIx (.tup (tpS s)) (.int 1)=some (tF s.2):=rfl;have oe:=aA4 s.2 (rat x w h);have hsl:s.1|||2^h<2^n:=aL6 (hs1 s (by simp)) hp;have se:(tP tpS (a++[s])).set a.length (.tup [.int ((s.1|||2^h:Nat):Int),tF (rat x w h)])=tP tpS (a++[(s.1|||2^h,rat x w h)]):=se;rw[aK2,List.length_singleton] at hs3;cases hd:decide (s.2=rat x w h) with
    | true=>
     rw[hd] at oe;refine⟨[some (.lst (tX x)),some (.lst (tI w)),some (.bl c),some (.lst (tP tpS (a++[(s.1|||2^h,rat x w h)]))),some (.int ((g|||2^h:Nat):Int)),some (.int (h:Int)),some (tF (rat x w h))],.inl ?_,a++[(s.1|||2^h,rat x w h)],_,_,_,rfl,fun u hu=>?_,fun u hu=>?_,by simp;lia,hgn,by simp⟩
     ·unfold pE
      simp only[rSeq_at,rSet_at,rIf_at,rPut_at,pAnd_at,fB_at,fT_at,f1_at,f2_at,fVar_at,fC_at,fCall_at,fTup_at,aCons_at,aNil_at,List.set,zz0,zz1,jn,zz2,zz3,fr,dC,tr,if_true,neg1,oIx_lst,la,j0,j1,oe,isB_bl,sh,oOr_int,rM,aK3,aK6,aLe,Nat.reduceAdd,hc2,ix,se]
     ·rcases aKf.mp hu with z | z
      ·exact hs1 u (aKg _ z)
      ·rw[aKm.mp z];exact hsl
     ·rcases aKf.mp hu with z | z
      ·exact hs2 u (aKg _ z)
      ·rw[aKm.mp z];exact R
    | false=>
     rw[hd] at oe;refine⟨[some (.lst (tX x)),some (.lst (tI w)),some (.bl c),some (.lst (tP tpS (a++[s]++[((if c then g else 0)|||2^h,rat x w h)]))),some (.int ((g|||2^h:Nat):Int)),some (.int (h:Int)),some (tF (rat x w h))],.inl ?_,a++[s]++[((if c then g else 0)|||2^h,rat x w h)],_,_,_,rfl,fun u hu=>?_,fun u hu=>?_,by simp;lia,hgn,by simp⟩
     ·rw[EJ (a++[s])]
      unfold pE;simp only[rSeq_at,rSet_at,rIf_at,rApp_at,pAnd_at,fB_at,fT_at,f1_at,f2_at,fVar_at,fC_at,fCall_at,fTup_at,aCons_at,aNil_at,List.set,zz0,zz1,jn,zz2,zz3,fr,dC,tr,if_true,neg1,oIx_lst,la,j0,j1,oe,isB_bl,aJ4,if_false,ci,mu,sh,oOr_int,rM,aK3,aK6,aLe,Nat.reduceAdd,hc2,hcap]
      rfl
     ·rcases aKf.mp hu with z | z
      ·exact hs1 u z
      ·rw[aKm.mp z];exact hq
     ·rcases aKf.mp hu with z | z
      ·exact hs2 u z
      ·rw[aKm.mp z];exact R)
  [some (.lst (tX x)),some (.lst (tI w)),some (.bl c),some (.lst (tP tpS [])),some (.int ((0:Nat):Int)),none,none] ⟨[],0,none,none,rfl,(fun s hs=>by cases hs),(fun s hs=>by cases hs),aKv _,aLa (by decide),fun z=>absurd z (aKx _)⟩
 rw[hlo] at hs3 hs4;have hne:=hs4 (by lia);have hloop:cF 5 pE (tI (tN' o)) [some (.lst (tX x)),some (.lst (tI w)),some (.bl c),some (.lst []),some (.int 0),none,none]=some (.nx [some (.lst (tX x)),some (.lst (tI w)),some (.bl c),some (.lst (tP tpS st)),some (.int (g:Int)),x5,x6]):=hloop;have z0:(0:Nat)<=cap:=aLf _;rcases List.eq_nil_or_concat st with rfl | ⟨a,s,rfl⟩
 ·exact absurd rfl hne
 ·rw[List.concat_eq_append] at *
  have la:=NF a s;obtain⟨ix,se⟩:=NG a s (g,s.2);have j1:oIx (.tup (tpS s)) (.int 1)=some (tF s.2):=rfl;have se:(tP tpS (a++[s])).set a.length (.tup [.int (g:Int),tF s.2])=tP tpS (a++[(g,s.2)]):=se;have hfl:=tV (a++[(g,s.2)]);refine⟨a++[(g,s.2)],?_,⟨fun u hu=>?_,fun u hu=>?_,?_⟩,by simp⟩
  ·rw[OF]
   unfold vQ;simp only[rSeq_at,rSet_at,rSetM_at,rFor_at,rPut_at,rRet_at,fMut_at,fFL_at,f1_at,f2_at,fVar_at,fC_at,fCall_at,fLst_at,fTup_at,aCons_at,aNil_at,List.set,zz0,zz1,jn,zz2,zz3,aK6,z0,if_true,okM_lst,eo,hE,hloop,neg1,oIx_lst,la,j1,dC,gScal_int,aK3,aLe,Nat.reduceAdd,hc2,ix,se,hfl,outT_rt]
  ·rcases aKf.mp hu with z | z
   ·exact hs1 u (aKg _ z)
   ·rw[aKm.mp z];exact hg
  ·rcases aKf.mp hu with z | z
   ·exact hs2 u (aKg _ z)
   ·rw[aKm.mp z];exact hs2 s (by simp)
  ·rw[aK2,List.length_singleton] at hs3 ⊢
   lia
theorem aF8 {n:Nat}{t w:List Int}(F:Fst n t w) {a:Nat}(ha:a<2^n-1):∃ m,Stp n t w a m:=by
 have key:∀ k,k<=2^n->(∃ y,y<k/\Cnd n a y)->∃ m,m<k/\Cnd n a m/\(∀ y,y<k->Cnd n a y->cB t a m*gv w y<=cB t a y*gv w m)/\(∀ y,y<k->Cnd n a y->m<y->cB t a m*gv w y<cB t a y*gv w m):=by
  intro k
  induction k with
  | zero=>rintro _ ⟨y,hy,_⟩;lia
  | succ k ih=>
   rintro hk ⟨y0,hy0,hc0⟩
   by_cases ck:Cnd n a k
   ·by_cases ex:∃ y,y<k/\Cnd n a y
    ·obtain⟨m,m1,m2,m3,m4⟩:=ih (by lia) ex
     by_cases cmp:cB t a k*gv w m<=cB t a m*gv w k
     ·refine⟨k,by lia,ck,fun y hy cy=>?_,fun y hy cy hl=>by lia⟩
      by_cases e:y=k
      ·rw[e];exact aJe _
      ·exact xQ (F.pos m m2.ne m2.lt) (aJd (F.pos k ck.ne ck.lt)) (aJd (F.pos y cy.ne cy.lt)) cmp (m3 y (by lia) cy)
     ·have cmp':=Int.not_le.mp cmp
      refine⟨m,by lia,m2,fun y hy cy=>?_,fun y hy cy hl=>?_⟩
      ·by_cases e:y=k
       ·rw[e];exact aJd cmp'
       ·exact m3 y (by lia) cy
      ·by_cases e:y=k
       ·rw[e];exact cmp'
       ·exact m4 y (by lia) cy hl
    ·refine⟨k,by lia,ck,fun y hy cy=>?_,fun y hy cy hl=>by lia⟩
     by_cases e:y=k
     ·rw[e];exact aJe _
     ·exact absurd ⟨y,by lia,cy⟩ ex
   ·have ne:∀ y,Cnd n a y->y≠k:=fun y cy e=>ck (e ▸ cy)
    obtain⟨m,m1,m2,m3,m4⟩:=ih (by lia) ⟨y0,by have:=ne y0 hc0;lia,hc0⟩;exact⟨m,by lia,m2,fun y hy cy=>m3 y (by have:=ne y cy;lia) cy,fun y hy cy hl=>m4 y (by have:=ne y cy;lia) cy hl⟩
 have hcomp:Cnd n a (2^n-1-a):=⟨by lia,by lia,by
  apply aKr;intro i
  rw[aLb,show 2^n-1-a=2^n-(a+1) by lia,Nat.testBit_two_pow_sub_succ (by lia),aLg];cases a.testBit i<;>simp⟩
 obtain⟨m,_,m2,m3,m4⟩:=key (2^n) (aKv _) ⟨_,hcomp.lt,hcomp⟩;exact⟨m,aF7 F.fal.sub F.pos (by lia) m2 (fun y cy=>m3 y cy.lt cy) (fun y cy hl=>m4 y cy.lt cy hl)⟩
theorem HL {n:Nat}{t w:List Int}(F:Fst n t w):∃ L:List Nat,Chn n t w 0 L/\L.length<=64:=by
 have h64:=eX F.six;obtain⟨L,h1,h2⟩:=HK (n:=n) (t:=t) (w:=w) (fun a ha=>aF8 F ha) (2^n-1) 0 (aLa (by decide)) (by lia);exact⟨L,h1,by lia⟩
def stL (t w:List Int) (a:Nat) (L:List Nat):List Sp2:=(chP a L).map fun p=>(p.1|||p.2,frI (cB t p.1 p.2) (gv w p.2))
theorem MW (t w:List Int) (L:List Nat):gA t w 0 L=tP tpS (stL t w 0 L):=by
 rw[HJ];unfold tP stL;rw[aKd];rfl
theorem BE {n:Nat}{t w:List Int}:∀ (L:List Nat) (a:Nat),a<2^n->Chn n t w a L->∀ p∈chP a L,p.1<2^n/\Stp n t w p.1 p.2
 | [],_,_,_,p,hp=>by cases hp
 | m::L,a,ha,h,p,hp=>by
  rcases aJ0.mp hp with rfl | hp
  ·exact⟨ha,h.2.1⟩
  ·exact BE L (a|||m) (rG ha h.2.1.cnd).2 h.2.2 p hp
theorem MV {n:Nat}{t w:List Int}(F:Fst n t w) {L:List Nat}(hL:Chn n t w 0 L) (hl:L.length<=64):Stg n (stL t w 0 L):=by
 refine⟨fun s hs=>?_,fun s hs=>?_,by unfold stL;rw[aK5,HA];lia⟩
 ·obtain⟨p,hp,rfl⟩:=aKj.mp hs
  obtain⟨h1,h2⟩:=BE L 0 (aLa (by decide)) hL p hp;exact aL6 h1 h2.cnd.lt
 ·obtain⟨p,hp,rfl⟩:=aKj.mp hs
  obtain⟨h1,h2⟩:=BE L 0 (aLa (by decide)) hL p hp;have hw:=AM F.six F.wl F.wx h2.cnd.ne h2.cnd.lt;exact zD hw.1 (pw (F.cb _ _) (by decide)) (by lia)
def grB (whole:Nat):Nat->List Sp2->Prop
 | a,[]=>a=whole
 | a,s::r=>s.1≠a/\a&&&s.1=a/\grB whole s.1 r
def kX (a:Nat) (st:List Sp2) (i:Nat):Nat:=if i=0 then a else gAt st (i-1)
theorem IU {whole:Nat}:∀ (st:List Sp2) (a:Nat),grB whole a st->(∀ i,i<st.length->gAt st i≠kX a st i/\kX a st i&&&gAt st i=kX a st i)/\kX a st st.length=whole
 | [],a,h=>⟨fun i hi=>absurd hi (Nat.not_lt_zero _),h⟩
 | s::r,a,h=>by
  obtain⟨i1,i2⟩:=IU r s.1 h.2.2;have e:∀ i,kX a (s::r) (i+1)=kX s.1 r i:=fun i=>by
   unfold kX;rw[if_neg (by lia)];cases i with
   | zero=>rfl
   | succ i=>rw[if_neg (by lia)];rfl
  refine⟨fun i hi=>?_,?_⟩
  ·cases i with
   | zero=>exact⟨h.1,h.2.1⟩
   | succ i=>rw[e];exact i1 i (by simpa using hi)
  ·rw[aK3,e];exact i2
theorem CI {whole:Nat}{st:List Sp2}(h:grB whole 0 st):uE st whole:=by
 obtain⟨h1,h2⟩:=IU st 0 h;refine⟨fun i hi=>?_,h2⟩;obtain⟨x1,x2⟩:=h1 i hi;unfold cG;have e:prv st i=kX 0 st i:=rfl;rw[e,aJ1,beq_iff_eq];exact⟨by simpa using x1,x2⟩
theorem AJ {n:Nat}{t w:List Int}:∀ (L:List Nat) (a:Nat),a<2^n->Chn n t w a L->grB (2^n-1) a (stL t w a L)
 | [],a,_,h=>h
 | m::L,a,ha,h=>by
  have hu:=rG ha h.2.1.cnd;refine⟨aL4 hu.1,?_,AJ L (a|||m) hu.2 h.2.2⟩;show a&&&(a|||m)=a
  apply aKr;intro i
  simp only[aLb,aLc];cases a.testBit i<;>rfl
theorem MT {n:Nat}{t w:List Int}(F:Fst n t w):∀ (L:List Nat) (a:Nat),a<2^n->Chn n t w a L->(dF (stL t w a L)).all id=true
 | [],_,_,_=>rfl
 | [_],_,_,_=>rfl
 | m::m'::L,a,ha,h=>by
  have hu:=rG ha h.2.1.cnd;have ih:=MT F (m'::L) (a|||m) hu.2 h.2.2;have h1:=h.2.1;have h2:=h.2.2.2.1;have g:=aF6 F.fal.sub h1 h2;have l:lsB (frI (cB t a m) (gv w m)) (frI (cB t (a|||m) m') (gv w m'))=true:=by
   unfold lsB;exact decide_eq_true ((nO (F.pos m h1.cnd.ne h1.cnd.lt) (F.pos m' h2.cnd.ne h2.cnd.lt)).mpr g)
  show (lsB (frI (cB t a m) (gv w m)) (frI (cB t (a|||m) m') (gv w m'))::dF (stL t w (a|||m) (m'::L))).all id=true;rw[aJm,ih,l];rfl
theorem xA {n:Nat}{w:List Int}(W:Wts n w) {st:List Sp2}(S:Stg n st) (C:Cov n st):(sbL n w st).length=n/\∀ y∈sbL n w st,Rn 900 60 y:=by
 refine⟨by unfold sbL;simp,fun y hy=>?_⟩;obtain⟨h,hh,rfl⟩:=aKj.mp hy;have hh':=aIv.mp hh;obtain⟨s,hs,hb⟩:=C h hh';have hm:s∈st.filter fun s=>s.1.testBit h:=aKi.mpr ⟨hs,hb⟩;have R:Rn 800 40 (fyS st h):=by
  unfold fyS;cases e:st.filter (fun s=>s.1.testBit h) with
  | nil=>rw[e] at hm;cases hm
  | cons a r=>
   have ha:a∈st:=(aKi.mp (by rw[e];exact aIs:a∈st.filter fun s=>s.1.testBit h)).1;exact S.rn a ha
 have hw:=W.at hh';refine zD R.pos ?_ (pw R.tz (by decide));rw[aJl];have h1:(w.getD h 0).natAbs<=2^64:=by lia
 refine aKy (aL2 h1 (aKu R.ty)) ?_;rw[<- Nat.pow_add];exact aL9 (by decide) (by decide)
theorem SW {n:Nat}{t w:List Int}(F:Fst n t w) {L:List Nat}(hL:Chn n t w 0 L) {h:Nat}(hh:h<n):
  frI (w.getD h 0*(frI (cB t (chF 0 L h).1 (chF 0 L h).2) (gv w (chF 0 L h).2)).1) (frI (cB t (chF 0 L h).1 (chF 0 L h).2) (gv w (chF 0 L h).2)).2=frI (w.getD h 0*chS t w 0 L h) (chD w L):=by
 obtain⟨hs,e⟩:=GZ L 0 hL h hh (aLg h);have hD:=xK F.pos L 0 hL;have hW:=F.pos _ hs.cnd.ne hs.cnd.lt;generalize (chF 0 L h).1=a at *;generalize (chF 0 L h).2=m at *;obtain⟨_,_,e1,e2,p1,_,_⟩:=dX (t:=cB t a m) (b:=gv w m) (by lia);refine jJ p1 hD ?_;generalize (frI (cB t a m) (gv w m)).1=y at *;generalize (frI (cB t a m) (gv w m)).2=z at *;generalize hd:frD (cB t a m) (gv w m)=d at *;have hd0:0<d:=by rw[<- hd];exact nN hW
 have k:d*(y*chD w L)=d*(chS t w 0 L h*z):=by
  rw[<- Int.mul_assoc,<- e1,aJh _ (chD w L),<- e,e2,aJk]
 have k':=Int.eq_of_mul_eq_mul_left (by lia) k;rw[aJg,k',aJg]
theorem aF3 {n:Nat}{t w:List Int}(F:Fst n t w) {L:List Nat}(hL:Chn n t w 0 L) {h:Nat}(hh:h<n):frI (w.getD h 0*(fyS (stL t w 0 L) h).1) (fyS (stL t w 0 L) h).2=frI (w.getD h 0*chS t w 0 L h) (chD w L):=by
 obtain⟨r,hr⟩:=GY L 0 hL h hh (aLg h);have e:fyS (stL t w 0 L) h=frI (cB t (chF 0 L h).1 (chF 0 L h).2) (gv w (chF 0 L h).2):=by
  unfold fyS stL;rw[List.filter_map,show ((fun s:Sp2=>s.1.testBit h) ∘ fun p:Nat × Nat=>(p.1|||p.2,frI (cB t p.1 p.2) (gv w p.2)))=fun p=>(p.1|||p.2).testBit h from rfl,hr]
  rfl
 rw[e];exact SW F hL hh
def EC' (n:Nat) (R t:List Int) (M:Int):Nat->List Nat->Prop
 | a,[]=>gv R a=M*t.getD a 0
 | a,m::L=>gv R a=M*t.getD a 0/\EC' n R t M (a|||m) L
theorem HC {n:Nat}{t w:List Int}(hs:Sub n t) (hpos:∀ g,g≠0->g<2^n->0<gv w g) (hw:w.length=n) (R:List Int) (hR:R.length=n):∀ (L:List Nat) (a:Nat) (c:Int),a<2^n->Chn n t w a L->(∀ h,h<n->a.testBit h=false->R.getD h 0=c*(w.getD h 0*chS t w a L h))->gv R a=c*chD w L*t.getD a 0->EC' n R t (c*chD w L) a L
 | [],a,c,ha,hL,_,h0=>h0
 | m::L,a,c,ha,hL,hRe,h0=>by
  obtain⟨h1,hm,h3⟩:=hL;have hu:=rG ha hm.cnd;refine⟨h0,?_⟩;have psub:a&&&(a|||m)=a:=by
   apply aKr;intro i
   simp only[aLb,aLc];cases a.testBit i<;>rfl
  have pcut:(a|||m) ^^^ a=m:=by
   apply aKr;intro i
   have h2:=congrArg (fun z=>Nat.testBit z i) hm.cnd.off;simp only[aLb,aLg] at h2;simp only[Nat.testBit_xor,aLc];cases ha':a.testBit i<;>cases hm':m.testBit i<;>simp_all
  have k2:gv R (a|||m)-gv R a=c*(cB t a m*chD w L)*gv w m:=by
   rw[<- yE R psub,pcut];refine sA (by rw[hR,hw]) fun j hj hb=>?_;have hj':j<n:=by lia
   have haj:a.testBit j=false:=by
    have h2:=congrArg (fun z=>Nat.testBit z j) hm.cnd.off;simp only[aLb,aLg,hb,Bool.true_and] at h2;exact h2
   rw[hRe j hj' haj,chS,aLc,hb,Bool.or_true];simp only[if_true];simp only[aJh,aJk,aJg]
  have hc:c*chD w (m::L)=c*gv w m*chD w L:=by rw[chD,aJg]
  have goal1:gv R (a|||m)=c*gv w m*chD w L*t.getD (a|||m) 0:=by
   rw[hc] at h0;have:c*(cB t a m*chD w L)*gv w m=c*gv w m*chD w L*(t.getD (a|||m) 0-t.getD a 0):=by
    unfold cB;simp only[aJh,aJk,aJg]
   rw[this,Int.mul_sub] at k2;lia
  rw[hc];exact HC hs hpos hw R hR L (a|||m) (c*gv w m) hu.2 h3 (fun h hh hb=>by
   have hba:a.testBit h=false:=by
    rw[aLc] at hb;cases h0:a.testBit h with
    | false=>rfl
    | true=>rw[h0] at hb;simp at hb
   rw[hRe h hh hba,chS,hb];simp only[aJ4,if_false];simp only[aJh,aJk,aJg]) goal1
theorem EC'.hd {n:Nat}{R t:List Int}{M:Int}:∀ {L:List Nat}{a:Nat},EC' n R t M a L->gv R a=M*t.getD a 0
 | [],_,h=>h
 | _::_,_,h=>h.1
theorem HU {n:Nat}{R t:List Int}{M:Int}:∀ (L:List Nat) (a:Nat),EC' n R t M a L->∀ p∈chP a L,gv R (p.1|||p.2)=M*t.getD (p.1|||p.2) 0
 | [],_,_,p,hp=>by cases hp
 | m::L,a,h,p,hp=>by
  rcases aJ0.mp hp with rfl | hp
  ·exact h.2.hd
  ·exact HU L (a|||m) h.2 p hp
theorem aDu {n:Nat}{sh:List Fc}(S:Shs n sh) {R:List Int}(hR:R.length=n) {D:Int}(hD:0<D) (h:∀ k (hk:k<sh.length),sh[k]=frI (R.getD k 0) D) (g:Nat):D*gv (rP sh) g=dP sh*gv R g:=by
 have hl:(rP sh).length=n:=by unfold rP;rw[aK5];exact S.len
 have l1:((List.range n).map fun k=>D*(rP sh).getD k 0).length=n:=by simp
 have e1:=sA (r:=(List.range n).map fun k=>D*(rP sh).getD k 0) (r':=rP sh) (k:=D) (x:=g) (by rw[l1,hl]) (fun k hk _=>jP (f:=fun k=>D*(rP sh).getD k 0) (by rw[l1] at hk;exact hk));have e2:=sA (r:=(List.range n).map fun k=>D*(rP sh).getD k 0) (r':=R) (k:=dP sh) (x:=g) (by rw[l1,hR]) (fun k hk _=>by
  rw[l1] at hk;rw[jP (f:=fun k=>D*(rP sh).getD k 0) hk];have hk':k<sh.length:=by rw[S.len];exact hk
  have e:(rP sh).getD k 0=sh[k].1*(dP sh).fdiv sh[k].2:=by
   unfold rP;rw[aIp,aJx,aIq hk'];rfl
  have q:=(S.quo (aK1 hk')).1;rw[e];have hh:=h k hk';obtain⟨_,_,f1,f2,_,_,_⟩:=dX (t:=R.getD k 0) (b:=D) (by lia);rw[<- hh] at f1 f2;generalize (dP sh).fdiv sh[k].2=v at *;generalize dP sh=M at *;generalize frD (R.getD k 0) D=d at *;generalize R.getD k 0=r at *;generalize sh[k].1=y at *;generalize sh[k].2=z at *;rw[f1,f2,<- q];simp only[aJh,aJk,aJg])
 rw[<- e1,e2]
theorem MU {n:Nat}{t w:List Int}(F:Fst n t w) {L:List Nat}(hL:Chn n t w 0 L) (hl:L.length<=64) (Sh:Shs n (sbL n w (stL t w 0 L))):kF n t w (sbL n w (stL t w 0 L)) (stL t w 0 L):=by
 have hp:0<2^n:=aLa (by decide);have hD:=xK F.pos L 0 hL;have hRl:((List.range n).map fun h=>w.getD h 0*chS t w 0 L h).length=n:=by simp
 have hRe:∀ h,h<n->((List.range n).map fun h=>w.getD h 0*chS t w 0 L h).getD h 0=w.getD h 0*chS t w 0 L h:=fun h hh=>jP (f:=fun h=>w.getD h 0*chS t w 0 L h) hh;have gvs:=aDu Sh hRl hD (fun k hk=>by
  have hk':k<n:=by rw[Sh.len] at hk;exact hk
  rw[hRe k hk',<- aF3 F hL hk'];have e:(sbL n w (stL t w 0 L))[k]?=some (frI (w.getD k 0*(fyS (stL t w 0 L) k).1) (fyS (stL t w 0 L) k).2):=by
   unfold sbL;rw[aJx,List.getElem?_range hk'];rfl
  exact (aIt.mp e).2)
 have hb:=HB F.fal.sub F.pos F.wl L 0 hp hL _ hRl (fun h hh _=>hRe h hh);have tight:=HC F.fal.sub F.pos F.wl _ hRl L 0 1 hp hL (fun h hh _=>by rw[hRe h hh,Int.one_mul]) (by rw[kM,F.fal.zero,Int.mul_zero]);rw[Int.one_mul] at tight;have em:=HU L 0 tight;have dp:=Sh.dpos;generalize (List.range n).map (fun h=>w.getD h 0*chS t w 0 L h)=R at *;generalize chD w L=D at *;have b1:∀ g,g<2^n->gv R g<=D*t.getD g 0:=fun g hg=>by
  have:=hb.1 g hg;rw[Nat.and_zero,kM,F.fal.zero] at this
  simpa using this
 have b2:gv R (2^n-1)=D*t.getD (2^n-1) 0:=by
  have:=hb.2;rw[kM,F.fal.zero] at this
  simpa using this
 have eqs:∀ g,gv R g=D*t.getD g 0->gv (rP (sbL n w (stL t w 0 L))) g=dP (sbL n w (stL t w 0 L))*t.getD g 0:=fun g e=>by
  have k:=gvs g;rw[e,aJk] at k;exact Int.eq_of_mul_eq_mul_left (by lia) k
 refine⟨CI (AJ L 0 hp hL),MT F L 0 hp hL,rfl,⟨fun g hg=>?_,eqs _ b2⟩,fun s hs=>?_⟩
 ·have k:=gvs g
  have k2:=Int.mul_le_mul_of_nonneg_left (b1 g hg) (aJd dp);rw[<- k,aJk] at k2;exact Int.le_of_mul_le_mul_left k2 hD
 ·obtain⟨p,hp',rfl⟩:=aKj.mp hs
  exact eqs _ (em p hp')
def cR1:Rho->Option Out:=
 aJ 3 (aI (aC (aA 0) (aC (aA 1) aF)) kD)
def cR2:Rho->Option Out:=
 aJ 4 (aI (aC (aA 0) (aC (aA 1) aF)) fV)
def cR3:Rho->Option Out:=
 rIf (eO (fB (f2 (aA 2) (fC (.int 1)) oGt)) (eO (fB (f2 (aA 2) (fC (.int 5)) oLt)) (fB (f2 (f2 (f2 (aI (aC (aA 0) (aC (fC (.int 145)) aF)) aT) (fC (.int 3)) aY) (fC (.int 2)) aS) (fC (.int 1)) oEq)))) (aJ 4 (aI (aC (aA 0) (aC (aA 1) aF)) jV)) aQ
def cR4:Rho->Option Out:=
 rIf (fB (f2 (aA 2) (fC (.int 1)) oEq)) (aJ 4 (aI (aC (cE (fFL (aA 3)) [none,some 0] bE vC) aF) gJ)) aQ
def cR5:Rho->Option Out:=
 rIf (fB (f2 (aA 2) (fC (.int 5)) oEq)) (aJ 4 (aI (aC (cE (cH (aC (aA 1) aF) cK) [none,some 0] bE vD) aF) gJ)) aQ
def cR6:Rho->Option Out:=
 aJ 5 (cO (aC (bP (aC (f2 (aI (aC (aA 4) aF) bS) (fC (.int 1)) cQ) (aC (f1 (aI (aC (f2 (aA 4) (f1 (fC (.int 1)) dJ) oIx) (aC (aI (aC (aA 3) aF) pA) aF)) cR) aN) aF))) aF))
def cR7:Rho->Option Out:=
 aJ 6 (aI (aC (aA 0) (aC (fC (.int 60)) (aC (aA 1) aF))) jF)
def cR8:Rho->Option Out:=
 aJ 7 (cE (fFL (aI (aC (aA 4) (aC (aA 6) aF)) kB)) [none] bE sQ)
def cR9:Rho->Option Out:=
 aJ 8 (aA 5)
def gP:Rho->Option Out:=
 rIf (pOr (fB (f2 (aA 2) (fC (.int 0)) oEq)) (fB (f2 (aA 2) (fC (.int 6)) oEq))) (aJ 8 (aI (aC (aA 4) (aC (aA 3) aF)) kA)) aQ
def gQ:Rho->Option Out:=
 rIf (fB (f2 (aA 2) (fC (.int 1)) oEq)) (aH (aJ 9 (f2 (f2 (aI (aC (aA 0) (aC (fC (.int 148)) aF)) aT) (fC (.int 3)) aY) (aI (aC (aA 4) aF) bS) aS))
  (rIf (eO (fB (f2 (aA 9) (fC (.int 0)) oGt)) (fB (f2 (aA 9) (f2 (aI (aC (aA 4) aF) bS) (fC (.int 1)) cQ) oLt))) (aJ 8 (f1 (f2 (cO (aC (bP (aC (f1 (aA 9) aN) (aC (f1 (f2 (f2 (aA 5) (fC (.int 0)) oIx) (fC (.int 1)) oIx) aN) aF))) aF)) (aA 5) gF) dB)) aQ)) aQ
def gR:Rho->Option Out:=
 rIf (pOr (fB (f2 (aA 2) (fC (.int 3)) oEq)) (fB (f2 (aA 2) (fC (.int 5)) oEq))) (aJ 8 (aI (aC (aA 7) (aC (aA 3) (aC (f2 (aA 2) (fC (.int 3)) oEq) aF))) jY)) aQ
def gS:Rho->Option Out:=
 rIf (fB (f2 (aA 2) (bP (aC (fC (.int 0)) (aC (fC (.int 1)) (aC (fC (.int 4)) (aC (fC (.int 6)) aF))))) oIn)) (aJ 7 (aI (aC (aA 8) (aC (aA 3) aF)) fU)) aQ
def gT:Rho->Option Out:=
 aV (cO (aC (aA 4) (aC (aA 3) (aC (aA 7) (aC (f1 (aI (aC (aA 8) aF) fE) dB) aF)))))
def dN:Rho->Option Out:=aH gP (aH gQ (aH gR (aH gS (gT))))
theorem SE:sP=aH cR1 (aH cR2 (aH cR3 (aH cR4 (aH cR5 (aH cR6 (aH cR7 (aH cR8 (aH cR9 (dN))))))))):=rfl
theorem bM {a b:Rho->Option Out}{ρ ρ':Rho}(h:a ρ=some (.nx ρ')):aH a b ρ=b ρ':=by rw[rSeq_at,h];rfl
theorem aFx (x:List Int):bN bE sQ [none] (tI x)=some (tX x):=by
 have hc2:(2:Nat)<=cap:=by decide
 have e:=xP (p:=bE) (f:=sQ) (ρ:=[none]) (fun i:Int=>T.int i) (fun _=>true) (fun i=>tF (i,1)) x (fun i _=>⟨rfl,fun _=>by
  unfold sQ;simp only[fTup_at,f1_at,fVar_at,fC_at,aCons_at,aNil_at,List.set,zz0,jn,zz2,gScal_int,aK3,aK6,aLe,Nat.reduceAdd,hc2,if_true]
  rfl⟩)
 rw[List.filter_eq_self.mpr (fun _ _=>rfl)] at e;exact e
structure C9 (n:Nat) (ns:List Int) (k:Int) (t w x:List Int) (wh:Sp2):Prop where
 tb:Tb n t
 fal:k=0\/k=6->Fst n t w
 wl:w.length=n
 wx:∀ x∈w,1<=x/\x<=10^9
 xl:x.length=n
 xb:Bd (2*10^200) x
 wg:wh.1=2^n-1
 wr:Rn 800 40 wh.2
theorem SS (ns:List Int) (hn:ns.length<=63) {n:Nat}(h1:1<=n) (h6:n<=6) (k:Int):∃ t w x o wh,sP [some (.lst (tI ns)),some (.int (n:Int)),some (.int k),none,none,none,none,none,none,none]=dN [some (.lst (tI ns)),some (.int (n:Int)),some (.int k),some (.lst (tI w)),some (.lst (tI t)),some (.lst (tP tpS [wh])),some o,some (.lst (tX x)),some (.lst (tP tpS [wh])),none]/\C9 n ns k t w x wh:=by
 have h64:=eX h6;have hp:0<2^n:=aLa (by decide);have hs2:2<=2^n:=aKw (by decide:2<=2^1) (aL8 (by decide) h1);have d3:∀ i:Int,aY (.int i) (.int 3)=some (.int (i / 3)):=fun i=>cP (by decide) (by decide);have d5:∀ i:Int,aY (.int i) (.int 5)=some (.int (i / 5)):=fun i=>cP (by decide) (by decide);have d7:∀ i:Int,aY (.int i) (.int 7)=some (.int (i / 7)):=fun i=>cP (by decide) (by decide);have m2:∀ i:Int,aS (.int i) (.int 2)=some (.int (i%2)):=fun i=>bU (by decide);have m9:∀ i:Int,aS (.int i) (.int 9)=some (.int (i%9)):=fun i=>bU (by decide);have neg1:dJ (.int 1)=some (.int (-1)):=rfl;have hc1:(1:Nat)<=cap:=by decide
 have hc2:(2:Nat)<=cap:=by decide
 have n9:∀ i:Int,(i%9-4).natAbs<=4:=fun i=>by
  have a0:=aJc i (show (9:Int)≠0 by decide);have a1:=aJb i (show (0:Int)<9 by decide);lia
 obtain⟨w,ew,hw,hx⟩:=QZ ns h1 h6;obtain⟨t0,et0,hf⟩:=EY ns hn h1 h6;obtain⟨ta,eta,la,za,ba⟩:=OR ns hn h1 h6;have q1:cR1 [some (.lst (tI ns)),some (.int (n:Int)),some (.int k),none,none,none,none,none,none,none]=some (.nx [some (.lst (tI ns)),some (.int (n:Int)),some (.int k),some (.lst (tI w)),none,none,none,none,none,none]):=by
  unfold cR1;simp only[rSet_at,fCall_at,fVar_at,aCons_at,aNil_at,List.set,zz0,zz1,jn,zz2,zz3,ew]
 have q2:cR2 [some (.lst (tI ns)),some (.int (n:Int)),some (.int k),some (.lst (tI w)),none,none,none,none,none,none]=some (.nx [some (.lst (tI ns)),some (.int (n:Int)),some (.int k),some (.lst (tI w)),some (.lst (tI t0)),none,none,none,none,none]):=by
  unfold cR2;simp only[rSet_at,fCall_at,fVar_at,aCons_at,aNil_at,List.set,zz0,zz1,jn,zz2,zz3,et0]
 have q3:∃ t1,cR3 [some (.lst (tI ns)),some (.int (n:Int)),some (.int k),some (.lst (tI w)),some (.lst (tI t0)),none,none,none,none,none]=some (.nx [some (.lst (tI ns)),some (.int (n:Int)),some (.int k),some (.lst (tI w)),some (.lst (tI t1)),none,none,none,none,none])/\Tb n t1/\(k=0\/k=6->t1=t0):=by
  have f145:aT [.lst (tI ns),.int 145]=some (.int (aP ns 145)):=cU ns (k:=145) (by decide);have t0b:Tb n t0:=⟨hf.len,hf.zero,hf.bd⟩
  by_cases c1:1<k
  ·by_cases c2:k<5
   ·by_cases c3:aP ns 145 / 3%2=1
    ·refine⟨ta,?_,⟨la,za,ba⟩,fun z=>by lia⟩
     unfold cR3;simp only[rIf_at,rSet_at,pAnd_at,fB_at,f2_at,fC_at,fCall_at,fVar_at,aCons_at,aNil_at,List.set,zz0,zz1,jn,zz2,zz3,oGt_int,oLt_int,decide_eq_true c1,decide_eq_true c2,isB_bl,if_true,f145,d3,m2,c3,oEq_int,beq_self_eq_true,eta]
    ·have c3':(aP ns 145 / 3%2 == 1)=false:=by simpa using c3
     refine⟨t0,?_,t0b,fun _=>rfl⟩;unfold cR3;simp only[rIf_at,rNext_at,pAnd_at,fB_at,f2_at,fC_at,fCall_at,fVar_at,aCons_at,aNil_at,List.set,zz0,zz1,jn,zz2,zz3,oGt_int,oLt_int,decide_eq_true c1,decide_eq_true c2,isB_bl,if_true,f145,d3,m2,oEq_int,c3',aJ4,if_false]
   ·refine⟨t0,?_,t0b,fun _=>rfl⟩
    unfold cR3;simp only[rIf_at,rNext_at,pAnd_at,fB_at,f2_at,fC_at,fVar_at,zz0,zz1,jn,zz2,oGt_int,oLt_int,decide_eq_true c1,decide_eq_false c2,isB_bl,if_true,aJ4,if_false]
  ·refine⟨t0,?_,t0b,fun _=>rfl⟩
   unfold cR3;simp only[rIf_at,rNext_at,pAnd_at,fB_at,f2_at,fC_at,fVar_at,zz0,zz1,jn,zz2,oGt_int,decide_eq_false c1,isB_bl,aJ4,if_false]
 obtain⟨t1,q3,b1,s1⟩:=q3;have q4:∃ t2,cR4 [some (.lst (tI ns)),some (.int (n:Int)),some (.int k),some (.lst (tI w)),some (.lst (tI t1)),none,none,none,none,none]=some (.nx [some (.lst (tI ns)),some (.int (n:Int)),some (.int k),some (.lst (tI w)),some (.lst (tI t2)),none,none,none,none,none])/\Tb n t2/\(k=0\/k=6->t2=t0):=by
  have f147:aT [.lst (tI ns),.int 147]=some (.int (aP ns 147)):=cU ns (k:=147) (by decide)
  by_cases c1:k=1
  ·have hn9:=n9 (aP ns 147 / 5)
   generalize hc:aP ns 147 / 5%9-4=c at hn9;have e:bN bE vC [none,some (.lst (tI ns))] (tI w)=some (tI (w.map fun x=>x*c)):=tT _ fun x hx'=>by
    have mu:bD (.int x) (.int c)=some (.int (x*c)):=nZ (by lia);unfold vC;simp only[f2_at,fVar_at,fC_at,fCall_at,aCons_at,aNil_at,List.set,zz0,zz1,jn,zz2,f147,d5,m9,oSub_int,hc,mu]
   have hlm:(w.map fun x=>x*c).length=n:=by rw[aK5,hw]
   have fl:=EZ h6 hlm;have hcp:(w.map fun x=>x*c).length<=cap:=by rw[hlm];unfold cap;lia
   refine⟨_,?_,NN h6 hlm (fun y hy=>?_),fun z=>by lia⟩
   ·unfold cR4
    simp only[rIf_at,rSet_at,fB_at,f2_at,fC_at,fCall_at,fComp_at,fFL_at,fVar_at,aCons_at,aNil_at,List.set,zz0,zz1,jn,zz2,zz3,c1,oEq_int,beq_self_eq_true,isB_bl,if_true,hE,bR,aKc,aKe,aLh,e,tI_length,hcp,fl]
   ·obtain⟨x,hx',rfl⟩:=aKj.mp hy
    have:=hx x hx';rw[aJl];exact aKw (aL2 (show x.natAbs<=10^9 by lia) hn9) (by decide)
  ·have c1':(k == 1)=false:=by simpa using c1
   refine⟨t1,?_,b1,s1⟩;unfold cR4;simp only[rIf_at,rNext_at,fB_at,f2_at,fC_at,fVar_at,zz0,zz1,jn,zz2,oEq_int,c1',isB_bl,aJ4,if_false]
 obtain⟨t2,q4,b2,s2⟩:=q4;have q5:∃ t,cR5 [some (.lst (tI ns)),some (.int (n:Int)),some (.int k),some (.lst (tI w)),some (.lst (tI t2)),none,none,none,none,none]=some (.nx [some (.lst (tI ns)),some (.int (n:Int)),some (.int k),some (.lst (tI w)),some (.lst (tI t)),none,none,none,none,none])/\Tb n t/\(k=0\/k=6->t=t0):=by
  by_cases c1:k=5
  ·have fk:∀ i:Nat,i<n->aT [.lst (tI ns),.int (150+(i:Int))]=some (.int (aP ns (150+i))):=fun i hi=>by
    have:=cU ns (k:=150+i) (by lia)
    rwa [show ((150+i:Nat):Int)=150+(i:Int) by lia] at this
   have e:bN bE vD [none,some (.lst (tI ns))] (G.rangeT 0 n)=some (tI ((List.range n).map fun i=>aP ns (150+i) / 7%9-4)):=rQ _ fun i hi=>by
    unfold vD;simp only[f2_at,fVar_at,fC_at,fCall_at,aCons_at,aNil_at,List.set,zz0,zz1,jn,zz2,oAdd_int,fk i hi,d7,m9,oSub_int]
   have hr:=eN n (by lia);have hlm:((List.range n).map fun i=>aP ns (150+i) / 7%9-4).length=n:=by simp
   have fl:=EZ h6 hlm;have hcp:((List.range n).map fun i=>aP ns (150+i) / 7%9-4).length<=cap:=by rw[hlm];unfold cap;lia
   refine⟨_,?_,NN h6 hlm (fun y hy=>?_),fun z=>by lia⟩
   ·unfold cR5
    simp only[rIf_at,rSet_at,fB_at,f2_at,fC_at,fCall_at,fComp_at,fRange_at,fVar_at,aCons_at,aNil_at,List.set,zz0,zz1,jn,zz2,zz3,c1,oEq_int,beq_self_eq_true,isB_bl,if_true,hr,bR,aKc,aKe,aLh,e,tI_length,hcp,fl]
   ·obtain⟨i,_,rfl⟩:=aKj.mp hy
    exact aKw (n9 _) (by decide)
  ·have c1':(k == 5)=false:=by simpa using c1
   refine⟨t2,?_,b2,s2⟩;unfold cR5;simp only[rIf_at,rNext_at,fB_at,f2_at,fC_at,fVar_at,zz0,zz1,jn,zz2,oEq_int,c1',isB_bl,aJ4,if_false]
 obtain⟨t,q5,b,s⟩:=q5;have ws:=AM h6 hw hx (g:=2^n-1) (by lia) (by lia);have gf:=YB w;rw[hw] at gf;rw[gf] at ws;have al:=GH (ns:=t) (by rw[b.len];exact hp);rw[b.len] at al;have ft:=rK (t:=t.getD (2^n-1) 0) (b:=w.sum) ws.1 (pw (L:=100) (by lia) (by decide));rw[xF] at ft;have el:((2^n:Nat):Int)-1=((2^n-1:Nat):Int):=by lia
 have q6:cR6 [some (.lst (tI ns)),some (.int (n:Int)),some (.int k),some (.lst (tI w)),some (.lst (tI t)),none,none,none,none,none]=some (.nx [some (.lst (tI ns)),some (.int (n:Int)),some (.int k),some (.lst (tI w)),some (.lst (tI t)),some (.lst (tP tpS [(2^n-1,frI (t.getD (2^n-1) 0) w.sum)])),none,none,none,none]):=by
  unfold cR6;simp only[rSet_at,fLst_at,fTup_at,f1_at,f2_at,fC_at,fCall_at,fVar_at,aCons_at,aNil_at,List.set,zz0,zz1,jn,zz2,zz3,oLen_lst,tI_length,b.len,oSub_int,el,neg1,oIx_lst,al,DC,ft,dC,aK3,aK6,aLe,Nat.reduceAdd,hc2,hc1,if_true]
  rfl
 obtain⟨o,eo,po⟩:=QL ns (k:=60) (by decide) h6;have eo:jF [.lst (tI ns),.int 60,.int (n:Int)]=some (.lst (tI (tN' o))):=eo;have q7:cR7 [some (.lst (tI ns)),some (.int (n:Int)),some (.int k),some (.lst (tI w)),some (.lst (tI t)),some (.lst (tP tpS [(2^n-1,frI (t.getD (2^n-1) 0) w.sum)])),none,none,none,none]=some (.nx [some (.lst (tI ns)),some (.int (n:Int)),some (.int k),some (.lst (tI w)),some (.lst (tI t)),some (.lst (tP tpS [(2^n-1,frI (t.getD (2^n-1) 0) w.sum)])),some (.lst (tI (tN' o))),none,none,none]):=by
  unfold cR7;simp only[rSet_at,fC_at,fCall_at,fVar_at,aCons_at,aNil_at,List.set,zz0,zz1,jn,zz2,zz3,eo]
 have tk:=QW h6 b.len po;have tc:=aFx (fR n t o);have hcx:(tX (fR n t o)).length<=cap:=by unfold tX;rw[aK5,NI];unfold cap;lia
 have q8:cR8 [some (.lst (tI ns)),some (.int (n:Int)),some (.int k),some (.lst (tI w)),some (.lst (tI t)),some (.lst (tP tpS [(2^n-1,frI (t.getD (2^n-1) 0) w.sum)])),some (.lst (tI (tN' o))),none,none,none]=some (.nx [some (.lst (tI ns)),some (.int (n:Int)),some (.int k),some (.lst (tI w)),some (.lst (tI t)),some (.lst (tP tpS [(2^n-1,frI (t.getD (2^n-1) 0) w.sum)])),some (.lst (tI (tN' o))),some (.lst (tX (fR n t o))),none,none]):=by
  unfold cR8;simp only[rSet_at,fComp_at,fFL_at,fCall_at,fVar_at,aCons_at,aNil_at,List.set,zz0,zz1,jn,zz2,zz3,tk,hE,bR,aKc,aKe,aLh,tc,hcx,if_true]
 have q9:cR9 [some (.lst (tI ns)),some (.int (n:Int)),some (.int k),some (.lst (tI w)),some (.lst (tI t)),some (.lst (tP tpS [(2^n-1,frI (t.getD (2^n-1) 0) w.sum)])),some (.lst (tI (tN' o))),some (.lst (tX (fR n t o))),none,none]=some (.nx [some (.lst (tI ns)),some (.int (n:Int)),some (.int k),some (.lst (tI w)),some (.lst (tI t)),some (.lst (tP tpS [(2^n-1,frI (t.getD (2^n-1) 0) w.sum)])),some (.lst (tI (tN' o))),some (.lst (tX (fR n t o))),some (.lst (tP tpS [(2^n-1,frI (t.getD (2^n-1) 0) w.sum)])),none]):=by
  unfold cR9;simp only[rSet_at,fVar_at,List.set,zz0,zz1,jn,zz2,zz3]
 refine⟨t,w,fR n t o,.lst (tI (tN' o)),(2^n-1,frI (t.getD (2^n-1) 0) w.sum),?_,⟨b,fun z=>⟨h1,h6,by rw[s z];exact hf,hw,hx⟩,hw,hx,NI _ _ _,aG6 b.bd o,rfl,?_⟩⟩
 ·rw[SE,bM q1,bM q2,bM q3,bM q4,bM q5,bM q6,bM q7,bM q8,bM q9]
 ·exact zD ws.1 (aKy (b.bd.get _) (by decide +kernel)) (by lia)
structure Cg (n:Nat) (t w:List Int) (sh:List Fc) (st:List Sp2):Prop where
 one:1<=n
 six:n<=6
 tb:Tb n t
 wl:w.length=n
 wx:∀ x∈w,1<=x/\x<=10^9
 sl:sh.length=n
 sr:∀ y∈sh,Rn 900 60 y
 ts:Stg n st
 ne:st≠[]
theorem mL {n:Nat}{w:List Int}(hl:w.length=n) (hx:∀ x∈w,1<=x/\x<=10^9):Wts n w:=⟨hl,fun x h=>by have:=hx x h;lia⟩
theorem EL (x:List Int):tX x=(x.map fun i=>((i,1):Fc)).map tF:=by unfold tX;rw[aKd];rfl
theorem EM {x:List Int}(hb:Bd (2*10^200) x):∀ y∈x.map (fun i=>((i,1):Fc)),Rn 900 60 y:=fun y hy=>by
 obtain⟨i,hi,rfl⟩:=aKj.mp hy;exact⟨Int.one_pos,nP i,aKy (hb i hi) (by decide +kernel),(show (1:Int).natAbs<2^60 by decide)⟩
theorem BI {n:Nat}{st:List Sp2}{wh:Sp2}(hw:wh.1=2^n-1) (hm:wh∈st):Cov n st:=fun h hh=>⟨wh,hm,by rw[hw,BX];exact decide_eq_true hh⟩
theorem gX (st:List Sp2):dB (.lst (tP tpS st))=some (.lst (tP tpS st)):=II (tV st)
section
variable {n:Nat}{ns:List Int}{t w x:List Int}{wh:Sp2}{o:T}
theorem aFz (h1:1<=n) (h6:n<=6) (C:C9 n ns 0 t w x wh):∃ sh st,(dN [some (.lst (tI ns)),some (.int (n:Int)),some (.int 0),some (.lst (tI w)),some (.lst (tI t)),some (.lst (tP tpS [wh])),some o,some (.lst (tX x)),some (.lst (tP tpS [wh])),none]).bind bC=some (.lst [.lst (tI t),.lst (tI w),.lst (sh.map tF),.lst (tP tpS st)])/\Cg n t w sh st/\kF n t w sh st:=by
 have hc4:(4:Nat)<=cap:=by decide
 have W:=mL C.wl C.wx;have e0:oEq (.int 0) (.int 0)=some (.bl true):=rfl;have e1:oEq (.int 0) (.int 1)=some (.bl false):=rfl;have e3:oEq (.int 0) (.int 3)=some (.bl false):=rfl;have e5:oEq (.int 0) (.int 5)=some (.bl false):=rfl;have e6:oEq (.int 0) (.int 6)=some (.bl false):=rfl;have ein:oIn (.int 0) (.tup [.int 0,.int 1,.int 4,.int 6])=some (.bl true):=rfl;have F:=C.fal (by decide);obtain⟨L,hL,hl⟩:=HL F;have eL:=FG F hL hl;rw[MW] at eL;have S:=MV F hL hl;have hp:0<2^n:=aLa (by decide);have G:=CI (AJ (t:=t) (w:=w) L 0 hp hL);have Cv:=yC h1 S.sts G;have fa:=rJ h6 W S.sts Cv;obtain⟨sl,sr⟩:=xA W S Cv;have hne:stL t w 0 L≠[]:=fun z=>by
  have:=G.2;rw[z] at this;have:0=2^n-1:=this;have hs2:2<=2^n:=aKw (by decide:2<=2^1) (aL8 (by decide) h1);lia
 have al:=MU F hL hl ⟨sl,fun y hy=>(sr y hy).rf (by decide) (by decide)⟩;refine⟨sbL n w (stL t w 0 L),stL t w 0 L,?_,⟨h1,h6,C.tb,C.wl,C.wx,sl,sr,S,hne⟩,al⟩;unfold dN gP gQ gR gS gT;simp only[rSeq_at,rIf_at,rNext_at,rSet_at,rRet_at,pOr_at,pAnd_at,fB_at,f1_at,f2_at,fC_at,fCall_at,fVar_at,fLst_at,fTup_at,aCons_at,aNil_at,List.set,zz0,zz1,jn,zz2,zz3,isB_bl,if_true,aJ4,if_false,oList_lst,gX,aK3,aK6,aLe,Nat.reduceAdd,hc4,outT_rt,e0,e1,e3,e5,e6,ein,eL,fa]
theorem aG0 (h1:1<=n) (h6:n<=6) (C:C9 n ns 1 t w x wh):∃ sh st,(dN [some (.lst (tI ns)),some (.int (n:Int)),some (.int 1),some (.lst (tI w)),some (.lst (tI t)),some (.lst (tP tpS [wh])),some o,some (.lst (tX x)),some (.lst (tP tpS [wh])),none]).bind bC=some (.lst [.lst (tI t),.lst (tI w),.lst (sh.map tF),.lst (tP tpS st)])/\Cg n t w sh st:=by
 have hc4:(4:Nat)<=cap:=by decide
 have W:=mL C.wl C.wx;have e0:oEq (.int 1) (.int 0)=some (.bl false):=rfl;have e1:oEq (.int 1) (.int 1)=some (.bl true):=rfl;have e3:oEq (.int 1) (.int 3)=some (.bl false):=rfl;have e5:oEq (.int 1) (.int 5)=some (.bl false):=rfl;have e6:oEq (.int 1) (.int 6)=some (.bl false):=rfl;have ein:oIn (.int 1) (.tup [.int 0,.int 1,.int 4,.int 6])=some (.bl true):=rfl;have f148:aT [.lst (tI ns),.int 148]=some (.int (aP ns 148)):=cU ns (k:=148) (by decide);have d3:∀ i:Int,aY (.int i) (.int 3)=some (.int (i / 3)):=fun i=>cP (by decide) (by decide);have h64:=eX h6;have hp:0<2^n:=aLa (by decide);have p0:0<=aP ns 148 / 3%((2^n:Nat):Int):=aJc _ (by lia);have p1:aP ns 148 / 3%((2^n:Nat):Int)<((2^n:Nat):Int):=aJb _ (by lia);have mi:aS (.int (aP ns 148 / 3)) (.int ((2^n:Nat):Int))=some (.int (aP ns 148 / 3%((2^n:Nat):Int))):=bU (by lia);generalize aP ns 148 / 3%((2^n:Nat):Int)=p at p0 p1 mi;obtain⟨q,rfl⟩:∃ q:Nat,p=(q:Int):=⟨p.toNat,by lia⟩;have hc1:(1:Nat)<=cap:=by decide
 have hc2:(2:Nat)<=cap:=by decide
 have tl:=C.tb.len
 by_cases z:0<q/\q<2^n-1
 ·have S:Stg n [(q,wh.2),wh]:=⟨fun s hs=>by
    rcases aJ0.mp hs with rfl | hs
    ·show q<2^n
     lia
    ·rw[aKm.mp hs,C.wg];lia,fun s hs=>by
    rcases aJ0.mp hs with rfl | hs
    ·exact C.wr
    ·rw[aKm.mp hs];exact C.wr,by simp⟩
  have Cv:Cov n [(q,wh.2),wh]:=BI C.wg (by simp);have fa:=rJ h6 W S.sts Cv;obtain⟨sl,sr⟩:=xA W S Cv;have g1:decide ((0:Int)<(q:Int))=true:=decide_eq_true (by lia);have g2:decide ((q:Int)<((2^n:Nat):Int)-1)=true:=decide_eq_true (by lia);have j0:oIx (.lst (tP tpS [wh])) (.int 0)=some (.tup (tpS wh)):=rfl;have j1:oIx (.tup (tpS wh)) (.int 1)=some (tF wh.2):=rfl;have ca:gF (.lst [.tup [.int (q:Int),tF wh.2]]) (.lst (tP tpS [wh]))=some (.lst (tP tpS [(q,wh.2),wh])):=CY (show 1+1<=cap by decide);refine⟨sbL n w [(q,wh.2),wh],[(q,wh.2),wh],?_,⟨h1,h6,C.tb,C.wl,C.wx,sl,sr,S,by simp⟩⟩;unfold dN gP gQ gR gS gT;simp only[rSeq_at,rIf_at,rNext_at,rSet_at,rRet_at,pOr_at,pAnd_at,fB_at,f1_at,f2_at,fC_at,fCall_at,fVar_at,fLst_at,fTup_at,aCons_at,aNil_at,List.set,zz0,zz1,jn,zz2,zz3,isB_bl,if_true,aJ4,if_false,oList_lst,gX,aK3,aK6,aLe,Nat.reduceAdd,hc4,outT_rt,e0,e1,e3,e5,e6,ein,f148,d3,oLen_lst,tI_length,tl,mi,oGt_int,oLt_int,oSub_int,g1,g2,gScal_int,j0,j1,dC,hc1,hc2,ca,fa]
 ·have S:Stg n [wh]:=⟨fun s hs=>by rw[aKm.mp hs,C.wg];lia,fun s hs=>by rw[aKm.mp hs];exact C.wr,by simp⟩
  have Cv:Cov n [wh]:=BI C.wg (by simp);have fa:=rJ h6 W S.sts Cv;obtain⟨sl,sr⟩:=xA W S Cv;refine⟨sbL n w [wh],[wh],?_,⟨h1,h6,C.tb,C.wl,C.wx,sl,sr,S,by simp⟩⟩
  by_cases z1:0<q
  ·have g1:decide ((0:Int)<(q:Int))=true:=decide_eq_true (by lia)
   have g2:decide ((q:Int)<((2^n:Nat):Int)-1)=false:=decide_eq_false (by lia);unfold dN gP gQ gR gS gT;simp only[rSeq_at,rIf_at,rNext_at,rSet_at,rRet_at,pOr_at,pAnd_at,fB_at,f1_at,f2_at,fC_at,fCall_at,fVar_at,fLst_at,fTup_at,aCons_at,aNil_at,List.set,zz0,zz1,jn,zz2,zz3,isB_bl,if_true,aJ4,if_false,oList_lst,gX,aK3,aK6,aLe,Nat.reduceAdd,hc4,outT_rt,e0,e1,e3,e5,e6,ein,f148,d3,oLen_lst,tI_length,tl,mi,oGt_int,oLt_int,oSub_int,g1,g2,fa]
  ·have g1:decide ((0:Int)<(q:Int))=false:=decide_eq_false (by lia)
   unfold dN gP gQ gR gS gT;simp only[rSeq_at,rIf_at,rNext_at,rSet_at,rRet_at,pOr_at,pAnd_at,fB_at,f1_at,f2_at,fC_at,fCall_at,fVar_at,fLst_at,fTup_at,aCons_at,aNil_at,List.set,zz0,zz1,jn,zz2,zz3,isB_bl,if_true,aJ4,if_false,oList_lst,gX,aK3,aK6,aLe,Nat.reduceAdd,hc4,outT_rt,e0,e1,e3,e5,e6,ein,f148,d3,oLen_lst,tI_length,tl,mi,oGt_int,g1,fa]
theorem aG1 (h1:1<=n) (h6:n<=6) (C:C9 n ns 2 t w x wh):∃ sh st,(dN [some (.lst (tI ns)),some (.int (n:Int)),some (.int 2),some (.lst (tI w)),some (.lst (tI t)),some (.lst (tP tpS [wh])),some o,some (.lst (tX x)),some (.lst (tP tpS [wh])),none]).bind bC=some (.lst [.lst (tI t),.lst (tI w),.lst (sh.map tF),.lst (tP tpS st)])/\Cg n t w sh st:=by
 have hc4:(4:Nat)<=cap:=by decide
 have W:=mL C.wl C.wx;have e0:oEq (.int 2) (.int 0)=some (.bl false):=rfl;have e1:oEq (.int 2) (.int 1)=some (.bl false):=rfl;have e3:oEq (.int 2) (.int 3)=some (.bl false):=rfl;have e5:oEq (.int 2) (.int 5)=some (.bl false):=rfl;have e6:oEq (.int 2) (.int 6)=some (.bl false):=rfl;have ein:oIn (.int 2) (.tup [.int 0,.int 1,.int 4,.int 6])=some (.bl false):=rfl;have hp:0<2^n:=aLa (by decide);have S:Stg n [wh]:=⟨fun s hs=>by rw[aKm.mp hs,C.wg];lia,fun s hs=>by rw[aKm.mp hs];exact C.wr,by simp⟩;refine⟨x.map fun i=>(i,1),[wh],?_,⟨h1,h6,C.tb,C.wl,C.wx,by rw[aK5];exact C.xl,EM C.xb,S,by simp⟩⟩;rw[EL];unfold dN gP gQ gR gS gT;simp only[rSeq_at,rIf_at,rNext_at,rSet_at,rRet_at,pOr_at,pAnd_at,fB_at,f1_at,f2_at,fC_at,fCall_at,fVar_at,fLst_at,fTup_at,aCons_at,aNil_at,List.set,zz0,zz1,jn,zz2,zz3,isB_bl,if_true,aJ4,if_false,oList_lst,gX,aK3,aK6,aLe,Nat.reduceAdd,hc4,outT_rt,e0,e1,e3,e5,e6,ein]
theorem aG2 (h1:1<=n) (h6:n<=6) (C:C9 n ns 3 t w x wh):∃ sh st,(dN [some (.lst (tI ns)),some (.int (n:Int)),some (.int 3),some (.lst (tI w)),some (.lst (tI t)),some (.lst (tP tpS [wh])),some o,some (.lst (tX x)),some (.lst (tP tpS [wh])),none]).bind bC=some (.lst [.lst (tI t),.lst (tI w),.lst (sh.map tF),.lst (tP tpS st)])/\Cg n t w sh st:=by
 have hc4:(4:Nat)<=cap:=by decide
 have W:=mL C.wl C.wx;have e0:oEq (.int 3) (.int 0)=some (.bl false):=rfl;have e1:oEq (.int 3) (.int 1)=some (.bl false):=rfl;have e3:oEq (.int 3) (.int 3)=some (.bl true):=rfl;have e5:oEq (.int 3) (.int 5)=some (.bl false):=rfl;have e6:oEq (.int 3) (.int 6)=some (.bl false):=rfl;have ein:oIn (.int 3) (.tup [.int 0,.int 1,.int 4,.int 6])=some (.bl false):=rfl;obtain⟨st,es,S,hne⟩:=FF h1 h6 C.xl C.xb W true;refine⟨x.map fun i=>(i,1),st,?_,⟨h1,h6,C.tb,C.wl,C.wx,by rw[aK5];exact C.xl,EM C.xb,S,hne⟩⟩;rw[EL] at es ⊢;unfold dN gP gQ gR gS gT;simp only[rSeq_at,rIf_at,rNext_at,rSet_at,rRet_at,pOr_at,pAnd_at,fB_at,f1_at,f2_at,fC_at,fCall_at,fVar_at,fLst_at,fTup_at,aCons_at,aNil_at,List.set,zz0,zz1,jn,zz2,zz3,isB_bl,if_true,aJ4,if_false,oList_lst,gX,aK3,aK6,aLe,Nat.reduceAdd,hc4,outT_rt,e0,e1,e3,e5,e6,ein,es]
theorem aG3 (h1:1<=n) (h6:n<=6) (C:C9 n ns 4 t w x wh):∃ sh st,(dN [some (.lst (tI ns)),some (.int (n:Int)),some (.int 4),some (.lst (tI w)),some (.lst (tI t)),some (.lst (tP tpS [wh])),some o,some (.lst (tX x)),some (.lst (tP tpS [wh])),none]).bind bC=some (.lst [.lst (tI t),.lst (tI w),.lst (sh.map tF),.lst (tP tpS st)])/\Cg n t w sh st:=by
 have hc4:(4:Nat)<=cap:=by decide
 have W:=mL C.wl C.wx;have e0:oEq (.int 4) (.int 0)=some (.bl false):=rfl;have e1:oEq (.int 4) (.int 1)=some (.bl false):=rfl;have e3:oEq (.int 4) (.int 3)=some (.bl false):=rfl;have e5:oEq (.int 4) (.int 5)=some (.bl false):=rfl;have e6:oEq (.int 4) (.int 6)=some (.bl false):=rfl;have ein:oIn (.int 4) (.tup [.int 0,.int 1,.int 4,.int 6])=some (.bl true):=rfl;have hp:0<2^n:=aLa (by decide);have S:Stg n [wh]:=⟨fun s hs=>by rw[aKm.mp hs,C.wg];lia,fun s hs=>by rw[aKm.mp hs];exact C.wr,by simp⟩;have Cv:Cov n [wh]:=BI C.wg (by simp);have fa:=rJ h6 W S.sts Cv;obtain⟨sl,sr⟩:=xA W S Cv;refine⟨sbL n w [wh],[wh],?_,⟨h1,h6,C.tb,C.wl,C.wx,sl,sr,S,by simp⟩⟩;unfold dN gP gQ gR gS gT;simp only[rSeq_at,rIf_at,rNext_at,rSet_at,rRet_at,pOr_at,pAnd_at,fB_at,f1_at,f2_at,fC_at,fCall_at,fVar_at,fLst_at,fTup_at,aCons_at,aNil_at,List.set,zz0,zz1,jn,zz2,zz3,isB_bl,if_true,aJ4,if_false,oList_lst,gX,aK3,aK6,aLe,Nat.reduceAdd,hc4,outT_rt,e0,e1,e3,e5,e6,ein,fa]
theorem aG4 (h1:1<=n) (h6:n<=6) (C:C9 n ns 5 t w x wh):∃ sh st,(dN [some (.lst (tI ns)),some (.int (n:Int)),some (.int 5),some (.lst (tI w)),some (.lst (tI t)),some (.lst (tP tpS [wh])),some o,some (.lst (tX x)),some (.lst (tP tpS [wh])),none]).bind bC=some (.lst [.lst (tI t),.lst (tI w),.lst (sh.map tF),.lst (tP tpS st)])/\Cg n t w sh st:=by
 have hc4:(4:Nat)<=cap:=by decide
 have W:=mL C.wl C.wx;have e0:oEq (.int 5) (.int 0)=some (.bl false):=rfl;have e1:oEq (.int 5) (.int 1)=some (.bl false):=rfl;have e3:oEq (.int 5) (.int 3)=some (.bl false):=rfl;have e5:oEq (.int 5) (.int 5)=some (.bl true):=rfl;have e6:oEq (.int 5) (.int 6)=some (.bl false):=rfl;have ein:oIn (.int 5) (.tup [.int 0,.int 1,.int 4,.int 6])=some (.bl false):=rfl;obtain⟨st,es,S,hne⟩:=FF h1 h6 C.xl C.xb W false;refine⟨x.map fun i=>(i,1),st,?_,⟨h1,h6,C.tb,C.wl,C.wx,by rw[aK5];exact C.xl,EM C.xb,S,hne⟩⟩;rw[EL] at es ⊢;unfold dN gP gQ gR gS gT;simp only[rSeq_at,rIf_at,rNext_at,rSet_at,rRet_at,pOr_at,pAnd_at,fB_at,f1_at,f2_at,fC_at,fCall_at,fVar_at,fLst_at,fTup_at,aCons_at,aNil_at,List.set,zz0,zz1,jn,zz2,zz3,isB_bl,if_true,aJ4,if_false,oList_lst,gX,aK3,aK6,aLe,Nat.reduceAdd,hc4,outT_rt,e0,e1,e3,e5,e6,ein,es]
theorem aG5 (h1:1<=n) (h6:n<=6) (C:C9 n ns 6 t w x wh):∃ sh st,(dN [some (.lst (tI ns)),some (.int (n:Int)),some (.int 6),some (.lst (tI w)),some (.lst (tI t)),some (.lst (tP tpS [wh])),some o,some (.lst (tX x)),some (.lst (tP tpS [wh])),none]).bind bC=some (.lst [.lst (tI t),.lst (tI w),.lst (sh.map tF),.lst (tP tpS st)])/\Cg n t w sh st/\kF n t w sh st:=by
 have hc4:(4:Nat)<=cap:=by decide
 have W:=mL C.wl C.wx;have e0:oEq (.int 6) (.int 0)=some (.bl false):=rfl;have e1:oEq (.int 6) (.int 1)=some (.bl false):=rfl;have e3:oEq (.int 6) (.int 3)=some (.bl false):=rfl;have e5:oEq (.int 6) (.int 5)=some (.bl false):=rfl;have e6:oEq (.int 6) (.int 6)=some (.bl true):=rfl;have ein:oIn (.int 6) (.tup [.int 0,.int 1,.int 4,.int 6])=some (.bl true):=rfl;have F:=C.fal (by decide);obtain⟨L,hL,hl⟩:=HL F;have eL:=FG F hL hl;rw[MW] at eL;have S:=MV F hL hl;have hp:0<2^n:=aLa (by decide);have G:=CI (AJ (t:=t) (w:=w) L 0 hp hL);have Cv:=yC h1 S.sts G;have fa:=rJ h6 W S.sts Cv;obtain⟨sl,sr⟩:=xA W S Cv;have hne:stL t w 0 L≠[]:=fun z=>by
  have:=G.2;rw[z] at this;have:0=2^n-1:=this;have hs2:2<=2^n:=aKw (by decide:2<=2^1) (aL8 (by decide) h1);lia
 have al:=MU F hL hl ⟨sl,fun y hy=>(sr y hy).rf (by decide) (by decide)⟩;refine⟨sbL n w (stL t w 0 L),stL t w 0 L,?_,⟨h1,h6,C.tb,C.wl,C.wx,sl,sr,S,hne⟩,al⟩;unfold dN gP gQ gR gS gT;simp only[rSeq_at,rIf_at,rNext_at,rSet_at,rRet_at,pOr_at,pAnd_at,fB_at,f1_at,f2_at,fC_at,fCall_at,fVar_at,fLst_at,fTup_at,aCons_at,aNil_at,List.set,zz0,zz1,jn,zz2,zz3,isB_bl,if_true,aJ4,if_false,oList_lst,gX,aK3,aK6,aLe,Nat.reduceAdd,hc4,outT_rt,e0,e1,e3,e5,e6,ein,eL,fa]
end
theorem OT (ns:List Int) (hn:ns.length<=63) {n:Nat}(h1:1<=n) (h6:n<=6) {k:Int}(k0:0<=k) (k7:k<7):∃ t w sh st,jW [.lst (tI ns),.int (n:Int),.int k]=some (.lst [.lst (tI t),.lst (tI w),.lst (sh.map tF),.lst (tP tpS st)])/\Cg n t w sh st/\(k=0\/k=6->kF n t w sh st):=by
 obtain⟨t,w,x,o,wh,er,C⟩:=SS ns hn h1 h6 k;have hk:k=0\/k=1\/k=2\/k=3\/k=4\/k=5\/k=6:=by lia
 rcases hk with rfl | rfl | rfl | rfl | rfl | rfl | rfl
 ·obtain⟨sh,st,e,G,A⟩:=aFz (o:=o) h1 h6 C
  exact⟨t,w,sh,st,by rw[mP,er];exact e,G,fun _=>A⟩
 ·obtain⟨sh,st,e,G⟩:=aG0 (o:=o) h1 h6 C
  exact⟨t,w,sh,st,by rw[mP,er];exact e,G,fun z=>by lia⟩
 ·obtain⟨sh,st,e,G⟩:=aG1 (o:=o) h1 h6 C
  exact⟨t,w,sh,st,by rw[mP,er];exact e,G,fun z=>by lia⟩
 ·obtain⟨sh,st,e,G⟩:=aG2 (o:=o) h1 h6 C
  exact⟨t,w,sh,st,by rw[mP,er];exact e,G,fun z=>by lia⟩
 ·obtain⟨sh,st,e,G⟩:=aG3 (o:=o) h1 h6 C
  exact⟨t,w,sh,st,by rw[mP,er];exact e,G,fun z=>by lia⟩
 ·obtain⟨sh,st,e,G⟩:=aG4 (o:=o) h1 h6 C
  exact⟨t,w,sh,st,by rw[mP,er];exact e,G,fun z=>by lia⟩
 ·obtain⟨sh,st,e,G,A⟩:=aG5 (o:=o) h1 h6 C
  exact⟨t,w,sh,st,by rw[mP,er];exact e,G,fun _=>A⟩
def gR1:Rho->Option Out:=
 aJ 4 (f2 (f2 (aI (aC (aA 0) (aC (fC (.int 140)) aF)) aT) (fC (.int 3)) aY) (fC (.int 8)) aS)
def gR2:Rho->Option Out:=
 aJ 5 (f2 (f2 (aI (aC (aA 0) (aC (fC (.int 141)) aF)) aT) (fC (.int 5)) aY) (aI (aC (aA 3) aF) bS) aS)
def gR3:Rho->Option Out:=
 aJ 6 (f2 (f2 (aI (aC (aA 0) (aC (fC (.int 142)) aF)) aT) (fC (.int 7)) aY) (aI (aC (aA 2) aF) bS) aS)
def gR4:Rho->Option Out:=
 aJ 7 (f2 (f2 (aI (aC (aA 0) (aC (fC (.int 143)) aF)) aT) (fC (.int 3)) aY) (aI (aC (aA 2) aF) bS) aS)
def gR5:Rho->Option Out:=
 aJ 8 (f1 (f2 (cO (aC (bP (aC (fC (.int 1)) (aC (fC (.int 1)) aF))) (aC (bP (aC (f1 (fC (.int 1)) dJ) (aC (fC (.int 1)) aF))) (aC (bP (aC (fC (.int 1)) (aC (fC (.int 3)) aF))) (aC (bP (aC (f2 (fC (.int 10)) (fC (.int 50)) eF) (aC (fC (.int 1)) aF))) aF))))) (f2 (f2 (aI (aC (aA 0) (aC (fC (.int 144)) aF)) aT) (fC (.int 5)) aY) (fC (.int 4)) aS) oIx) aN)
def gR6:Rho->Option Out:=
 rIf (fB (f2 (aA 4) (fC (.int 0)) oEq)) (aH (yY 3)
  aQ) aQ
def gR7:Rho->Option Out:=
 rIf (fB (f2 (aA 4) (fC (.int 1)) oEq)) (aH (cY 3 (aA 5) (bP (aC (f1 (f2 (f2 (aA 3) (aA 5) oIx) (fC (.int 0)) oIx) aN) (aC (f1 (aI (aC (f2 (f2 (aA 3) (aA 5) oIx) (fC (.int 1)) oIx) (aC (aA 8) aF)) eU) aN) aF))))
  aQ) aQ
def gR8:Rho->Option Out:=
 rIf (fB (f2 (aA 4) (fC (.int 2)) oEq)) (aH (cY 3 (aA 5) (bP (aC (f2 (f2 (f2 (aA 3) (aA 5) oIx) (fC (.int 0)) oIx) (f2 (fC (.int 1)) (aA 6) cX) yR) (aC (f1 (f2 (f2 (aA 3) (aA 5) oIx) (fC (.int 1)) oIx) aN) aF))))
  aQ) aQ
def gR9:Rho->Option Out:=
 rIf (fB (f2 (aA 4) (fC (.int 3)) oEq)) (aH (zA 3 (aA 5))
  aQ) aQ
def WR:Rho->Option Out:=
 rIf (fB (f2 (aA 4) (fC (.int 4)) oEq)) (aH (pC 3 (aA 5) (f1 (f2 (aA 3) (aA 5) oIx) aN))
  aQ) aQ
def WS:Rho->Option Out:=
 rIf (fB (f2 (aA 4) (fC (.int 5)) oEq)) (aH (cY 2 (aA 6) (f1 (aI (aC (f2 (aA 2) (aA 6) oIx) (aC (aA 8) aF)) eU) aN))
  aQ) aQ
def BY:Rho->Option Out:=
 rIf (fB (f2 (aA 4) (fC (.int 6)) oEq)) (aH (aJ 9 (f1 (f2 (aA 2) (aA 6) oIx) aN))
  (aH (cY 2 (aA 6) (f1 (f2 (aA 2) (aA 7) oIx) aN))
  (aH (cY 2 (aA 7) (f1 (aA 9) aN))
  aQ))) aQ
def WT:Rho->Option Out:=
 rIf (fB (f2 (aA 4) (fC (.int 7)) oEq)) (aH (cY 1 (aA 6) (f2 (f2 (aA 1) (aA 6) oIx) (fC (.int 1)) cA))
  aQ) aQ
def WU:Rho->Option Out:=
 aQ
def dO:Rho->Option Out:=aH gR6 (aH gR7 (aH gR8 (aH gR9 (aH WR (aH WS (aH BY (aH WT (WU))))))))
theorem WW:vE=aH gR1 (aH gR2 (aH gR3 (aH gR4 (aH gR5 (dO))))):=rfl
theorem DR {a d:Fc}(ha:Rn 900 60 a) (hd:Rn 200 10 d):0<a.2*d.2/\(a.2*d.2).natAbs<2^70/\Rf (frI (a.1*d.2+d.1*a.2) (a.2*d.2)):=by
 have p:=Int.mul_pos ha.pos hd.pos;have k1:(a.1*d.2).natAbs<=2^910:=by
  rw[aJl,show 910=900+10 from rfl,Nat.pow_add];exact aL2 (aKu ha.ty) (aKu hd.tz)
 have k2:(d.1*a.2).natAbs<=2^910:=by
  rw[aJl];refine aKw (aL2 (aKu hd.ty) (aKu ha.tz)) ?_;rw[<- Nat.pow_add];exact aL8 (by decide) (by decide)
 have k3:(a.2*d.2).natAbs<2^70:=by
  rw[aJl,show 70=60+10 from rfl,Nat.pow_add];have h2:0<(2:Nat)^10:=aLa (by decide);exact aKy (Nat.mul_le_mul_left _ (aKu hd.tz)) (Nat.mul_lt_mul_of_pos_right ha.tz h2)
 refine⟨p,k3,aE8 p ?_ (pw k3 (by decide))⟩;have k4:=Int.natAbs_add_le (a.1*d.2) (d.1*a.2);refine aKy (aKw k4 (Nat.add_le_add k1 k2)) ?_;rw[<- Nat.two_mul,<- Nat.pow_succ'];exact aL9 (by decide) (by decide)
theorem FI {a d:Fc}(ha:Rn 900 60 a) (hd:Rn 200 10 d):eU [tF a,tF d]=some (tF (frI (a.1*d.2+d.1*a.2) (a.2*d.2))):=by
 obtain⟨p,k3,_⟩:=DR ha hd;have m1:bD (.int a.1) (.int d.2)=some (.int (a.1*d.2)):=gG (pw ha.ty (by decide)) (pw hd.tz (by decide));have m2:bD (.int d.1) (.int a.2)=some (.int (d.1*a.2)):=gG (pw hd.ty (by decide)) (pw ha.tz (by decide));have m3:bD (.int a.2) (.int d.2)=some (.int (a.2*d.2)):=gG (pw ha.tz (by decide)) (pw hd.tz (by decide));have ft:=rK (t:=a.1*d.2+d.1*a.2) (b:=a.2*d.2) p (pw k3 (by decide));rw[xF] at ft;rw[EV];unfold sT;simp only[rRet_at,f1_at,f2_at,fVar_at,fC_at,fCall_at,aCons_at,aNil_at,zz0,zz1,jn,zz2,zz3,sE,nY,m1,m2,m3,oAdd_int,ft,dC,outT_rt]
theorem aD7 {x0:Option T}{a b c:List T}{r:Rho}(ha:bF a=true) (hb:bF b=true) (hc:bF c=true):fO (x0::some (.lst a)::some (.lst b)::some (.lst c)::r) [1,2,3]=some [.lst a,.lst b,.lst c]:=by
 simp[fO,ha,hb,hc]
theorem EE {sh:List Fc}{h:Nat}(hh:h<sh.length):atI (sh.map tF) (h:Int)=some (tF sh[h]):=jH (by rw[aJx,aIq hh];rfl)
theorem EH {st:List Sp2}{h:Nat}(hh:h<st.length):atI (tP tpS st) (h:Int)=some (.tup (tpS st[h])):=jH (by unfold tP;rw[aJx,aIq hh];rfl)
theorem EG (sh:List Fc) (h:Nat) (y:Fc):(sh.map tF).set h (tF y)=(sh.set h y).map tF:=by rw[List.map_set]
theorem NA (st:List Sp2) (h:Nat) (s:Sp2):(tP tpS st).set h (.tup (tpS s))=tP tpS (st.set h s):=by unfold tP;rw[List.map_set]
theorem AL (st:List Sp2):(tP tpS st).length=st.length:=by unfold tP;rw[aK5]
theorem aFp:tP tpS ([]:List Sp2)=[]:=rfl
theorem IC {α β:Type}(f:α->β):∀ (l:List α) (i:Nat),(l.map f).eraseIdx i=(l.eraseIdx i).map f
 | [],_=>rfl
 | a::l,0=>rfl
 | a::l,i+1=>by rw[aKc,List.eraseIdx_cons_succ,List.eraseIdx_cons_succ,IC f l i,aKc]
theorem kU {α:Type}{P:α->Prop}{l:List α}{i:Nat}{y:α}(h:∀ x∈l,P x) (hy:P y):∀ x∈l.set i y,P x:=fun x hx=>by
 rcases List.mem_or_eq_of_mem_set hx with z | rfl
 ·exact h x z
 ·exact hy
structure Cc (n:Nat) (w:List Int) (sh:List Fc) (st:List Sp2):Prop where
 ws:Wts n w
 ss:Shs n sh
 ts:Sts n st
theorem Cg.cc {n:Nat}{t w:List Int}{sh:List Fc}{st:List Sp2}(G:Cg n t w sh st):Cc n w sh st:=⟨mL G.wl G.wx,⟨G.sl,fun y hy=>(G.sr y hy).rf (by decide) (by decide)⟩,G.ts.sts⟩
def gH (o:Option Out):Option (List T):=o.bind fun o=>(match o with | .nx ρ=>fO ρ [1,2,3] | _=>none)
theorem aCn (ρ:Rho):gH (some (.nx ρ))=fO ρ [1,2,3]:=rfl
theorem gsk {r:Rho->Option Out}{ρ:Rho}{j k:Int}(h:ρ[4]?=some (some (.int k))) (hk:(k == j)=false):rIf (fB (f2 (aA 4) (fC (.int j)) oEq)) r aQ ρ=some (.nx ρ):=by
 simp only[rIf_at,fB_at,f2_at,fVar_at,fC_at,h,jn,zz2,oEq_int,hk,isB_bl,aJ4,if_false,rNext_at]
theorem gdo {r:Rho->Option Out}{ρ ρ':Rho}{k:Int}(h:ρ[4]?=some (some (.int k))) (e:r ρ=some (.nx ρ')):rIf (fB (f2 (aA 4) (fC (.int k)) oEq)) (aH r aQ) aQ ρ=some (.nx ρ'):=by
 simp only[rIf_at,fB_at,f2_at,fVar_at,fC_at,h,jn,zz2,oEq_int,beq_self_eq_true,isB_bl,if_true,rSeq_at,e,rNext_at]
section
variable {n:Nat}{N:T}{t w:List Int}{sh:List Fc}{st:List Sp2}{a h q:Nat}{d:Fc}
def gs (N:T) (w:List Int) (sh:List Fc) (u:List T) (k:Int) (a h q:Nat) (d:Fc) (x:Option T):Rho:=[some N,some (.lst (tI w)),some (.lst (sh.map tF)),some (.lst u),some (.int k),some (.int (a:Int)),some (.int (h:Int)),some (.int (q:Int)),some (tF d),x]
theorem kL (N:T) (w:List Int) (sh:List Fc) (st:List Sp2) (k:Int) (a h q:Nat) (d:Fc) (x:Option T):gH (some (.nx (gs N w sh (tP tpS st) k a h q d x)))=some [.lst (tI w),.lst (sh.map tF),.lst (tP tpS st)]:=by
 rw[aCn];exact aD7 (flat_tI' w) (tU sh) (tV st)
theorem MY (s:Sp2):oIx (.tup (tpS s)) (.int 0)=some (.int (s.1:Int)):=rfl
theorem MZ (s:Sp2):oIx (.tup (tpS s)) (.int 1)=some (tF s.2):=rfl
theorem MX {st:List Sp2}{a:Nat}(ha:a<st.length):ixN (tP tpS st).length (a:Int)=some a:=by rw[AL,nU (by lia) (by lia)];simp
theorem EF {sh:List Fc}{h:Nat}(hh:h<sh.length):ixN (sh.map tF).length (h:Int)=some h:=by rw[aK5,nU (by lia) (by lia)];simp
theorem SX (G:Cg n t w sh st) (ha:a<st.length) (hh:h<n) (hq:q<n) (hd:Rn 200 10 d):∃ w' sh' st',gH (dO (gs N w sh (tP tpS st) 0 a h q d none))=some [.lst (tI w'),.lst (sh'.map tF),.lst (tP tpS st')]/\Cc n w' sh' st':=by
 have C:=G.cc;refine⟨w,sh,[],?_,⟨C.ws,C.ss,⟨(fun s hs=>by cases hs),(fun s hs=>by cases hs),aLf _⟩⟩⟩
 ·have run:dO (gs N w sh (tP tpS st) 0 a h q d none)=some (.nx (gs N w sh (tP tpS []) 0 a h q d none)):=by
   refine Eq.trans (bM (gdo rfl (ρ':=gs N w sh (tP tpS []) 0 a h q d none) ?_)) ?_
   ·unfold gs
    simp only[rClr_at,fVar_at,List.set,zz0,zz1,jn,zz2,zz3,aFp]
   iterate 7 refine Eq.trans (bM (gsk rfl rfl)) ?_
   rfl
  rw[run,kL]
theorem SY (G:Cg n t w sh st) (ha:a<st.length) (hh:h<n) (hq:q<n) (hd:Rn 200 10 d):∃ w' sh' st',gH (dO (gs N w sh (tP tpS st) 1 a h q d none))=some [.lst (tI w'),.lst (sh'.map tF),.lst (tP tpS st')]/\Cc n w' sh' st':=by
 have C:=G.cc;have hc2:(2:Nat)<=cap:=by decide
 have sa:=EH ha;have ia:=MX ha;have hsa:=aK1 ha;have ra:=(G.ts.rn _ hsa).mono (show 800<=900 by decide) (show 40<=60 by decide);have pl:=FI ra hd;have R:=(DR ra hd).2.2;generalize hy:frI (st[a].2.1*d.2+d.1*st[a].2.2) (st[a].2.2*d.2)=y at pl R;have se:(tP tpS st).set a (.tup [.int (st[a].1:Int),tF y])=tP tpS (st.set a (st[a].1,y)):=NA st a (st[a].1,y);refine⟨w,sh,st.set a (st[a].1,y),?_,⟨C.ws,C.ss,⟨kU C.ts.lt (C.ts.lt st[a] hsa),kU C.ts.rf R,by rw[aK9];exact C.ts.len⟩⟩⟩
 ·have run:dO (gs N w sh (tP tpS st) 1 a h q d none)=some (.nx (gs N w sh (tP tpS (st.set a (st[a].1,y))) 1 a h q d none)):=by
   refine Eq.trans (bM (gsk rfl rfl)) ?_;refine Eq.trans (bM (gdo rfl (ρ':=gs N w sh (tP tpS (st.set a (st[a].1,y))) 1 a h q d none) ?_)) ?_
   ·unfold gs
    simp only[rPut_at,fTup_at,aCons_at,aNil_at,aK3,aK6,aLe,Nat.reduceAdd,hc2,if_true,f1_at,f2_at,fC_at,fCall_at,oIx_lst,fVar_at,List.set,zz0,zz1,jn,zz2,zz3,sa,MY,MZ,gScal_int,dC,pl,ia,se]
   iterate 6 refine Eq.trans (bM (gsk rfl rfl)) ?_
   rfl
  rw[run,kL]
theorem SZ (G:Cg n t w sh st) (ha:a<st.length) (hh:h<n) (hq:q<n) (hd:Rn 200 10 d):∃ w' sh' st',gH (dO (gs N w sh (tP tpS st) 2 a h q d none))=some [.lst (tI w'),.lst (sh'.map tF),.lst (tP tpS st')]/\Cc n w' sh' st':=by
 have C:=G.cc;have hc2:(2:Nat)<=cap:=by decide
 have sa:=EH ha;have ia:=MX ha;have hsa:=aK1 ha;have h6:=G.six;have h64:=eX h6;have sl:=kW (b:=h) (by lia);have hl:=C.ts.lt _ hsa;have hp:2^h<2^n:=aL9 (by decide) hh;have bx:=RZ (a:=st[a].1) (b:=2^h) (by lia) (by lia);have se:(tP tpS st).set a (.tup [.int ((st[a].1 ^^^ 2^h:Nat):Int),tF st[a].2])=tP tpS (st.set a (st[a].1 ^^^ 2^h,st[a].2)):=NA st a (st[a].1 ^^^ 2^h,st[a].2);refine⟨w,sh,st.set a (st[a].1 ^^^ 2^h,st[a].2),?_,⟨C.ws,C.ss,⟨kU C.ts.lt (Nat.xor_lt_two_pow hl hp),kU C.ts.rf (C.ts.rf st[a] hsa),by rw[aK9];exact C.ts.len⟩⟩⟩
 ·have run:dO (gs N w sh (tP tpS st) 2 a h q d none)=some (.nx (gs N w sh (tP tpS (st.set a (st[a].1 ^^^ 2^h,st[a].2))) 2 a h q d none)):=by
   iterate 2 refine Eq.trans (bM (gsk rfl rfl)) ?_
   refine Eq.trans (bM (gdo rfl (ρ':=gs N w sh (tP tpS (st.set a (st[a].1 ^^^ 2^h,st[a].2))) 2 a h q d none) ?_)) ?_
   ·unfold gs
    simp only[rPut_at,fTup_at,aCons_at,aNil_at,aK3,aK6,aLe,Nat.reduceAdd,hc2,if_true,f1_at,f2_at,fC_at,oIx_lst,fVar_at,List.set,zz0,zz1,jn,zz2,zz3,sa,MY,MZ,dC,sl,oXor_int,bx,ia,se]
   iterate 5 refine Eq.trans (bM (gsk rfl rfl)) ?_
   rfl
  rw[run,kL]
theorem TB (G:Cg n t w sh st) (ha:a<st.length) (hh:h<n) (hq:q<n) (hd:Rn 200 10 d):∃ w' sh' st',gH (dO (gs N w sh (tP tpS st) 3 a h q d none))=some [.lst (tI w'),.lst (sh'.map tF),.lst (tP tpS st')]/\Cc n w' sh' st':=by
 have C:=G.cc;have hcd:(0:Int)<=(a:Int)/\(a:Int)<((tP tpS st).length:Int)/\(a:Int)<2^63:=⟨by lia,by rw[AL];lia,by have:=C.ts.len;lia⟩;have se:(tP tpS st).eraseIdx (a:Int).toNat=tP tpS (st.eraseIdx a):=by unfold tP;rw[Int.toNat_natCast,IC]
 refine⟨w,sh,st.eraseIdx a,?_,⟨C.ws,C.ss,⟨fun s hs=>C.ts.lt s (List.mem_of_mem_eraseIdx hs),fun s hs=>C.ts.rf s (List.mem_of_mem_eraseIdx hs),aKw (List.length_eraseIdx_le st a) C.ts.len⟩⟩⟩
 ·have run:dO (gs N w sh (tP tpS st) 3 a h q d none)=some (.nx (gs N w sh (tP tpS (st.eraseIdx a)) 3 a h q d none)):=by
   iterate 3 refine Eq.trans (bM (gsk rfl rfl)) ?_
   refine Eq.trans (bM (gdo rfl (ρ':=gs N w sh (tP tpS (st.eraseIdx a)) 3 a h q d none) ?_)) ?_
   ·unfold gs
    simp only[rPopI_at,fVar_at,List.set,zz0,zz1,jn,zz2,zz3,if_pos hcd,se]
   iterate 4 refine Eq.trans (bM (gsk rfl rfl)) ?_
   rfl
  rw[run,kL]
theorem TC (G:Cg n t w sh st) (ha:a<st.length) (hh:h<n) (hq:q<n) (hd:Rn 200 10 d):∃ w' sh' st',gH (dO (gs N w sh (tP tpS st) 4 a h q d none))=some [.lst (tI w'),.lst (sh'.map tF),.lst (tP tpS st')]/\Cc n w' sh' st':=by
 have C:=G.cc;have sa:=EH ha;have hsa:=aK1 ha;have hcd:(tP tpS st).length<cap/\(0:Int)<=(a:Int)/\(a:Int)<2^63:=⟨by rw[AL];have:=C.ts.len;unfold cap;lia,by lia,by have:=C.ts.len;lia⟩;have gt:aN (.tup (tpS st[a]))=some (.tup (tpS st[a])):=rfl;have se:bZ (tP tpS st) (a:Int) (.tup (tpS st[a]))=tP tpS (bZ st (a:Int) st[a]):=by unfold tP;exact CN (fun s=>T.tup (tpS s)) st (a:Int) st[a]
 have pm:=CO st (a:Int) st[a];have hm:∀ s∈bZ st (a:Int) st[a],s∈st:=fun s hs=>by
  rcases aJ0.mp (pm.mem_iff.mp hs) with rfl | z
  ·exact hsa
  ·exact z
 refine⟨w,sh,bZ st (a:Int) st[a],?_,⟨C.ws,C.ss,⟨fun s hs=>C.ts.lt s (hm s hs),fun s hs=>C.ts.rf s (hm s hs),by rw[pm.length_eq,aK3];exact Nat.succ_le_succ G.ts.len⟩⟩⟩
 ·have run:dO (gs N w sh (tP tpS st) 4 a h q d none)=some (.nx (gs N w sh (tP tpS (bZ st (a:Int) st[a])) 4 a h q d none)):=by
   iterate 4 refine Eq.trans (bM (gsk rfl rfl)) ?_
   refine Eq.trans (bM (gdo rfl (ρ':=gs N w sh (tP tpS (bZ st (a:Int) st[a])) 4 a h q d none) ?_)) ?_
   ·unfold gs
    simp only[rIns_at,f1_at,f2_at,oIx_lst,fVar_at,List.set,zz0,zz1,jn,zz2,zz3,sa,gt,if_pos hcd,se]
   iterate 3 refine Eq.trans (bM (gsk rfl rfl)) ?_
   rfl
  rw[run,kL]
theorem TD (G:Cg n t w sh st) (ha:a<st.length) (hh:h<n) (hq:q<n) (hd:Rn 200 10 d):∃ w' sh' st',gH (dO (gs N w sh (tP tpS st) 5 a h q d none))=some [.lst (tI w'),.lst (sh'.map tF),.lst (tP tpS st')]/\Cc n w' sh' st':=by
 have C:=G.cc;have hhs:h<sh.length:=by rw[G.sl];exact hh
 have s1:=EE hhs;have ih:=EF hhs;have ra:=G.sr _ (aK1 hhs);have pl:=FI ra hd;have R:=(DR ra hd).2.2;generalize hy:frI (sh[h].1*d.2+d.1*sh[h].2) (sh[h].2*d.2)=y at pl R;have se:=EG sh h y;refine⟨w,sh.set h y,st,?_,⟨C.ws,⟨by rw[aK9];exact C.ss.len,kU C.ss.rf R⟩,C.ts⟩⟩
 ·have run:dO (gs N w sh (tP tpS st) 5 a h q d none)=some (.nx (gs N w (sh.set h y) (tP tpS st) 5 a h q d none)):=by
   iterate 5 refine Eq.trans (bM (gsk rfl rfl)) ?_
   refine Eq.trans (bM (gdo rfl (ρ':=gs N w (sh.set h y) (tP tpS st) 5 a h q d none) ?_)) ?_
   ·unfold gs
    simp only[rPut_at,f1_at,f2_at,fCall_at,aCons_at,aNil_at,oIx_lst,fVar_at,List.set,zz0,zz1,jn,zz2,zz3,s1,pl,dC,ih,se]
   iterate 2 refine Eq.trans (bM (gsk rfl rfl)) ?_
   rfl
  rw[run,kL]
theorem TF (G:Cg n t w sh st) (ha:a<st.length) (hh:h<n) (hq:q<n) (hd:Rn 200 10 d):∃ w' sh' st',gH (dO (gs N w sh (tP tpS st) 6 a h q d none))=some [.lst (tI w'),.lst (sh'.map tF),.lst (tP tpS st')]/\Cc n w' sh' st':=by
 have C:=G.cc;have hhs:h<sh.length:=by rw[G.sl];exact hh
 have hqs:q<sh.length:=by rw[G.sl];exact hq
 have s1:=EE hhs;have s2:=EE hqs;have ih:=EF hhs;have se:=EG sh h sh[q];have se2:=EG (sh.set h sh[q]) q sh[h];have iq:=EF (sh:=sh.set h sh[q]) (h:=q) (by rw[aK9];exact hqs);have e6:oEq (.int 6) (.int 6)=some (.bl true):=rfl;refine⟨w,(sh.set h sh[q]).set q sh[h],st,?_,⟨C.ws,⟨by rw[aK9,aK9];exact C.ss.len,kU (kU C.ss.rf (C.ss.rf _ (aK1 hqs))) (C.ss.rf _ (aK1 hhs))⟩,C.ts⟩⟩
 ·have run:dO (gs N w sh (tP tpS st) 6 a h q d none)=some (.nx (gs N w ((sh.set h sh[q]).set q sh[h]) (tP tpS st) 6 a h q d (some (tF sh[h])))):=by
   have e:BY (gs N w sh (tP tpS st) 6 a h q d none)=some (.nx (gs N w ((sh.set h sh[q]).set q sh[h]) (tP tpS st) 6 a h q d (some (tF sh[h])))):=by
    unfold gs BY;simp only[rIf_at,rNext_at,fB_at,fC_at,e6,isB_bl,if_true,rSeq_at,rSet_at,rPut_at,f1_at,f2_at,oIx_lst,fVar_at,List.set,zz0,zz1,jn,zz2,zz3,s1,s2,dC,ih,se,iq,se2]
   iterate 6 refine Eq.trans (bM (gsk rfl rfl)) ?_
   refine Eq.trans (bM e) ?_;refine Eq.trans (bM (gsk rfl rfl)) ?_
   rfl
  rw[run,kL]
theorem TH (G:Cg n t w sh st) (ha:a<st.length) (hh:h<n) (hq:q<n) (hd:Rn 200 10 d):∃ w' sh' st',gH (dO (gs N w sh (tP tpS st) 7 a h q d none))=some [.lst (tI w'),.lst (sh'.map tF),.lst (tP tpS st')]/\Cc n w' sh' st':=by
 have C:=G.cc;have hhw:h<w.length:=by rw[G.wl];exact hh
 have a1:atI (tI w) (h:Int)=some (.int (w.getD h 0)):=dG hhw;have iw:ixN (tI w).length (h:Int)=some h:=by rw[tI_length,nU (by lia) (by lia)];simp
 have hb:=G.wx _ (nR hhw);refine⟨w.set h (w.getD h 0+1),sh,st,?_,⟨⟨by rw[aK9];exact C.ws.len,kU C.ws.bd ⟨by lia,by lia⟩⟩,C.ss,C.ts⟩⟩
 ·have run:dO (gs N w sh (tP tpS st) 7 a h q d none)=some (.nx (gs N (w.set h (w.getD h 0+1)) sh (tP tpS st) 7 a h q d none)):=by
   iterate 7 refine Eq.trans (bM (gsk rfl rfl)) ?_
   refine Eq.trans (bM (gdo rfl (ρ':=gs N (w.set h (w.getD h 0+1)) sh (tP tpS st) 7 a h q d none) ?_)) ?_
   ·unfold gs
    simp only[rPut_at,f2_at,fC_at,oIx_lst,fVar_at,List.set,zz0,zz1,jn,zz2,zz3,a1,oAdd_int,iw,xG]
   rfl
  rw[run,kL]
end
theorem WK {P:Int}(hP:P.natAbs<2^200) {k:Int}(h0:0<=k) (h:k<4):∃ d:Fc,oIx (.lst [tF (1,1),tF (-1,1),tF (1,3),tF (P,1)]) (.int k)=some (tF d)/\Rn 200 10 d:=by
 have hk:k=0\/k=1\/k=2\/k=3:=by lia
 rcases hk with rfl | rfl | rfl | rfl
 ·exact⟨(1,1),rfl,Int.one_pos,nP 1,show (1:Int).natAbs<2^200 by decide,show (1:Int).natAbs<2^10 by decide⟩
 ·exact⟨(-1,1),rfl,Int.one_pos,nP (-1),show (-1:Int).natAbs<2^200 by decide,show (1:Int).natAbs<2^10 by decide⟩
 ·exact⟨(1,3),rfl,show (0:Int)<3 by decide,by decide +kernel,show (1:Int).natAbs<2^200 by decide,show (3:Int).natAbs<2^10 by decide⟩
 ·exact⟨(P,1),rfl,Int.one_pos,nP P,hP,show (1:Int).natAbs<2^10 by decide⟩
theorem OU (ns:List Int) {n:Nat}{t w:List Int}{sh:List Fc}{st:List Sp2}(G:Cg n t w sh st):∃ w' sh' st',jD [.lst (tI ns),.lst (tI w),.lst (sh.map tF),.lst (tP tpS st)]=some [.lst (tI w'),.lst (sh'.map tF),.lst (tP tpS st')]/\Cc n w' sh' st':=by
 have d3:∀ i:Int,aY (.int i) (.int 3)=some (.int (i / 3)):=fun i=>cP (by decide) (by decide);have d5:∀ i:Int,aY (.int i) (.int 5)=some (.int (i / 5)):=fun i=>cP (by decide) (by decide);have d7:∀ i:Int,aY (.int i) (.int 7)=some (.int (i / 7)):=fun i=>cP (by decide) (by decide);have f140:aT [.lst (tI ns),.int 140]=some (.int (aP ns 140)):=cU ns (k:=140) (by decide);have f141:aT [.lst (tI ns),.int 141]=some (.int (aP ns 141)):=cU ns (k:=141) (by decide);have f142:aT [.lst (tI ns),.int 142]=some (.int (aP ns 142)):=cU ns (k:=142) (by decide);have f143:aT [.lst (tI ns),.int 143]=some (.int (aP ns 143)):=cU ns (k:=143) (by decide);have f144:aT [.lst (tI ns),.int 144]=some (.int (aP ns 144)):=cU ns (k:=144) (by decide);have m8:∀ i:Int,aS (.int i) (.int 8)=some (.int (i%8)):=fun i=>bU (by decide);have m4:∀ i:Int,aS (.int i) (.int 4)=some (.int (i%4)):=fun i=>bU (by decide);have hn:=G.one;have hsl:0<st.length:=List.length_pos_iff.mpr G.ne;have md:∀ (i:Int) (m:Nat),0<m->∃ q:Nat,q<m/\aS (.int i) (.int (m:Int))=some (.int (q:Int)):=fun i m hm=>by
  have a0:=aJc i (show (m:Int)≠0 by lia);have a1:=aJb i (show (0:Int)<(m:Int) by lia);exact⟨(i%(m:Int)).toNat,by lia,by rw[bU (by lia),Int.toNat_of_nonneg a0]⟩
 obtain⟨a,ha,ma⟩:=md (aP ns 141 / 5) st.length hsl;obtain⟨h,hh,mh⟩:=md (aP ns 142 / 7) n (by lia);obtain⟨q,hq,mq⟩:=md (aP ns 143 / 3) n (by lia);obtain⟨P,hP⟩:∃ P:Int,P=10^50:=⟨_,rfl⟩;have p50:eF (.int 10) (.int 50)=some (.int P):=by rw[hP];exact uS 10 50 (by decide +kernel)
 have hPb:P.natAbs<2^200:=by rw[hP];decide
 have w0:=aJc (aP ns 144 / 5) (show (4:Int)≠0 by decide);have w1:=aJb (aP ns 144 / 5) (show (0:Int)<4 by decide);obtain⟨d,ed,hd⟩:=WK hPb w0 w1;have k0:=aJc (aP ns 140 / 3) (show (8:Int)≠0 by decide);have k1:=aJb (aP ns 140 / 3) (show (0:Int)<8 by decide);have mk:=m8 (aP ns 140 / 3);generalize aP ns 140 / 3%8=k at k0 k1 mk;have mz:=m4 (aP ns 144 / 5);generalize aP ns 144 / 5%4=z at ed mz;have hc2:(2:Nat)<=cap:=by decide
 have hc4:(4:Nat)<=cap:=by decide
 have neg1:dJ (.int 1)=some (.int (-1)):=rfl;have ed':oIx (.lst [.tup [.int 1,.int 1],.tup [.int (-1),.int 1],.tup [.int 1,.int 3],.tup [.int P,.int 1]]) (.int z)=some (tF d):=ed;have q1:gR1 [some (.lst (tI ns)),some (.lst (tI w)),some (.lst (sh.map tF)),some (.lst (tP tpS st)),none,none,none,none,none,none]=some (.nx [some (.lst (tI ns)),some (.lst (tI w)),some (.lst (sh.map tF)),some (.lst (tP tpS st)),some (.int k),none,none,none,none,none]):=by
  unfold gR1;simp only[rSet_at,f2_at,fC_at,fCall_at,fVar_at,aCons_at,aNil_at,List.set,zz0,zz1,jn,zz2,zz3,f140,d3,mk]
 have q2:gR2 [some (.lst (tI ns)),some (.lst (tI w)),some (.lst (sh.map tF)),some (.lst (tP tpS st)),some (.int k),none,none,none,none,none]=some (.nx [some (.lst (tI ns)),some (.lst (tI w)),some (.lst (sh.map tF)),some (.lst (tP tpS st)),some (.int k),some (.int (a:Int)),none,none,none,none]):=by
  unfold gR2;simp only[rSet_at,f2_at,fC_at,fCall_at,fVar_at,aCons_at,aNil_at,List.set,zz0,zz1,jn,zz2,zz3,f141,d5,oLen_lst,AL,ma]
 have q3:gR3 [some (.lst (tI ns)),some (.lst (tI w)),some (.lst (sh.map tF)),some (.lst (tP tpS st)),some (.int k),some (.int (a:Int)),none,none,none,none]=some (.nx [some (.lst (tI ns)),some (.lst (tI w)),some (.lst (sh.map tF)),some (.lst (tP tpS st)),some (.int k),some (.int (a:Int)),some (.int (h:Int)),none,none,none]):=by
  unfold gR3;simp only[rSet_at,f2_at,fC_at,fCall_at,fVar_at,aCons_at,aNil_at,List.set,zz0,zz1,jn,zz2,zz3,f142,d7,oLen_lst,aK5,G.sl,mh]
 have q4:gR4 [some (.lst (tI ns)),some (.lst (tI w)),some (.lst (sh.map tF)),some (.lst (tP tpS st)),some (.int k),some (.int (a:Int)),some (.int (h:Int)),none,none,none]=some (.nx [some (.lst (tI ns)),some (.lst (tI w)),some (.lst (sh.map tF)),some (.lst (tP tpS st)),some (.int k),some (.int (a:Int)),some (.int (h:Int)),some (.int (q:Int)),none,none]):=by
  unfold gR4;simp only[rSet_at,f2_at,fC_at,fCall_at,fVar_at,aCons_at,aNil_at,List.set,zz0,zz1,jn,zz2,zz3,f143,d3,oLen_lst,aK5,G.sl,mq]
 have q5:gR5 [some (.lst (tI ns)),some (.lst (tI w)),some (.lst (sh.map tF)),some (.lst (tP tpS st)),some (.int k),some (.int (a:Int)),some (.int (h:Int)),some (.int (q:Int)),none,none]=some (.nx [some (.lst (tI ns)),some (.lst (tI w)),some (.lst (sh.map tF)),some (.lst (tP tpS st)),some (.int k),some (.int (a:Int)),some (.int (h:Int)),some (.int (q:Int)),some (tF d),none]):=by
  unfold gR5;simp only[rSet_at,fLst_at,fTup_at,f1_at,f2_at,fC_at,fCall_at,fVar_at,aCons_at,aNil_at,List.set,zz0,zz1,jn,zz2,zz3,neg1,p50,aK3,aK6,aLe,Nat.reduceAdd,hc2,hc4,if_true,f144,d5,mz,ed',dC]
 have key:jD [.lst (tI ns),.lst (tI w),.lst (sh.map tF),.lst (tP tpS st)]=gH (dO (gs (.lst (tI ns)) w sh (tP tpS st) k a h q d none)):=by
  rw[NX,WW,bM q1,bM q2,bM q3,bM q4,bM q5]
  rfl
 rw[key];have hk:k=0\/k=1\/k=2\/k=3\/k=4\/k=5\/k=6\/k=7:=by lia
 rcases hk with rfl | rfl | rfl | rfl | rfl | rfl | rfl | rfl
 ·exact SX G ha hh hq hd
 ·exact SY G ha hh hq hd
 ·exact SZ G ha hh hq hd
 ·exact TB G ha hh hq hd
 ·exact TC G ha hh hq hd
 ·exact TD G ha hh hq hd
 ·exact TF G ha hh hq hd
 ·exact TH G ha hh hq hd
def lR1:Rho->Option Out:=
 aJ 1 (f1 (aI (aC (aA 0) aF) jX) aN)
def lR2:Rho->Option Out:=
 aJ 2 (f2 (f2 (aI (aC (aA 0) (aC (fC (.int 146)) aF)) aT) (fC (.int 5)) aY) (fC (.int 7)) aS)
def lR3:Rho->Option Out:=
 aJ 3 (f2 (f2 (f2 (aI (aC (aA 0) (aC (fC (.int 149)) aF)) aT) (fC (.int 3)) aY) (fC (.int 2)) aS) (fC (.int 1)) oEq)
def lR4:Rho->Option Out:=
 yX 4 5 6 7 3 0 (aI (aC (aA 0) (aC (aA 1) (aC (aA 2) aF))) jW) jD
def lR5:Rho->Option Out:=
 aJ 8 (cO (aC (f1 (aI (aC (aA 4) aF) fE) dB) (aC (f1 (aI (aC (aA 5) aF) fE) dB) (aC (f1 (aI (aC (aA 6) aF) fE) dB) (aC (f1 (aI (aC (aA 7) aF) fE) dB) aF)))))
def lR6:Rho->Option Out:=
 aJ 9 (f1 (aI (aC (f2 (aA 8) (fC (.int 0)) oIx) (aC (f2 (aA 8) (fC (.int 1)) oIx) (aC (f2 (aA 8) (fC (.int 2)) oIx) (aC (f2 (aA 8) (fC (.int 3)) oIx) aF)))) jG) aN)
def lR7:Rho->Option Out:=
 rIf (pOr (eG (fT (f1 (aA 9) (uQ "bool")))) (fB (f2 (aA 8) (cO (aC (aA 4) (aC (aA 5) (aC (aA 6) (aC (aA 7) aF))))) oNe))) (aV (fC (.bl false))) aQ
def lR8:Rho->Option Out:=
 rIf (eO (fB (f2 (aA 2) (bP (aC (fC (.int 0)) (aC (fC (.int 6)) aF))) oIn)) (eO (eG (fT (aA 3))) (eG (fT (aA 9))))) (aV (fC (.bl false))) aQ
def lR9:Rho->Option Out:=
 aV (f2 (aA 9) (aI (aC (aA 4) (aC (aA 5) (aC (aA 6) (aC (aA 7) aF)))) jE) oEq)
theorem ZK:wT=aH lR1 (aH lR2 (aH lR3 (aH lR4 (aH lR5 (aH lR6 (aH lR7 (aH lR8 (lR9)))))))):=rfl
theorem rR {x y:T}{xs ys:List T}(h:eqT x y=false):eqT (.lst (x::xs)) (.lst (y::ys))=false:=by
 simp only[G.eqT,G.eqL,h,Bool.false_and]
theorem HS (st:List Sp2):dep (.lst (tP tpS st))<=3:=by
 have:depL (tP tpS st)<=2:=by
  unfold tP
  induction st with
  | nil=>simp[depL]
  | cons x a ih=>
   rw[aKc];show max (dep (.tup (tpS x))) _<=2;have:dep (.tup (tpS x))<=2:=by simp[tpS,tF,dep,depL]
   lia
 show depL _+1<=3;lia
theorem TX (a:List Fc):dep (.lst (a.map tF))<=2:=by
 have:depL (a.map tF)<=1:=by
  induction a with
  | nil=>simp[depL]
  | cons x a ih=>
   rw[aKc];show max (dep (tF x)) _<=1;have:dep (tF x)<=1:=by simp[tF,dep,depL]
   lia
 show depL _+1<=2;lia
theorem TY (st:List Sp2):dep (.lst (tP tpS st))<=60:=aKw (HS st) (by decide)
theorem aAm {n:Nat}{t w:List Int}{sh:List Fc}{st:List Sp2}(Gc:Cg n t w sh st):okC (tI t) (tI w) (sh.map tF) (tP tpS st)=true:=by
 have hp:0<2^n:=aLa (by decide);have h1:=Gc.one;have dw:=xS w;have dt:=xS t;have ds:=BK sh;have dst:=TY st;have k1:=flat_tI' t;have k2:=flat_tI' w;have k3:=tU sh;have k4:=tV st;have un:un4 (tI t) (tI w) (sh.map tF) (tP tpS st)=true:=by
  obtain⟨a,t',rfl⟩:∃ a t',t=a::t':=by
   cases e:t with
   | nil=>have:=Gc.tb.len;rw[e] at this;simp at this;lia
   | cons a r=>exact⟨a,r,rfl⟩
  obtain⟨b,w',rfl⟩:∃ a t',w=a::t':=by
   cases e:w with
   | nil=>have:=Gc.wl;rw[e] at this;simp at this;lia
   | cons a r=>exact⟨a,r,rfl⟩
  obtain⟨c,sh',rfl⟩:∃ a t',sh=a::t':=by
   cases e:sh with
   | nil=>have:=Gc.sl;rw[e] at this;simp at this;lia
   | cons a r=>exact⟨a,r,rfl⟩
  obtain⟨d,st',rfl⟩:∃ a t',st=a::t':=by
   cases e:st with
   | nil=>exact absurd e Gc.ne
   | cons a r=>exact⟨a,r,rfl⟩
  have z:a=0:=Gc.tb.zero;have y:=(Gc.wx b aIs).1;have e1:eqT (.lst (tI (a::t'))) (.lst (tI (b::w')))=false:=rR (show (a == b)=false from by rw[z];exact beq_eq_false_iff_ne.mpr (by lia));have e2:eqT (.lst (tI (a::t'))) (.lst ((c::sh').map tF))=false:=rR rfl;have e3:eqT (.lst (tI (a::t'))) (.lst (tP tpS (d::st')))=false:=rR rfl;have e4:eqT (.lst (tI (b::w'))) (.lst ((c::sh').map tF))=false:=rR rfl;have e5:eqT (.lst (tI (b::w'))) (.lst (tP tpS (d::st')))=false:=rR rfl;have e6:eqT (.lst ((c::sh').map tF)) (.lst (tP tpS (d::st')))=false:=rR (by
   show eqT (.tup [.int c.1,.int c.2]) (.tup [.int (d.1:Int),tF d.2])=false;simp only[tF,G.eqT,G.eqL,Bool.false_and,Bool.and_false])
  unfold un4;rw[e1,e2,e3,e4,e5,e6];rfl
 unfold okC;rw[k1,k2,k3,k4,un,decide_eq_true (show dep (.lst (tI t))<=60 by lia),decide_eq_true (show dep (.lst (tI w))<=60 by lia),decide_eq_true ds,decide_eq_true dst]
 rfl
theorem Cg.cw {n:Nat}{t w w':List Int}{sh sh':List Fc}{st st':List Sp2}(Gc:Cg n t w sh st) (C:Cc n w' sh' st'):Cw n t w' sh' st':=⟨Gc.one,Gc.six,Gc.tb.len,Gc.tb.zero,Gc.tb.bd,C.ws,C.ss,C.ts⟩
theorem WO (sh:List Fc):dB (.lst (sh.map tF))=some (.lst (sh.map tF)):=II (tU sh)
theorem QA (ns:List Int) (h:ns.length<=63):rH [.lst (ns.map T.int)]=some (.bl true):=by
 show rH [.lst (tI ns)]=_;obtain⟨n,h1,h6,es⟩:=PU ns;have d3:∀ i:Int,aY (.int i) (.int 3)=some (.int (i / 3)):=fun i=>cP (by decide) (by decide);have d5:∀ i:Int,aY (.int i) (.int 5)=some (.int (i / 5)):=fun i=>cP (by decide) (by decide);have f146:aT [.lst (tI ns),.int 146]=some (.int (aP ns 146)):=cU ns (k:=146) (by decide);have f149:aT [.lst (tI ns),.int 149]=some (.int (aP ns 149)):=cU ns (k:=149) (by decide);have m7:∀ i:Int,aS (.int i) (.int 7)=some (.int (i%7)):=fun i=>bU (by decide);have m2:∀ i:Int,aS (.int i) (.int 2)=some (.int (i%2)):=fun i=>bU (by decide);have k0:=aJc (aP ns 146 / 5) (show (7:Int)≠0 by decide);have k1:=aJb (aP ns 146 / 5) (show (0:Int)<7 by decide);have mk:=m7 (aP ns 146 / 5);generalize aP ns 146 / 5%7=k at k0 k1 mk;have mc:=m2 (aP ns 149 / 3);generalize aP ns 149 / 3%2=c at mc;obtain⟨t,w,sh,st,ec,Gc,A⟩:=OT ns h h1 h6 k0 k1;have ok:=aAm Gc;have q1:lR1 [some (.lst (tI ns)),none,none,none,none,none,none,none,none,none]=some (.nx [some (.lst (tI ns)),some (.int (n:Int)),none,none,none,none,none,none,none,none]):=by
  unfold lR1;simp only[rSet_at,f1_at,fVar_at,fCall_at,aCons_at,aNil_at,List.set,zz0,jn,zz2,zz3,es,gScal_int]
 have q2:lR2 [some (.lst (tI ns)),some (.int (n:Int)),none,none,none,none,none,none,none,none]=some (.nx [some (.lst (tI ns)),some (.int (n:Int)),some (.int k),none,none,none,none,none,none,none]):=by
  unfold lR2;simp only[rSet_at,f2_at,fC_at,fVar_at,fCall_at,aCons_at,aNil_at,List.set,zz0,zz1,jn,zz2,zz3,f146,d5,mk]
 have q3:lR3 [some (.lst (tI ns)),some (.int (n:Int)),some (.int k),none,none,none,none,none,none,none]=some (.nx [some (.lst (tI ns)),some (.int (n:Int)),some (.int k),some (.bl (c == 1)),none,none,none,none,none,none]):=by
  unfold lR3;simp only[rSet_at,f2_at,fC_at,fVar_at,fCall_at,aCons_at,aNil_at,List.set,zz0,zz1,jn,zz2,zz3,f149,d3,mc,oEq_int]
 generalize (c == 1)=cb at q3;have q4:∃ w' sh' st',lR4 [some (.lst (tI ns)),some (.int (n:Int)),some (.int k),some (.bl cb),none,none,none,none,none,none]=some (.nx [some (.lst (tI ns)),some (.int (n:Int)),some (.int k),some (.bl cb),some (.lst (tI t)),some (.lst (tI w')),some (.lst (sh'.map tF)),some (.lst (tP tpS st')),none,none])/\Cw n t w' sh' st'/\(cb=false->k=0\/k=6->kF n t w' sh' st'):=by
  cases cb with
  | false=>
   refine⟨w,sh,st,?_,Gc.cw Gc.cc,fun _ z=>A z⟩;unfold lR4;simp only[rCase_at,fCall_at,fVar_at,aCons_at,aNil_at,zz0,zz1,jn,zz2,ec,ok,if_true,jC,List.set]
  | true=>
   obtain⟨w',sh',st',eg,C⟩:=OU ns Gc;refine⟨w',sh',st',?_,Gc.cw C,fun z=>by cases z⟩;unfold lR4;simp only[rCase_at,fCall_at,fVar_at,aCons_at,aNil_at,zz0,zz1,jn,zz2,ec,ok,if_true,flat_tI',eg,jC,List.set]
 obtain⟨w',sh',st',q4,W,A'⟩:=q4;obtain⟨b,e1,e2,hb⟩:=aG7 W;have hA:cb=false->k=0\/k=6->b=true:=fun z1 z2=>hb.mpr (A' z1 z2);have g1:=IJ t;have g2:=IJ w';have g3:=WO sh';have g4:=gX st';have ne:oNe (.lst [.lst (tI t),.lst (tI w'),.lst (sh'.map tF),.lst (tP tpS st')]) (.lst [.lst (tI t),.lst (tI w'),.lst (sh'.map tF),.lst (tP tpS st')])=some (.bl false):=by
  refine aAb ?_;have x1:=xS t;have x2:=xS w';have x3:=TX sh';have x4:=HS st';show max (dep (.lst (tI t))) (max (dep (.lst (tI w'))) (max (dep (.lst (sh'.map tF))) (max (dep (.lst (tP tpS st'))) 0)))+1<=60;lia
 clear A' A ok ec W hb Gc
 generalize tI t=u0 at *;generalize tI w'=u1 at *;generalize sh'.map tF=u2 at *;generalize tP tpS st'=u3 at *;have c4:(4:Nat)<=cap:=by decide
 have c2:(2:Nat)<=cap:=by decide
 have q5:lR5 [some (.lst (tI ns)),some (.int (n:Int)),some (.int k),some (.bl cb),some (.lst u0),some (.lst u1),some (.lst u2),some (.lst u3),none,none]=some (.nx [some (.lst (tI ns)),some (.int (n:Int)),some (.int k),some (.bl cb),some (.lst u0),some (.lst u1),some (.lst u2),some (.lst u3),some (.lst [.lst u0,.lst u1,.lst u2,.lst u3]),none]):=by
  unfold lR5;simp only[rSet_at,fLst_at,f1_at,fVar_at,fCall_at,aCons_at,aNil_at,List.set,zz0,zz1,jn,zz2,zz3,oList_lst,g1,g2,g3,g4,aK3,aK6,aLe,Nat.reduceAdd,c4,if_true]
 have i0:oIx (.lst [.lst u0,.lst u1,.lst u2,.lst u3]) (.int 0)=some (.lst u0):=rfl;have i1:oIx (.lst [.lst u0,.lst u1,.lst u2,.lst u3]) (.int 1)=some (.lst u1):=rfl;have i2:oIx (.lst [.lst u0,.lst u1,.lst u2,.lst u3]) (.int 2)=some (.lst u2):=rfl;have i3:oIx (.lst [.lst u0,.lst u1,.lst u2,.lst u3]) (.int 3)=some (.lst u3):=rfl;have gb:aN (.bl b)=some (.bl b):=rfl;have q6:lR6 [some (.lst (tI ns)),some (.int (n:Int)),some (.int k),some (.bl cb),some (.lst u0),some (.lst u1),some (.lst u2),some (.lst u3),some (.lst [.lst u0,.lst u1,.lst u2,.lst u3]),none]=some (.nx [some (.lst (tI ns)),some (.int (n:Int)),some (.int k),some (.bl cb),some (.lst u0),some (.lst u1),some (.lst u2),some (.lst u3),some (.lst [.lst u0,.lst u1,.lst u2,.lst u3]),some (.bl b)]):=by
  unfold lR6;simp only[rSet_at,f1_at,f2_at,fC_at,fVar_at,fCall_at,aCons_at,aNil_at,List.set,zz0,zz1,jn,zz2,zz3,i0,i1,i2,i3,e1,gb]
 have ib:uQ "bool" (.bl b)=some (.bl true):=rfl;have q7:lR7 [some (.lst (tI ns)),some (.int (n:Int)),some (.int k),some (.bl cb),some (.lst u0),some (.lst u1),some (.lst u2),some (.lst u3),some (.lst [.lst u0,.lst u1,.lst u2,.lst u3]),some (.bl b)]=some (.nx [some (.lst (tI ns)),some (.int (n:Int)),some (.int k),some (.bl cb),some (.lst u0),some (.lst u1),some (.lst u2),some (.lst u3),some (.lst [.lst u0,.lst u1,.lst u2,.lst u3]),some (.bl b)]):=by
  unfold lR7;simp only[rIf_at,rNext_at,pOr_at,pNot_at,fT_at,fB_at,fLst_at,f1_at,f2_at,fVar_at,aCons_at,aNil_at,zz0,zz1,jn,zz2,zz3,ib,truT_bl,aJ7,aJ4,if_false,aK3,aK6,aLe,Nat.reduceAdd,c4,if_true,ne,isB_bl]
 have oi:∃ z,oIn (.int k) (.tup [.int 0,.int 6])=some (.bl z)/\(z=true->k=0\/k=6):=by
  have hk:k=0\/k=1\/k=2\/k=3\/k=4\/k=5\/k=6:=by lia
  rcases hk with rfl | rfl | rfl | rfl | rfl | rfl | rfl
  ·exact⟨true,rfl,fun _=>.inl rfl⟩
  ·exact⟨false,rfl,fun z=>by cases z⟩
  ·exact⟨false,rfl,fun z=>by cases z⟩
  ·exact⟨false,rfl,fun z=>by cases z⟩
  ·exact⟨false,rfl,fun z=>by cases z⟩
  ·exact⟨false,rfl,fun z=>by cases z⟩
  ·exact⟨true,rfl,fun _=>.inr rfl⟩
 obtain⟨z,oi,hz⟩:=oi;have q8:lR8 [some (.lst (tI ns)),some (.int (n:Int)),some (.int k),some (.bl cb),some (.lst u0),some (.lst u1),some (.lst u2),some (.lst u3),some (.lst [.lst u0,.lst u1,.lst u2,.lst u3]),some (.bl b)]=some (.nx [some (.lst (tI ns)),some (.int (n:Int)),some (.int k),some (.bl cb),some (.lst u0),some (.lst u1),some (.lst u2),some (.lst u3),some (.lst [.lst u0,.lst u1,.lst u2,.lst u3]),some (.bl b)]):=by
  have key:z=false\/cb=true\/b=true:=by
   cases hzz:z with
   | false=>exact .inl rfl
   | true=>
    cases hcc:cb with
    | true=>exact .inr (.inl rfl)
    | false=>exact .inr (.inr (hA hcc (hz hzz)))
  unfold lR8;simp only[rIf_at,rNext_at,pAnd_at,pNot_at,fT_at,fB_at,fTup_at,f2_at,fC_at,fVar_at,aCons_at,aNil_at,zz0,zz1,jn,zz2,zz3,truT_bl,aK3,aK6,aLe,Nat.reduceAdd,c2,if_true,oi,isB_bl];rcases key with rfl | rfl | rfl
  ·rfl
  ·cases z<;>rfl
  ·cases z<;>cases cb<;>rfl
 have eb:oEq (.bl b) (.bl b)=some (.bl true):=by cases b<;>rfl
 have q9:(lR9 [some (.lst (tI ns)),some (.int (n:Int)),some (.int k),some (.bl cb),some (.lst u0),some (.lst u1),some (.lst u2),some (.lst u3),some (.lst [.lst u0,.lst u1,.lst u2,.lst u3]),some (.bl b)]).bind bC=some (.bl true):=by
  unfold lR9;simp only[rRet_at,f2_at,fVar_at,fCall_at,aCons_at,aNil_at,zz0,zz1,jn,zz2,zz3,e2,eb,outT_rt]
 rw[PZ,ZK,bM q1,bM q2,bM q3,bM q4,bM q5,bM q6,bM q7,bM q8];exact q9
@[elab_as_elim] theorem ln1 {P:List Value->Prop}:∀ (us:List Value) (_:us.length=1) (f:∀ a0,P [a0]),P us
 | [a0],_,f=>f a0
@[elab_as_elim] theorem ln2 {P:List Value->Prop}:∀ (us:List Value) (_:us.length=2) (f:∀ a0 a1,P [a0,a1]),P us
 | [a0,a1],_,f=>f a0 a1
@[elab_as_elim] theorem ln3 {P:List Value->Prop}:∀ (us:List Value) (_:us.length=3) (f:∀ a0 a1 a2,P [a0,a1,a2]),P us
 | [a0,a1,a2],_,f=>f a0 a1 a2
@[elab_as_elim] theorem ln4 {P:List Value->Prop}:∀ (us:List Value) (_:us.length=4) (f:∀ a0 a1 a2 a3,P [a0,a1,a2,a3]),P us
 | [a0,a1,a2,a3],_,f=>f a0 a1 a2 a3
theorem all_mk {l:PySem.W.OpenLaw}{w:World}{K:PySem.W.Frag}{h:Heap}{mg:Str->Option Value}{fa f0 f1 f2 f3 f4 f5 f6 f7 f8 f9 f10 f11 f12 f13 f14 f15 f16 f17 f18 f19 f20 f21 f22 f23 f24 f25 f26 f27 f28 f29 f30 f31 f32 f33 f34 f35 f36 f37 f38 f39 f40 f41 f42 f43 f44 f45 f46 f47 f48 f49 f50:Addr}(X:K.In h) (G0:h.Ns mainGlobals mg) (hfa:mg "law" = some (.ref fa))
  {od0 an0:Option Addr} {sl0:Array (Option Value)} {oc0 kV0 dc0 pm0 cd0 ct0:Value} (a0:FA K "_law_mixed" f0) (l0:FL K f0 "_law_mixed" pX .none oc0 od0 kV0 dc0 pm0 an0 cd0 ct0 sl0) (cc0:FC K cd0 "_law_mixed") (k0:FK K f0)
  {od1 an1:Option Addr} {sl1:Array (Option Value)} {oc1 kV1 dc1 pm1 cd1 ct1:Value} (a1:FA K "_law_hands" f1) (l1:FL K f1 "_law_hands" pT .none oc1 od1 kV1 dc1 pm1 an1 cd1 ct1 sl1) (cc1:FC K cd1 "_law_hands") (k1:FK K f1)
  {od2 an2:Option Addr} {sl2:Array (Option Value)} {oc2 kV2 dc2 pm2 cd2 ct2:Value} (a2:FA K "_law_weights" f2) (l2:FL K f2 "_law_weights" qI .none oc2 od2 kV2 dc2 pm2 an2 cd2 ct2 sl2) (cc2:FC K cd2 "_law_weights") (k2:FK K f2)
  {od3 an3:Option Addr} {sl3:Array (Option Value)} {oc3 kV3 dc3 pm3 cd3 ct3:Value} (a3:FA K "_law_folded" f3) (l3:FL K f3 "_law_folded" pO .none oc3 od3 kV3 dc3 pm3 an3 cd3 ct3 sl3) (cc3:FC K cd3 "_law_folded") (k3:FK K f3)
  {od4 an4:Option Addr} {sl4:Array (Option Value)} {oc4 kV4 dc4 pm4 cd4 ct4:Value} (a4:FA K "_law_many" f4) (l4:FL K f4 "_law_many" pW .none oc4 od4 kV4 dc4 pm4 an4 cd4 ct4 sl4) (cc4:FC K cd4 "_law_many") (k4:FK K f4)
  {od5 an5:Option Addr} {sl5:Array (Option Value)} {oc5 kV5 dc5 pm5 cd5 ct5:Value} (a5:FA K "_law_noise_table" f5) (l5:FL K f5 "_law_noise_table" pY .none oc5 od5 kV5 dc5 pm5 an5 cd5 ct5 sl5) (cc5:FC K cd5 "_law_noise_table") (k5:FK K f5)
  {od6 an6:Option Addr} {sl6:Array (Option Value)} {oc6 kV6 dc6 pm6 cd6 ct6:Value} (a6:FA K "_law_ties_table" f6) (l6:FL K f6 "_law_ties_table" qH .none oc6 od6 kV6 dc6 pm6 an6 cd6 ct6 sl6) (cc6:FC K cd6 "_law_ties_table") (k6:FK K f6)
  {od7 an7:Option Addr} {sl7:Array (Option Value)} {oc7 kV7 dc7 pm7 cd7 ct7:Value} (a7:FA K "_law_falling" f7) (l7:FL K f7 "_law_falling" pM .none oc7 od7 kV7 dc7 pm7 an7 cd7 ct7 sl7) (cc7:FC K cd7 "_law_falling") (k7:FK K f7)
  {od8 an8:Option Addr} {sl8:Array (Option Value)} {oc8 kV8 dc8 pm8 cd8 ct8:Value} (a8:FA K "_law_any_table" f8) (l8:FL K f8 "_law_any_table" pG .none oc8 od8 kV8 dc8 pm8 an8 cd8 ct8 sl8) (cc8:FC K cd8 "_law_any_table") (k8:FK K f8)
  {od9 an9:Option Addr} {sl9:Array (Option Value)} {oc9 kV9 dc9 pm9 cd9 ct9:Value} (a9:FA K "_law_given" f9) (l9:FL K f9 "_law_given" pR .none oc9 od9 kV9 dc9 pm9 an9 cd9 ct9 sl9) (cc9:FC K cd9 "_law_given") (k9:FK K f9)
  {od10 an10:Option Addr} {sl10:Array (Option Value)} {oc10 kV10 dc10 pm10 cd10 ct10:Value} (a10:FA K "_law_flat" f10) (l10:FL K f10 "_law_flat" pN .none oc10 od10 kV10 dc10 pm10 an10 cd10 ct10 sl10) (cc10:FC K cd10 "_law_flat") (k10:FK K f10)
  {od11 an11:Option Addr} {sl11:Array (Option Value)} {oc11 kV11 dc11 pm11 cd11 ct11:Value} (a11:FA K "_law_part" f11) (l11:FL K f11 "_law_part" qA .none oc11 od11 kV11 dc11 pm11 an11 cd11 ct11 sl11) (cc11:FC K cd11 "_law_part") (k11:FK K f11)
  {od12 an12:Option Addr} {sl12:Array (Option Value)} {oc12 kV12 dc12 pm12 cd12 ct12:Value} (a12:FA K "_law_fraction" f12) (l12:FL K f12 "_law_fraction" pP .none oc12 od12 kV12 dc12 pm12 an12 cd12 ct12 sl12) (cc12:FC K cd12 "_law_fraction") (k12:FK K f12)
  {od13 an13:Option Addr} {sl13:Array (Option Value)} {oc13 kV13 dc13 pm13 cd13 ct13:Value} (a13:FA K "_law_order" f13) (l13:FL K f13 "_law_order" pZ .none oc13 od13 kV13 dc13 pm13 an13 cd13 ct13 sl13) (cc13:FC K cd13 "_law_order") (k13:FK K f13)
  {od14 an14:Option Addr} {sl14:Array (Option Value)} {oc14 kV14 dc14 pm14 cd14 ct14:Value} (a14:FA K "_law_taken" f14) (l14:FL K f14 "_law_taken" qG .none oc14 od14 kV14 dc14 pm14 an14 cd14 ct14 sl14) (cc14:FC K cd14 "_law_taken") (k14:FK K f14)
  {od15 an15:Option Addr} {sl15:Array (Option Value)} {oc15 kV15 dc15 pm15 cd15 ct15:Value} (a15:FA K "_law_less" f15) (l15:FL K f15 "_law_less" pU .none oc15 od15 kV15 dc15 pm15 an15 cd15 ct15 sl15) (cc15:FC K cd15 "_law_less") (k15:FK K f15)
  {od16 an16:Option Addr} {sl16:Array (Option Value)} {oc16 kV16 dc16 pm16 cd16 ct16:Value} (a16:FA K "_law_step" f16) (l16:FL K f16 "_law_step" qE .none oc16 od16 kV16 dc16 pm16 an16 cd16 ct16 sl16) (cc16:FC K cd16 "_law_step") (k16:FK K f16)
  {od17 an17:Option Addr} {sl17:Array (Option Value)} {oc17 kV17 dc17 pm17 cd17 ct17:Value} (a17:FA K "_law_steps" f17) (l17:FL K f17 "_law_steps" qF .none oc17 od17 kV17 dc17 pm17 an17 cd17 ct17 sl17) (cc17:FC K cd17 "_law_steps") (k17:FK K f17)
  {od18 an18:Option Addr} {sl18:Array (Option Value)} {oc18 kV18 dc18 pm18 cd18 ct18:Value} (a18:FA K "_law_ratio" f18) (l18:FL K f18 "_law_ratio" qC .none oc18 od18 kV18 dc18 pm18 an18 cd18 ct18 sl18) (cc18:FC K cd18 "_law_ratio") (k18:FK K f18)
  {od19 an19:Option Addr} {sl19:Array (Option Value)} {oc19 kV19 dc19 pm19 cd19 ct19:Value} (a19:FA K "_law_rising" f19) (l19:FL K f19 "_law_rising" qD .none oc19 od19 kV19 dc19 pm19 an19 cd19 ct19 sl19) (cc19:FC K cd19 "_law_rising") (k19:FK K f19)
  {od20 an20:Option Addr} {sl20:Array (Option Value)} {oc20 kV20 dc20 pm20 cd20 ct20:Value} (a20:FA K "_law_levels" f20) (l20:FL K f20 "_law_levels" pV .none oc20 od20 kV20 dc20 pm20 an20 cd20 ct20 sl20) (cc20:FC K cd20 "_law_levels") (k20:FK K f20)
  {od21 an21:Option Addr} {sl21:Array (Option Value)} {oc21 kV21 dc21 pm21 cd21 ct21:Value} (a21:FA K "_law_fair" f21) (l21:FL K f21 "_law_fair" pL .none oc21 od21 kV21 dc21 pm21 an21 cd21 ct21 sl21) (cc21:FC K cd21 "_law_fair") (k21:FK K f21)
  {od22 an22:Option Addr} {sl22:Array (Option Value)} {oc22 kV22 dc22 pm22 cd22 ct22:Value} (a22:FA K "_law_case" f22) (l22:FL K f22 "_law_case" pI .none oc22 od22 kV22 dc22 pm22 an22 cd22 ct22 sl22) (cc22:FC K cd22 "_law_case") (k22:FK K f22)
  {od23 an23:Option Addr} {sl23:Array (Option Value)} {oc23 kV23 dc23 pm23 cd23 ct23:Value} (a23:FA K "_law_plus" f23) (l23:FL K f23 "_law_plus" qB .none oc23 od23 kV23 dc23 pm23 an23 cd23 ct23 sl23) (cc23:FC K cd23 "_law_plus") (k23:FK K f23)
  {od24 an24:Option Addr} {sl24:Array (Option Value)} {oc24 kV24 dc24 pm24 cd24 ct24:Value} (a24:FA K "_law_changed" f24) (l24:FL K f24 "_law_changed" pJ .none oc24 od24 kV24 dc24 pm24 an24 cd24 ct24 sl24) (cc24:FC K cd24 "_law_changed") (k24:FK K f24)
  {od25 an25:Option Addr} {sl25:Array (Option Value)} {oc25 kV25 dc25 pm25 cd25 ct25:Value} (a25:FA K "everybody" f25) (l25:FL K f25 "everybody" qK .none oc25 od25 kV25 dc25 pm25 an25 cd25 ct25 sl25) (cc25:FC K cd25 "everybody") (k25:FK K f25)
  {od26 an26:Option Addr} {sl26:Array (Option Value)} {oc26 kV26 dc26 pm26 cd26 ct26:Value} (a26:FA K "within" f26) (l26:FL K f26 "within" rD .none oc26 od26 kV26 dc26 pm26 an26 cd26 ct26 sl26) (cc26:FC K cd26 "within") (k26:FK K f26)
  {od27 an27:Option Addr} {sl27:Array (Option Value)} {oc27 kV27 dc27 pm27 cd27 ct27:Value} (a27:FA K "groups_grow" f27) (l27:FL K f27 "groups_grow" qR .none oc27 od27 kV27 dc27 pm27 an27 cd27 ct27 sl27) (cc27:FC K cd27 "groups_grow") (k27:FK K f27)
  {od28 an28:Option Addr} {sl28:Array (Option Value)} {oc28 kV28 dc28 pm28 cd28 ct28:Value} (a28:FA K "fraction_less" f28) (l28:FL K f28 "fraction_less" qO .none oc28 od28 kV28 dc28 pm28 an28 cd28 ct28 sl28) (cc28:FC K cd28 "fraction_less") (k28:FK K f28)
  {od29 an29:Option Addr} {sl29:Array (Option Value)} {oc29 kV29 dc29 pm29 cd29 ct29:Value} (a29:FA K "fractions_grow" f29) (l29:FL K f29 "fractions_grow" qQ .none oc29 od29 kV29 dc29 pm29 an29 cd29 ct29 sl29) (cc29:FC K cd29 "fractions_grow") (k29:FK K f29)
  {od30 an30:Option Addr} {sl30:Array (Option Value)} {oc30 kV30 dc30 pm30 cd30 ct30:Value} (a30:FA K "hand_count" f30) (l30:FL K f30 "hand_count" qS .none oc30 od30 kV30 dc30 pm30 an30 cd30 ct30 sl30) (cc30:FC K cd30 "hand_count") (k30:FK K f30)
  {od31 an31:Option Addr} {sl31:Array (Option Value)} {oc31 kV31 dc31 pm31 cd31 ct31:Value} (a31:FA K "weights_for" f31) (l31:FL K f31 "weights_for" rC .none oc31 od31 kV31 dc31 pm31 an31 cd31 ct31 sl31) (cc31:FC K cd31 "weights_for") (k31:FK K f31)
  {od32 an32:Option Addr} {sl32:Array (Option Value)} {oc32 kV32 dc32 pm32 cd32 ct32:Value} (a32:FA K "first_fraction" f32) (l32:FL K f32 "first_fraction" qM .none oc32 od32 kV32 dc32 pm32 an32 cd32 ct32 sl32) (cc32:FC K cd32 "first_fraction") (k32:FK K f32)
  {od33 an33:Option Addr} {sl33:Array (Option Value)} {oc33 kV33 dc33 pm33 cd33 ct33:Value} (a33:FA K "common_divisor" f33) (l33:FL K f33 "common_divisor" qJ .none oc33 od33 kV33 dc33 pm33 an33 cd33 ct33 sl33) (cc33:FC K cd33 "common_divisor") (k33:FK K f33)
  {od34 an34:Option Addr} {sl34:Array (Option Value)} {oc34 kV34 dc34 pm34 cd34 ct34:Value} (a34:FA K "fraction" f34) (l34:FL K f34 "fraction" qN .none oc34 od34 kV34 dc34 pm34 an34 cd34 ct34 sl34) (cc34:FC K cd34 "fraction") (k34:FK K f34)
  {od35 an35:Option Addr} {sl35:Array (Option Value)} {oc35 kV35 dc35 pm35 cd35 ct35:Value} (a35:FA K "fraction_times" f35) (l35:FL K f35 "fraction_times" qP .none oc35 od35 kV35 dc35 pm35 an35 cd35 ct35 sl35) (cc35:FC K cd35 "fraction_times") (k35:FK K f35)
  {od36 an36:Option Addr} {sl36:Array (Option Value)} {oc36 kV36 dc36 pm36 cd36 ct36:Value} (a36:FA K "shares_by_steps" f36) (l36:FL K f36 "shares_by_steps" rA .none oc36 od36 kV36 dc36 pm36 an36 cd36 ct36 sl36) (cc36:FC K cd36 "shares_by_steps") (k36:FK K f36)
  {od37 an37:Option Addr} {sl37:Array (Option Value)} {oc37 kV37 dc37 pm37 cd37 ct37:Value} (a37:FA K "scaled" f37) (l37:FL K f37 "scaled" qZ .none oc37 od37 kV37 dc37 pm37 an37 cd37 ct37 sl37) (cc37:FC K cd37 "scaled") (k37:FK K f37)
  {od38 an38:Option Addr} {sl38:Array (Option Value)} {oc38 kV38 dc38 pm38 cd38 ct38:Value} (a38:FA K "hands_in" f38) (l38:FL K f38 "hands_in" qT .none oc38 od38 kV38 dc38 pm38 an38 cd38 ct38 sl38) (cc38:FC K cd38 "hands_in") (k38:FK K f38)
  {od39 an39:Option Addr} {sl39:Array (Option Value)} {oc39 kV39 dc39 pm39 cd39 ct39:Value} (a39:FA K "row_gives" f39) (l39:FL K f39 "row_gives" qY .none oc39 od39 kV39 dc39 pm39 an39 cd39 ct39 sl39) (cc39:FC K cd39 "row_gives") (k39:FK K f39)
  {od40 an40:Option Addr} {sl40:Array (Option Value)} {oc40 kV40 dc40 pm40 cd40 ct40:Value} (a40:FA K "less_row" f40) (l40:FL K f40 "less_row" qW .none oc40 od40 kV40 dc40 pm40 an40 cd40 ct40 sl40) (cc40:FC K cd40 "less_row") (k40:FK K f40)
  {od41 an41:Option Addr} {sl41:Array (Option Value)} {oc41 kV41 dc41 pm41 cd41 ct41:Value} (a41:FA K "over" f41) (l41:FL K f41 "over" qX .none oc41 od41 kV41 dc41 pm41 an41 cd41 ct41 sl41) (cc41:FC K cd41 "over") (k41:FK K f41)
  {od42 an42:Option Addr} {sl42:Array (Option Value)} {oc42 kV42 dc42 pm42 cd42 ct42:Value} (a42:FA K "is_under" f42) (l42:FL K f42 "is_under" qV .none oc42 od42 kV42 dc42 pm42 an42 cd42 ct42 sl42) (cc42:FC K cd42 "is_under") (k42:FK K f42)
  {od43 an43:Option Addr} {sl43:Array (Option Value)} {oc43 kV43 dc43 pm43 cd43 ct43:Value} (a43:FA K "is_base" f43) (l43:FL K f43 "is_base" qU .none oc43 od43 kV43 dc43 pm43 an43 cd43 ct43 sl43) (cc43:FC K cd43 "is_base") (k43:FK K f43)
  {od44 an44:Option Addr} {sl44:Array (Option Value)} {oc44 kV44 dc44 pm44 cd44 ct44:Value} (a44:FA K "fills" f44) (l44:FL K f44 "fills" qL .none oc44 od44 kV44 dc44 pm44 an44 cd44 ct44 sl44) (cc44:FC K cd44 "fills") (k44:FK K f44)
  {od45 an45:Option Addr} {sl45:Array (Option Value)} {oc45 kV45 dc45 pm45 cd45 ct45:Value} (a45:FA K "shows_fairest" f45) (l45:FL K f45 "shows_fairest" rB .none oc45 od45 kV45 dc45 pm45 an45 cd45 ct45 sl45) (cc45:FC K cd45 "shows_fairest") (k45:FK K f45)
  {od46 an46:Option Addr} {sl46:Array (Option Value)} {oc46 kV46 dc46 pm46 cd46 ct46:Value} (a46:FA K "_law_fractions_given" f46) (l46:FL K f46 "_law_fractions_given" pQ .none oc46 od46 kV46 dc46 pm46 an46 cd46 ct46 sl46) (cc46:FC K cd46 "_law_fractions_given") (k46:FK K f46)
  {od47 an47:Option Addr} {sl47:Array (Option Value)} {oc47 kV47 dc47 pm47 cd47 ct47:Value} (a47:FA K "_law_base" f47) (l47:FL K f47 "_law_base" pH .none oc47 od47 kV47 dc47 pm47 an47 cd47 ct47 sl47) (cc47:FC K cd47 "_law_base") (k47:FK K f47)
  {od48 an48:Option Addr} {sl48:Array (Option Value)} {oc48 kV48 dc48 pm48 cd48 ct48:Value} (a48:FA K "_law_grow" f48) (l48:FL K f48 "_law_grow" pS .none oc48 od48 kV48 dc48 pm48 an48 cd48 ct48 sl48) (cc48:FC K cd48 "_law_grow") (k48:FK K f48)
  {od49 an49:Option Addr} {sl49:Array (Option Value)} {oc49 kV49 dc49 pm49 cd49 ct49:Value} (a49:FA K "_law_due" f49) (l49:FL K f49 "_law_due" pK .none oc49 od49 kV49 dc49 pm49 an49 cd49 ct49 sl49) (cc49:FC K cd49 "_law_due") (k49:FK K f49)
  {od50 an50:Option Addr} {sl50:Array (Option Value)} {oc50 kV50 dc50 pm50 cd50 ct50:Value} (a50:FA K "law" f50) (l50:FL K f50 "law" jA .none oc50 od50 kV50 dc50 pm50 an50 cd50 ct50 sl50) (cc50:FC K cd50 "law") (k50:FK K f50)
  (nolb:yK K=true)
  (aIk:PySem.W.nsIn K mainGlobals "len" = some none)
  (aIe:PySem.W.nsIn K mainGlobals "range" = some none)
  (aIl:PySem.W.nsIn K mainGlobals "min" = some none)
  (aIm:PySem.W.nsIn K mainGlobals "sum" = some none)
  (aIh:PySem.W.nsIn K mainGlobals "abs" = some none)
  (aIj:PySem.W.nsIn K mainGlobals "int" = some none)
  (aIg:PySem.W.nsIn K mainGlobals "list" = some none)
  (aIn:PySem.W.nsIn K mainGlobals "zip" = some none)
  (aIi:PySem.W.nsIn K mainGlobals "all" = some none)
  (aIb:PySem.W.nsIn K mainGlobals "enumerate" = some none)
  (aI9:PySem.W.nsIn K mainGlobals "isinstance" = some none)
  (aIf:PySem.W.nsIn K mainGlobals "bool" = some none)
  : ∃ fd:FuncData,(∀ (s:Shared) (v:Value),BindsTo s fd ⟨[v],[]⟩ [("script",v)])/\∀ base:Heap,K.In base->base.Ns mainGlobals mg->FnOk l.prog w K mg base CX0 9 fa fd ["script"] (spT K rH false 3):=by
 have e:=hfa.symm.trans (aLm X G0 a50);cases e;have aGo:=aLl X G0 aIk;have aGn:=aLl X G0 aIe;have aI4:=aLl X G0 aIl;have aHh:=aLl X G0 aIm;have aI2:=aLl X G0 aIh;have aIc:=aLl X G0 aIj;have aHg:=aLl X G0 aIg;have aId:=aLl X G0 aIn;have aI3:=aLl X G0 aIi;have aH2:=aLl X G0 aIb;have aHr:=aLl X G0 aI9;have aIa:=aLl X G0 aIf;have U0:=bH (st:=pX) l0 cc0 k0;have b0:=U0.binds (ps:=["script","k"]) fun _ _ _ _ _ _ us hl=>ln2 us hl fun _ _=>rfl;have U1:=bH (st:=pT) l1 cc1 k1;have b1:=U1.binds (ps:=["script"]) fun _ _ _ _ _ _ us hl=>ln1 us hl fun _=>rfl;have U2:=bH (st:=qI) l2 cc2 k2;have b2:=U2.binds (ps:=["script","hands"]) fun _ _ _ _ _ _ us hl=>ln2 us hl fun _ _=>rfl;have U3:=bH (st:=pO) l3 cc3 k3;have b3:=U3.binds (ps:=["script","many","far"]) fun _ _ _ _ _ _ us hl=>ln3 us hl fun _ _ _=>rfl;have U4:=bH (st:=pW) l4 cc4 k4;have b4:=U4.binds (ps:=["group"]) fun _ _ _ _ _ _ us hl=>ln1 us hl fun _=>rfl;have U5:=bH (st:=pY) l5 cc5 k5;have b5:=U5.binds (ps:=["script","hands"]) fun _ _ _ _ _ _ us hl=>ln2 us hl fun _ _=>rfl;have U6:=bH (st:=qH) l6 cc6 k6;have b6:=U6.binds (ps:=["script","hands"]) fun _ _ _ _ _ _ us hl=>ln2 us hl fun _ _=>rfl;have U7:=bH (st:=pM) l7 cc7 k7;have b7:=U7.binds (ps:=["script","hands"]) fun _ _ _ _ _ _ us hl=>ln2 us hl fun _ _=>rfl;have U8:=bH (st:=pG) l8 cc8 k8;have b8:=U8.binds (ps:=["script","hands"]) fun _ _ _ _ _ _ us hl=>ln2 us hl fun _ _=>rfl;have U9:=bH (st:=pR) l9 cc9 k9;have b9:=U9.binds (ps:=["row","group"]) fun _ _ _ _ _ _ us hl=>ln2 us hl fun _ _=>rfl;have U10:=bH (st:=pN) l10 cc10 k10;have b10:=U10.binds (ps:=["row"]) fun _ _ _ _ _ _ us hl=>ln1 us hl fun _=>rfl;have U11:=bH (st:=qA) l11 cc11 k11;have b11:=U11.binds (ps:=["one","other"]) fun _ _ _ _ _ _ us hl=>ln2 us hl fun _ _=>rfl;have U12:=bH (st:=pP) l12 cc12 k12;have b12:=U12.binds (ps:=["top","bottom"]) fun _ _ _ _ _ _ us hl=>ln2 us hl fun _ _=>rfl;have U13:=bH (st:=pZ) l13 cc13 k13;have b13:=U13.binds (ps:=["script","k","hands"]) fun _ _ _ _ _ _ us hl=>ln3 us hl fun _ _ _=>rfl;have U14:=bH (st:=qG) l14 cc14 k14;have b14:=U14.binds (ps:=["table","order"]) fun _ _ _ _ _ _ us hl=>ln2 us hl fun _ _=>rfl;have U15:=bH (st:=pU) l15 cc15 k15;have b15:=U15.binds (ps:=["one","other"]) fun _ _ _ _ _ _ us hl=>ln2 us hl fun _ _=>rfl;have U16:=bH (st:=qE) l16 cc16 k16;have b16:=U16.binds (ps:=["table","weights","ahead"]) fun _ _ _ _ _ _ us hl=>ln3 us hl fun _ _ _=>rfl;have U17:=bH (st:=qF) l17 cc17 k17;have b17:=U17.binds (ps:=["table","weights"]) fun _ _ _ _ _ _ us hl=>ln2 us hl fun _ _=>rfl;have U18:=bH (st:=qC) l18 cc18 k18;have b18:=U18.binds (ps:=["shares","weights","hand"]) fun _ _ _ _ _ _ us hl=>ln3 us hl fun _ _ _=>rfl;have U19:=bH (st:=qD) l19 cc19 k19;have b19:=U19.binds (ps:=["shares","weights"]) fun _ _ _ _ _ _ us hl=>ln2 us hl fun _ _=>rfl;have U20:=bH (st:=pV) l20 cc20 k20;have b20:=U20.binds (ps:=["shares","weights","nested"]) fun _ _ _ _ _ _ us hl=>ln3 us hl fun _ _ _=>rfl;have U21:=bH (st:=pL) l21 cc21 k21;have b21:=U21.binds (ps:=["steps","weights"]) fun _ _ _ _ _ _ us hl=>ln2 us hl fun _ _=>rfl;have U22:=bH (st:=pI) l22 cc22 k22;have b22:=U22.binds (ps:=["script","hands","which"]) fun _ _ _ _ _ _ us hl=>ln3 us hl fun _ _ _=>rfl;have U23:=bH (st:=qB) l23 cc23 k23;have b23:=U23.binds (ps:=["one","other"]) fun _ _ _ _ _ _ us hl=>ln2 us hl fun _ _=>rfl;have U24:=bH (st:=pJ) l24 cc24 k24;have b24:=U24.binds (ps:=["script","weights","shares","steps"]) fun _ _ _ _ _ _ us hl=>ln4 us hl fun _ _ _ _=>rfl;have U25:=bH (st:=qK) l25 cc25 k25;have b25:=U25.binds (ps:=["table"]) fun _ _ _ _ _ _ us hl=>ln1 us hl fun _=>rfl;have U26:=bH (st:=rD) l26 cc26 k26;have b26:=U26.binds (ps:=["one","other"]) fun _ _ _ _ _ _ us hl=>ln2 us hl fun _ _=>rfl;have U27:=bH (st:=qR) l27 cc27 k27;have b27:=U27.binds (ps:=["whole","steps"]) fun _ _ _ _ _ _ us hl=>ln2 us hl fun _ _=>rfl;have U28:=bH (st:=qO) l28 cc28 k28;have b28:=U28.binds (ps:=["one","other"]) fun _ _ _ _ _ _ us hl=>ln2 us hl fun _ _=>rfl;have U29:=bH (st:=qQ) l29 cc29 k29;have b29:=U29.binds (ps:=["steps"]) fun _ _ _ _ _ _ us hl=>ln1 us hl fun _=>rfl;have U30:=bH (st:=qS) l30 cc30 k30;have b30:=U30.binds (ps:=["table"]) fun _ _ _ _ _ _ us hl=>ln1 us hl fun _=>rfl;have U31:=bH (st:=rC) l31 cc31 k31;have b31:=U31.binds (ps:=["table","weights"]) fun _ _ _ _ _ _ us hl=>ln2 us hl fun _ _=>rfl;have U32:=bH (st:=qM) l32 cc32 k32;have b32:=U32.binds (ps:=["steps","hand"]) fun _ _ _ _ _ _ us hl=>ln2 us hl fun _ _=>rfl;have U33:=bH (st:=qJ) l33 cc33 k33;have b33:=U33.binds (ps:=["one","other"]) fun _ _ _ _ _ _ us hl=>ln2 us hl fun _ _=>rfl;have U34:=bH (st:=qN) l34 cc34 k34;have b34:=U34.binds (ps:=["top","bottom"]) fun _ _ _ _ _ _ us hl=>ln2 us hl fun _ _=>rfl;have U35:=bH (st:=qP) l35 cc35 k35;have b35:=U35.binds (ps:=["many","one"]) fun _ _ _ _ _ _ us hl=>ln2 us hl fun _ _=>rfl;have U36:=bH (st:=rA) l36 cc36 k36;have b36:=U36.binds (ps:=["weights","steps"]) fun _ _ _ _ _ _ us hl=>ln2 us hl fun _ _=>rfl;have U37:=bH (st:=qZ) l37 cc37 k37;have b37:=U37.binds (ps:=["many","table"]) fun _ _ _ _ _ _ us hl=>ln2 us hl fun _ _=>rfl;have U38:=bH (st:=qT) l38 cc38 k38;have b38:=U38.binds (ps:=["group"]) fun _ _ _ _ _ _ us hl=>ln1 us hl fun _=>rfl;have U39:=bH (st:=qY) l39 cc39 k39;have b39:=U39.binds (ps:=["row","group"]) fun _ _ _ _ _ _ us hl=>ln2 us hl fun _ _=>rfl;have U40:=bH (st:=qW) l40 cc40 k40;have b40:=U40.binds (ps:=["table","row"]) fun _ _ _ _ _ _ us hl=>ln2 us hl fun _ _=>rfl;have U41:=bH (st:=qX) l41 cc41 k41;have b41:=U41.binds (ps:=["table","shares"]) fun _ _ _ _ _ _ us hl=>ln2 us hl fun _ _=>rfl;have U42:=bH (st:=qV) l42 cc42 k42;have b42:=U42.binds (ps:=["table","shares"]) fun _ _ _ _ _ _ us hl=>ln2 us hl fun _ _=>rfl;have U43:=bH (st:=qU) l43 cc43 k43;have b43:=U43.binds (ps:=["table","shares"]) fun _ _ _ _ _ _ us hl=>ln2 us hl fun _ _=>rfl;have U44:=bH (st:=qL) l44 cc44 k44;have b44:=U44.binds (ps:=["table","shares","steps"]) fun _ _ _ _ _ _ us hl=>ln3 us hl fun _ _ _=>rfl;have U45:=bH (st:=rB) l45 cc45 k45;have b45:=U45.binds (ps:=["table","weights","shares","steps"]) fun _ _ _ _ _ _ us hl=>ln4 us hl fun _ _ _ _=>rfl;have U46:=bH (st:=pQ) l46 cc46 k46;have b46:=U46.binds (ps:=["shares","group"]) fun _ _ _ _ _ _ us hl=>ln2 us hl fun _ _=>rfl;have U47:=bH (st:=pH) l47 cc47 k47;have b47:=U47.binds (ps:=["table","shares"]) fun _ _ _ _ _ _ us hl=>ln2 us hl fun _ _=>rfl;have U48:=bH (st:=pS) l48 cc48 k48;have b48:=U48.binds (ps:=["steps","last"]) fun _ _ _ _ _ _ us hl=>ln2 us hl fun _ _=>rfl;have U49:=bH (st:=pK) l49 cc49 k49;have b49:=U49.binds (ps:=["table","weights","shares","steps"]) fun _ _ _ _ _ _ us hl=>ln4 us hl fun _ _ _ _=>rfl;have U50:=bH (st:=jA) l50 cc50 k50;refine⟨PySem.W.fnOf "law" "law" (defArgs jA) (defBody jA) (defScope jA) .none kV50 dc50 pm50 an50 cd50 ct50,fun s v=>.of_eq rfl,fun base IB GB=>?_⟩;have aGm:Cal l.prog w K mg base "_law_mixed" 1 ["script","k"] aT false 3:=⟨_,_,aB4 aGo U0,aLm X G0 a0,k0,b0⟩;have aHn:Cal l.prog w K mg base "_law_hands" 2 ["script"] jX false 3:=⟨_,_,aB0 aGm U1,aLm X G0 a1,k1,b1⟩;have aHf:Cal l.prog w K mg base "_law_weights" 2 ["script","hands"] kD true 3:=⟨_,_,aBf aGm aGn U2,aLm X G0 a2,k2,b2⟩;have aGs:Cal l.prog w K mg base "_law_folded" 1 ["script","many","far"] eS true 3:=⟨_,_,aAv aGn aGo U3,aLm X G0 a3,k3,b3⟩;have aH0:Cal l.prog w K mg base "_law_many" 1 ["group"] gK false 3:=⟨_,_,aB3  U4,aLm X G0 a4,k4,b4⟩;have aH3:Cal l.prog w K mg base "_law_noise_table" 2 ["script","hands"] mR true 3:=⟨_,_,aB5 aGm aGs aH0 aGn U5,aLm X G0 a5,k5,b5⟩;have aH4:Cal l.prog w K mg base "_law_ties_table" 2 ["script","hands"] mV true 3:=⟨_,_,aBe aGs aH0 aGm aGn aI4 U6,aLm X G0 a6,k6,b6⟩;have aGu:Cal l.prog w K mg base "_law_falling" 3 ["script","hands"] fV true 3:=⟨_,_,aAt aGm aH3 aH4 U7,aLm X G0 a7,k7,b7⟩;have aH6:Cal l.prog w K mg base "_law_any_table" 4 ["script","hands"] jV true 3:=⟨_,_,aAn aGm aGu aGs U8,aLm X G0 a8,k8,b8⟩;have aGw:Cal l.prog w K mg base "_law_given" 1 ["row","group"] fX false 3:=⟨_,_,aAy aGo aGn aHh U9,aLm X G0 a9,k9,b9⟩;have aHm:Cal l.prog w K mg base "_law_flat" 2 ["row"] gJ true 3:=⟨_,_,aAu aGw aGo aGn U10,aLm X G0 a10,k10,b10⟩;have aHv:Cal l.prog w K mg base "_law_part" 1 ["one","other"] jZ false 3:=⟨_,_,aB7  U11,aLm X G0 a11,k11,b11⟩;have aGp:Cal l.prog w K mg base "_law_fraction" 2 ["top","bottom"] cR false 3:=⟨_,_,aAw aHv aI2 U12,aLm X G0 a12,k12,b12⟩;have aHo:Cal l.prog w K mg base "_law_order" 2 ["script","k","hands"] jF true 3:=⟨_,_,aB6 aGm aGn U13,aLm X G0 a13,k13,b13⟩;have aHq:Cal l.prog w K mg base "_law_taken" 1 ["table","order"] kB true 3:=⟨_,_,aBd  U14,aLm X G0 a14,k14,b14⟩;have aGr:Cal l.prog w K mg base "_law_less" 1 ["one","other"] dE false 3:=⟨_,_,aB1  U15,aLm X G0 a15,k15,b15⟩;have aHw:Cal l.prog w K mg base "_law_step" 3 ["table","weights","ahead"] mU false 3:=⟨_,_,aBb aGw aGp aGr aGo aGn U16,aLm X G0 a16,k16,b16⟩;have aHp:Cal l.prog w K mg base "_law_steps" 4 ["table","weights"] kA true 3:=⟨_,_,aBc aHw aGo U17,aLm X G0 a17,k17,b17⟩;have aGv:Cal l.prog w K mg base "_law_ratio" 3 ["shares","weights","hand"] fY false 3:=⟨_,_,aB9 aGp U18,aLm X G0 a18,k18,b18⟩;have aHj:Cal l.prog w K mg base "_law_rising" 4 ["shares","weights"] mT true 3:=⟨_,_,aBa aGv aGr aGo aGn U19,aLm X G0 a19,k19,b19⟩;have aHi:Cal l.prog w K mg base "_law_levels" 5 ["shares","weights","nested"] jY true 3:=⟨_,_,aB2 aHj aGv aIc U20,aLm X G0 a20,k20,b20⟩;have aGz:Cal l.prog w K mg base "_law_fair" 3 ["steps","weights"] fU true 3:=⟨_,_,aAs aGp aGo aGn U21,aLm X G0 a21,k21,b21⟩;have aHt:Cal l.prog w K mg base "_law_case" 6 ["script","hands","which"] jW true 3:=⟨_,_,aAp aHf aGu aGm aH6 aHm aGp aHo aHq aHp aHi aGz aGn aGo aHh aHg U22,aLm X G0 a22,k22,b22⟩;have aGx:Cal l.prog w K mg base "_law_plus" 3 ["one","other"] eU false 3:=⟨_,_,aB8 aGp U23,aLm X G0 a23,k23,b23⟩;have aHe:CalC3 l.prog w K mg base "_law_changed" 4 ["script","weights","shares","steps"] [1,2,3] jD:=⟨_,_,aAq aGm aGx aGo U24,aLm X G0 a24,k24,b24⟩;have aH1:Cal l.prog w K mg base "everybody" 1 ["table"] fG false 3:=⟨_,_,aBh aGo U25,aLm X G0 a25,k25,b25⟩;have aHd:Cal l.prog w K mg base "within" 1 ["one","other"] fZ false 3:=⟨_,_,aC1  U26,aLm X G0 a26,k26,b26⟩;have aHk:Cal l.prog w K mg base "groups_grow" 2 ["whole","steps"] nD false 3:=⟨_,_,aBo aHd U27,aLm X G0 a27,k27,b27⟩;have aHb:Cal l.prog w K mg base "fraction_less" 1 ["one","other"] nA false 3:=⟨_,_,aBl  U28,aLm X G0 a28,k28,b28⟩;have aHa:Cal l.prog w K mg base "fractions_grow" 2 ["steps"] nC false 3:=⟨_,_,aBn aHb aId aI3 U29,aLm X G0 a29,k29,b29⟩;have aGy:Cal l.prog w K mg base "hand_count" 1 ["table"] gL false 3:=⟨_,_,aBp aGo U30,aLm X G0 a30,k30,b30⟩;have aHl:Cal l.prog w K mg base "weights_for" 2 ["table","weights"] nL false 0:=⟨_,_,aC0 aGy U31,aLm X G0 a31,k31,b31⟩;have aH8:Cal l.prog w K mg base "first_fraction" 2 ["steps","hand"] mY false 3:=⟨_,_,aBj aHd U32,aLm X G0 a32,k32,b32⟩;have aH7:Cal l.prog w K mg base "common_divisor" 1 ["one","other"] mW false 3:=⟨_,_,aBg aI2 U33,aLm X G0 a33,k33,b33⟩;have aHy:Cal l.prog w K mg base "fraction" 2 ["top","bottom"] mZ false 3:=⟨_,_,aBk aH7 U34,aLm X G0 a34,k34,b34⟩;have aH9:Cal l.prog w K mg base "fraction_times" 3 ["many","one"] nB false 3:=⟨_,_,aBm aHy U35,aLm X G0 a35,k35,b35⟩;have aH5:Cal l.prog w K mg base "shares_by_steps" 4 ["weights","steps"] nK true 3:=⟨_,_,aBy aH8 aH9 aH2 U36,aLm X G0 a36,k36,b36⟩;have aI6:Cal l.prog w K mg base "scaled" 1 ["many","table"] nJ true 3:=⟨_,_,aBx  U37,aLm X G0 a37,k37,b37⟩;have aHz:Cal l.prog w K mg base "hands_in" 1 ["group"] nE true 3:=⟨_,_,aBq aGn U38,aLm X G0 a38,k38,b38⟩;have aGt:Cal l.prog w K mg base "row_gives" 2 ["row","group"] eV false 3:=⟨_,_,aBw aHz aHh U39,aLm X G0 a39,k39,b39⟩;have aI1:Cal l.prog w K mg base "less_row" 3 ["table","row"] nH true 3:=⟨_,_,aBu aGy aGt aGo aH2 U40,aLm X G0 a40,k40,b40⟩;have aI8:Cal l.prog w K mg base "over" 4 ["table","shares"] nI false 3:=⟨_,_,aBv aI1 aI4 U41,aLm X G0 a41,k41,b41⟩;have aI0:Cal l.prog w K mg base "is_under" 5 ["table","shares"] nG false 3:=⟨_,_,aBs aI8 U42,aLm X G0 a42,k42,b42⟩;have aI5:Cal l.prog w K mg base "is_base" 6 ["table","shares"] nF false 3:=⟨_,_,aBr aH1 aI0 aGt U43,aLm X G0 a43,k43,b43⟩;have aI7:Cal l.prog w K mg base "fills" 7 ["table","shares","steps"] mX false 3:=⟨_,_,aBi aI6 aI5 aGt aI3 U44,aLm X G0 a44,k44,b44⟩;have aHc:Cal l.prog w K mg base "shows_fairest" 8 ["table","weights","shares","steps"] jG false 3:=⟨_,_,aBz aH1 aHk aHa aHl aH5 aI7 U45,aLm X G0 a45,k45,b45⟩;have aGq:Cal l.prog w K mg base "_law_fractions_given" 4 ["shares","group"] fW false 3:=⟨_,_,aAx aGx aGo aGn U46,aLm X G0 a46,k46,b46⟩;have aHs:Cal l.prog w K mg base "_law_base" 5 ["table","shares"] mO false 3:=⟨_,_,aAo aGq aGr aGo aGn U47,aLm X G0 a47,k47,b47⟩;have aHu:Cal l.prog w K mg base "_law_grow" 2 ["steps","last"] mQ false 3:=⟨_,_,aAz aGr aGo aGn U48,aLm X G0 a48,k48,b48⟩;have aHx:Cal l.prog w K mg base "_law_due" 6 ["table","weights","shares","steps"] jE false 3:=⟨_,_,aAr aHs aHu aGq aGz aGo U49,aLm X G0 a49,k49,b49⟩;have nol:=NoL.of nolb;exact aBt aHn aGm aHt aHe aHc aHx nol aHg aHr aIa U50
theorem walk {l:PySem.W.OpenLaw}{q:Program}{loose:List Str}{XP:(Str->Option Value)->Heap->Prop}{YP:World->Heap->Prop}{d:DefRec}{K:Params->PySem.W.Frag}(hn:l.most=some 63) (hdf:d.params.defaults=[])
  (hY:∀ (w:World) (h:Heap),YP w h->(K w.params).In h)
  (F:∀ (w:World) (mg:Str->Option Value) (fa:Addr) (h:Heap),(K w.params).In h->h.Ns mainGlobals mg->mg d.name=some (.ref fa) ->
   ∃ fd:FuncData,(∀ (s:Shared) (u:Value),BindsTo s fd ⟨[u],[]⟩ [("script",u)])/\∀ base:Heap,(K w.params).In base->base.Ns mainGlobals mg->FnOk l.prog w (K w.params) mg base CX0 9 fa fd ["script"] (spT (K w.params) rH false 3)):
  PySem.W.WalkO q loose XP YP l.row.toRowW d [] (fun f vs=>PySem.call f vs):=
 ZM ⟨rfl,by decide,by decide⟩ hn hdf hY F QA
set_option maxRecDepth 100000
set_option maxHeartbeats 0
noncomputable def KF (P:Params):PySem.W.Frag:=
 (nat_lit 3,⟨.type "dict",none,.dict #[HD.kE P "__name__" 165 (.str "law_groupcost_k65_papers_of_the_fairest" 395),HD.kE P "__doc__" 166 (.none),HD.kE P "__package__" 167 (.none),HD.kE P "__loader__" 168 (.builtin "__main__.__loader__#opaque"),HD.kE P "__spec__" 169 (.none),HD.kE P "__annotations__" 170 (.ref 6),HD.kE P "__builtins__" 171 (.ref 4),HD.kE P "__file__" 173 (.str "/claim/cut.py" 172),HD.kE P "__cached__" 174 (.none),HD.kE P "CostError" 206 (.ref 24),HD.kE P "Unlike" 222 (.ref 37),HD.kE P "hands_in" 230 (.ref 44),HD.kE P "within" 238 (.ref 51),HD.kE P "hand_count" 247 (.ref 58),HD.kE P "everybody" 254 (.ref 65),HD.kE P "row_gives" 260 (.ref 70),HD.kE P "scaled" 266 (.ref 75),HD.kE P "less_row" 272 (.ref 80),HD.kE P "common_divisor" 285 (.ref 87),HD.kE P "fraction" 294 (.ref 94),HD.kE P "fraction_less" 302 (.ref 101),HD.kE P "fraction_times" 310 (.ref 108),HD.kE P "over" 322 (.ref 115),HD.kE P "is_under" 330 (.ref 122),HD.kE P "is_base" 339 (.ref 129),HD.kE P "weights_for" 349 (.ref 136),HD.kE P "first_fraction" 355 (.ref 141),HD.kE P "shares_by_steps" 361 (.ref 146),HD.kE P "groups_grow" 372 (.ref 153),HD.kE P "fractions_grow" 378 (.ref 158),HD.kE P "fills" 384 (.ref 163),HD.kE P "shows_fairest" 394 (.ref 170),HD.kE P "_law_mixed" 405 (.ref 177),HD.kE P "_law_hands" 412 (.ref 184),HD.kE P "_law_folded" 418 (.ref 189),HD.kE P "_law_many" 426 (.ref 196),HD.kE P "_law_noise_table" 439 (.ref 203),HD.kE P "_law_ties_table" 445 (.ref 208),HD.kE P "_law_falling" 453 (.ref 215),HD.kE P "_law_any_table" 459 (.ref 220),HD.kE P "_law_given" 465 (.ref 225),HD.kE P "_law_order" 476 (.ref 232),HD.kE P "_law_taken" 482 (.ref 237),HD.kE P "_law_part" 491 (.ref 244),HD.kE P "_law_fraction" 500 (.ref 251),HD.kE P "_law_plus" 508 (.ref 258),HD.kE P "_law_less" 516 (.ref 265),HD.kE P "_law_weights" 522 (.ref 270),HD.kE P "_law_step" 535 (.ref 277),HD.kE P "_law_steps" 546 (.ref 284),HD.kE P "_law_fair" 552 (.ref 289),HD.kE P "_law_fractions_given" 562 (.ref 296),HD.kE P "_law_base" 571 (.ref 303),HD.kE P "_law_ratio" 580 (.ref 310),HD.kE P "_law_rising" 592 (.ref 317),HD.kE P "_law_levels" 605 (.ref 324),HD.kE P "_law_flat" 611 (.ref 329),HD.kE P "_law_case" 617 (.ref 334),HD.kE P "_law_changed" 633 (.ref 341),HD.kE P "_law_grow" 643 (.ref 348),HD.kE P "_law_due" 654 (.ref 355),HD.kE P "law" 670 (.ref 362)] 62,#[]⟩) ::
 (nat_lit 15,⟨.type "tuple",none,.seq #[.type "ValueError"] 0,#[]⟩) ::
 (nat_lit 22,⟨.type "tuple",none,.seq #[] 0,#[]⟩) ::
 (nat_lit 23,⟨.type "dict",none,.dict #[HD.kE P "__module__" 196 (.str "groupcost.errors" 187),HD.kE P "__firstlineno__" 200 (.int (2) 199),HD.kE P "__static_attributes__" 201 (.ref 22),HD.kE P "__weakref__" 203 (.ref 25),HD.kE P "__doc__" 204 (.none)] 3,#[]⟩) ::
 (nat_lit 24,⟨.type "type",none,.cls ⟨"CostError",[.type "ValueError"],[.ref 24,.type "ValueError",.type "Exception",.type "BaseException",.type "object"],23,"CostError",true,[],[.ref 37],false,none,false⟩,#[some (.ref 15),none,some (.str "CostError" 189),some (.str "CostError" 197),some (.builtin "ValueError.__new__"),some (.bool true)]⟩) ::
 (nat_lit 25,⟨.type "getset_descriptor",none,.fields #[.str "__weakref__" 202,.ref 24,.builtin "ExceptionGroup.__weakref__",.none],#[]⟩) ::
 (nat_lit 28,⟨.type "tuple",none,.seq #[.ref 24] 0,#[]⟩) ::
 (nat_lit 35,⟨.type "tuple",none,.seq #[] 0,#[]⟩) ::
 (nat_lit 36,⟨.type "dict",none,.dict #[HD.kE P "__module__" 214 (.str "groupcost.errors" 187),HD.kE P "__firstlineno__" 218 (.int (4) 217),HD.kE P "__static_attributes__" 219 (.ref 35),HD.kE P "__doc__" 220 (.none)] 2,#[]⟩) ::
 (nat_lit 37,⟨.type "type",none,.cls ⟨"Unlike",[.ref 24],[.ref 37,.ref 24,.type "ValueError",.type "Exception",.type "BaseException",.type "object"],36,"Unlike",true,[],[],false,none,false⟩,#[some (.ref 28),none,some (.str "Unlike" 207),some (.str "Unlike" 215),some (.builtin "ValueError.__new__"),some (.bool true)]⟩) ::
 (nat_lit 43,HD.kC "hands_in" 225 7 1 3 40 true 181 41 (.none) (.none) (.none) (.ref 42) 228) ::
 (nat_lit 44,⟨.type "function",none,.func (PySem.W.fnOf "hands_in" "hands_in" (L2.defArgs (top 4)) (L2.defBody (top 4)) (L2.defScope (top 4)) (.none) (.none) (.none) (.str "groupcost.masks" 223) (none) (.ref 43) (.none)),#[]⟩) ::
 (nat_lit 50,HD.kC "within" 231 9 2 3 45 true 181 46 (.none) (.ref 47) (.ref 48) (.ref 49) 236) ::
 (nat_lit 51,⟨.type "function",none,.func (PySem.W.fnOf "within" "within" (L2.defArgs (top 5)) (L2.defBody (top 5)) (L2.defScope (top 5)) (.none) (.none) (.none) (.str "groupcost.masks" 223) (none) (.ref 50) (.none)),#[]⟩) ::
 (nat_lit 57,HD.kC "hand_count" 241 12 1 3 52 true 181 53 (.none) (.ref 54) (.ref 55) (.ref 56) 245) ::
 (nat_lit 58,⟨.type "function",none,.func (PySem.W.fnOf "hand_count" "hand_count" (L2.defArgs (top 7)) (L2.defBody (top 7)) (L2.defScope (top 7)) (.none) (.none) (.none) (.str "groupcost.tables" 239) (none) (.ref 57) (.none)),#[]⟩) ::
 (nat_lit 64,HD.kC "everybody" 248 14 1 3 59 true 181 60 (.none) (.ref 61) (.ref 62) (.ref 63) 252) ::
 (nat_lit 65,⟨.type "function",none,.func (PySem.W.fnOf "everybody" "everybody" (L2.defArgs (top 8)) (L2.defBody (top 8)) (L2.defScope (top 8)) (.none) (.none) (.none) (.str "groupcost.tables" 239) (none) (.ref 64) (.none)),#[]⟩) ::
 (nat_lit 69,HD.kC "row_gives" 255 16 2 3 66 true 181 67 (.none) (.none) (.none) (.ref 68) 258) ::
 (nat_lit 70,⟨.type "function",none,.func (PySem.W.fnOf "row_gives" "row_gives" (L2.defArgs (top 9)) (L2.defBody (top 9)) (L2.defScope (top 9)) (.none) (.none) (.none) (.str "groupcost.tables" 239) (none) (.ref 69) (.none)),#[]⟩) ::
 (nat_lit 74,HD.kC "scaled" 261 18 2 3 71 true 181 72 (.none) (.none) (.none) (.ref 73) 264) ::
 (nat_lit 75,⟨.type "function",none,.func (PySem.W.fnOf "scaled" "scaled" (L2.defArgs (top 10)) (L2.defBody (top 10)) (L2.defScope (top 10)) (.none) (.none) (.none) (.str "groupcost.tables" 239) (none) (.ref 74) (.none)),#[]⟩) ::
 (nat_lit 79,HD.kC "less_row" 267 20 2 3 76 true 181 77 (.none) (.none) (.none) (.ref 78) 270) ::
 (nat_lit 80,⟨.type "function",none,.func (PySem.W.fnOf "less_row" "less_row" (L2.defArgs (top 11)) (L2.defBody (top 11)) (L2.defScope (top 11)) (.none) (.none) (.none) (.str "groupcost.tables" 239) (none) (.ref 79) (.none)),#[]⟩) ::
 (nat_lit 86,HD.kC "common_divisor" 275 25 2 3 81 true 181 82 (.none) (.ref 83) (.ref 84) (.ref 85) 283) ::
 (nat_lit 87,⟨.type "function",none,.func (PySem.W.fnOf "common_divisor" "common_divisor" (L2.defArgs (top 13)) (L2.defBody (top 13)) (L2.defScope (top 13)) (.none) (.none) (.none) (.str "groupcost.fractions" 273) (none) (.ref 86) (.none)),#[]⟩) ::
 (nat_lit 93,HD.kC "fraction" 286 33 2 3 88 true 181 89 (.none) (.ref 90) (.ref 91) (.ref 92) 292) ::
 (nat_lit 94,⟨.type "function",none,.func (PySem.W.fnOf "fraction" "fraction" (L2.defArgs (top 14)) (L2.defBody (top 14)) (L2.defScope (top 14)) (.none) (.none) (.none) (.str "groupcost.fractions" 273) (none) (.ref 93) (.none)),#[]⟩) ::
 (nat_lit 100,HD.kC "fraction_less" 295 38 2 3 95 true 181 96 (.none) (.ref 97) (.ref 98) (.ref 99) 300) ::
 (nat_lit 101,⟨.type "function",none,.func (PySem.W.fnOf "fraction_less" "fraction_less" (L2.defArgs (top 15)) (L2.defBody (top 15)) (L2.defScope (top 15)) (.none) (.none) (.none) (.str "groupcost.fractions" 273) (none) (.ref 100) (.none)),#[]⟩) ::
 (nat_lit 107,HD.kC "fraction_times" 303 40 2 3 102 true 181 103 (.none) (.ref 104) (.ref 105) (.ref 106) 308) ::
 (nat_lit 108,⟨.type "function",none,.func (PySem.W.fnOf "fraction_times" "fraction_times" (L2.defArgs (top 16)) (L2.defBody (top 16)) (L2.defScope (top 16)) (.none) (.none) (.none) (.str "groupcost.fractions" 273) (none) (.ref 107) (.none)),#[]⟩) ::
 (nat_lit 114,HD.kC "over" 313 43 2 3 109 true 181 110 (.none) (.ref 111) (.ref 112) (.ref 113) 320) ::
 (nat_lit 115,⟨.type "function",none,.func (PySem.W.fnOf "over" "over" (L2.defArgs (top 18)) (L2.defBody (top 18)) (L2.defScope (top 18)) (.none) (.none) (.none) (.str "groupcost.shares" 311) (none) (.ref 114) (.none)),#[]⟩) ::
 (nat_lit 121,HD.kC "is_under" 323 47 2 3 116 true 181 117 (.none) (.ref 118) (.ref 119) (.ref 120) 328) ::
 (nat_lit 122,⟨.type "function",none,.func (PySem.W.fnOf "is_under" "is_under" (L2.defArgs (top 19)) (L2.defBody (top 19)) (L2.defScope (top 19)) (.none) (.none) (.none) (.str "groupcost.shares" 311) (none) (.ref 121) (.none)),#[]⟩) ::
 (nat_lit 128,HD.kC "is_base" 331 49 2 3 123 true 181 124 (.none) (.ref 125) (.ref 126) (.ref 127) 337) ::
 (nat_lit 129,⟨.type "function",none,.func (PySem.W.fnOf "is_base" "is_base" (L2.defArgs (top 20)) (L2.defBody (top 20)) (L2.defScope (top 20)) (.none) (.none) (.none) (.str "groupcost.shares" 311) (none) (.ref 128) (.none)),#[]⟩) ::
 (nat_lit 135,HD.kC "weights_for" 342 53 2 3 130 true 181 131 (.none) (.ref 132) (.ref 133) (.ref 134) 347) ::
 (nat_lit 136,⟨.type "function",none,.func (PySem.W.fnOf "weights_for" "weights_for" (L2.defArgs (top 22)) (L2.defBody (top 22)) (L2.defScope (top 22)) (.none) (.none) (.none) (.str "groupcost.fairest" 340) (none) (.ref 135) (.none)),#[]⟩) ::
 (nat_lit 140,HD.kC "first_fraction" 350 55 2 3 137 true 181 138 (.none) (.none) (.none) (.ref 139) 353) ::
 (nat_lit 141,⟨.type "function",none,.func (PySem.W.fnOf "first_fraction" "first_fraction" (L2.defArgs (top 23)) (L2.defBody (top 23)) (L2.defScope (top 23)) (.none) (.none) (.none) (.str "groupcost.fairest" 340) (none) (.ref 140) (.none)),#[]⟩) ::
 (nat_lit 145,HD.kC "shares_by_steps" 356 57 2 3 142 true 181 143 (.none) (.none) (.none) (.ref 144) 359) ::
 (nat_lit 146,⟨.type "function",none,.func (PySem.W.fnOf "shares_by_steps" "shares_by_steps" (L2.defArgs (top 24)) (L2.defBody (top 24)) (L2.defScope (top 24)) (.none) (.none) (.none) (.str "groupcost.fairest" 340) (none) (.ref 145) (.none)),#[]⟩) ::
 (nat_lit 152,HD.kC "groups_grow" 362 59 2 3 147 true 181 148 (.none) (.ref 149) (.ref 150) (.ref 151) 370) ::
 (nat_lit 153,⟨.type "function",none,.func (PySem.W.fnOf "groups_grow" "groups_grow" (L2.defArgs (top 25)) (L2.defBody (top 25)) (L2.defScope (top 25)) (.none) (.none) (.none) (.str "groupcost.fairest" 340) (none) (.ref 152) (.none)),#[]⟩) ::
 (nat_lit 157,HD.kC "fractions_grow" 373 66 1 3 154 true 181 155 (.none) (.none) (.none) (.ref 156) 376) ::
 (nat_lit 158,⟨.type "function",none,.func (PySem.W.fnOf "fractions_grow" "fractions_grow" (L2.defArgs (top 26)) (L2.defBody (top 26)) (L2.defScope (top 26)) (.none) (.none) (.none) (.str "groupcost.fairest" 340) (none) (.ref 157) (.none)),#[]⟩) ::
 (nat_lit 162,HD.kC "fills" 379 68 3 3 159 true 181 160 (.none) (.none) (.none) (.ref 161) 382) ::
 (nat_lit 163,⟨.type "function",none,.func (PySem.W.fnOf "fills" "fills" (L2.defArgs (top 27)) (L2.defBody (top 27)) (L2.defScope (top 27)) (.none) (.none) (.none) (.str "groupcost.fairest" 340) (none) (.ref 162) (.none)),#[]⟩) ::
 (nat_lit 169,HD.kC "shows_fairest" 385 75 4 3 164 true 181 165 (.none) (.ref 166) (.ref 167) (.ref 168) 392) ::
 (nat_lit 170,⟨.type "function",none,.func (PySem.W.fnOf "shows_fairest" "shows_fairest" (L2.defArgs (top 28)) (L2.defBody (top 28)) (L2.defScope (top 28)) (.none) (.none) (.none) (.str "groupcost.fairest" 340) (none) (.ref 169) (.none)),#[]⟩) ::
 (nat_lit 176,HD.kC "_law_mixed" 397 80 2 3 171 true 181 172 (.none) (.ref 173) (.ref 174) (.ref 175) 403) ::
 (nat_lit 177,⟨.type "function",none,.func (PySem.W.fnOf "_law_mixed" "_law_mixed" (L2.defArgs (top 30)) (L2.defBody (top 30)) (L2.defScope (top 30)) (.none) (.none) (.none) (.str "law_groupcost_k65_papers_of_the_fairest" 395) (none) (.ref 176) (.none)),#[]⟩) ::
 (nat_lit 183,HD.kC "_law_hands" 406 85 1 3 178 true 181 179 (.none) (.ref 180) (.ref 181) (.ref 182) 410) ::
 (nat_lit 184,⟨.type "function",none,.func (PySem.W.fnOf "_law_hands" "_law_hands" (L2.defArgs (top 31)) (L2.defBody (top 31)) (L2.defScope (top 31)) (.none) (.none) (.none) (.str "law_groupcost_k65_papers_of_the_fairest" 395) (none) (.ref 183) (.none)),#[]⟩) ::
 (nat_lit 188,HD.kC "_law_folded" 413 87 3 3 185 true 181 186 (.none) (.none) (.none) (.ref 187) 416) ::
 (nat_lit 189,⟨.type "function",none,.func (PySem.W.fnOf "_law_folded" "_law_folded" (L2.defArgs (top 32)) (L2.defBody (top 32)) (L2.defScope (top 32)) (.none) (.none) (.none) (.str "law_groupcost_k65_papers_of_the_fairest" 395) (none) (.ref 188) (.none)),#[]⟩) ::
 (nat_lit 195,HD.kC "_law_many" 419 93 1 3 190 true 181 191 (.none) (.ref 192) (.ref 193) (.ref 194) 424) ::
 (nat_lit 196,⟨.type "function",none,.func (PySem.W.fnOf "_law_many" "_law_many" (L2.defArgs (top 33)) (L2.defBody (top 33)) (L2.defScope (top 33)) (.none) (.none) (.none) (.str "law_groupcost_k65_papers_of_the_fairest" 395) (none) (.ref 195) (.none)),#[]⟩) ::
 (nat_lit 202,HD.kC "_law_noise_table" 427 99 2 3 197 true 181 198 (.none) (.ref 199) (.ref 200) (.ref 201) 437) ::
 (nat_lit 203,⟨.type "function",none,.func (PySem.W.fnOf "_law_noise_table" "_law_noise_table" (L2.defArgs (top 34)) (L2.defBody (top 34)) (L2.defScope (top 34)) (.none) (.none) (.none) (.str "law_groupcost_k65_papers_of_the_fairest" 395) (none) (.ref 202) (.none)),#[]⟩) ::
 (nat_lit 207,HD.kC "_law_ties_table" 440 107 2 3 204 true 181 205 (.none) (.none) (.none) (.ref 206) 443) ::
 (nat_lit 208,⟨.type "function",none,.func (PySem.W.fnOf "_law_ties_table" "_law_ties_table" (L2.defArgs (top 35)) (L2.defBody (top 35)) (L2.defScope (top 35)) (.none) (.none) (.none) (.str "law_groupcost_k65_papers_of_the_fairest" 395) (none) (.ref 207) (.none)),#[]⟩) ::
 (nat_lit 214,HD.kC "_law_falling" 446 124 2 3 209 true 181 210 (.none) (.ref 211) (.ref 212) (.ref 213) 451) ::
 (nat_lit 215,⟨.type "function",none,.func (PySem.W.fnOf "_law_falling" "_law_falling" (L2.defArgs (top 36)) (L2.defBody (top 36)) (L2.defScope (top 36)) (.none) (.none) (.none) (.str "law_groupcost_k65_papers_of_the_fairest" 395) (none) (.ref 214) (.none)),#[]⟩) ::
 (nat_lit 219,HD.kC "_law_any_table" 454 128 2 3 216 true 181 217 (.none) (.none) (.none) (.ref 218) 457) ::
 (nat_lit 220,⟨.type "function",none,.func (PySem.W.fnOf "_law_any_table" "_law_any_table" (L2.defArgs (top 37)) (L2.defBody (top 37)) (L2.defScope (top 37)) (.none) (.none) (.none) (.str "law_groupcost_k65_papers_of_the_fairest" 395) (none) (.ref 219) (.none)),#[]⟩) ::
 (nat_lit 224,HD.kC "_law_given" 460 134 2 3 221 true 181 222 (.none) (.none) (.none) (.ref 223) 463) ::
 (nat_lit 225,⟨.type "function",none,.func (PySem.W.fnOf "_law_given" "_law_given" (L2.defArgs (top 38)) (L2.defBody (top 38)) (L2.defScope (top 38)) (.none) (.none) (.none) (.str "law_groupcost_k65_papers_of_the_fairest" 395) (none) (.ref 224) (.none)),#[]⟩) ::
 (nat_lit 231,HD.kC "_law_order" 466 136 3 3 226 true 181 227 (.none) (.ref 228) (.ref 229) (.ref 230) 474) ::
 (nat_lit 232,⟨.type "function",none,.func (PySem.W.fnOf "_law_order" "_law_order" (L2.defArgs (top 39)) (L2.defBody (top 39)) (L2.defScope (top 39)) (.none) (.none) (.none) (.str "law_groupcost_k65_papers_of_the_fairest" 395) (none) (.ref 231) (.none)),#[]⟩) ::
 (nat_lit 236,HD.kC "_law_taken" 477 141 2 3 233 true 181 234 (.none) (.none) (.none) (.ref 235) 480) ::
 (nat_lit 237,⟨.type "function",none,.func (PySem.W.fnOf "_law_taken" "_law_taken" (L2.defArgs (top 40)) (L2.defBody (top 40)) (L2.defScope (top 40)) (.none) (.none) (.none) (.str "law_groupcost_k65_papers_of_the_fairest" 395) (none) (.ref 236) (.none)),#[]⟩) ::
 (nat_lit 243,HD.kC "_law_part" 483 148 2 3 238 true 181 239 (.none) (.ref 240) (.ref 241) (.ref 242) 489) ::
 (nat_lit 244,⟨.type "function",none,.func (PySem.W.fnOf "_law_part" "_law_part" (L2.defArgs (top 41)) (L2.defBody (top 41)) (L2.defScope (top 41)) (.none) (.none) (.none) (.str "law_groupcost_k65_papers_of_the_fairest" 395) (none) (.ref 243) (.none)),#[]⟩) ::
 (nat_lit 250,HD.kC "_law_fraction" 492 154 2 3 245 true 181 246 (.none) (.ref 247) (.ref 248) (.ref 249) 498) ::
 (nat_lit 251,⟨.type "function",none,.func (PySem.W.fnOf "_law_fraction" "_law_fraction" (L2.defArgs (top 42)) (L2.defBody (top 42)) (L2.defScope (top 42)) (.none) (.none) (.none) (.str "law_groupcost_k65_papers_of_the_fairest" 395) (none) (.ref 250) (.none)),#[]⟩) ::
 (nat_lit 257,HD.kC "_law_plus" 501 157 2 3 252 true 181 253 (.none) (.ref 254) (.ref 255) (.ref 256) 506) ::
 (nat_lit 258,⟨.type "function",none,.func (PySem.W.fnOf "_law_plus" "_law_plus" (L2.defArgs (top 43)) (L2.defBody (top 43)) (L2.defScope (top 43)) (.none) (.none) (.none) (.str "law_groupcost_k65_papers_of_the_fairest" 395) (none) (.ref 257) (.none)),#[]⟩) ::
 (nat_lit 264,HD.kC "_law_less" 509 159 2 3 259 true 181 260 (.none) (.ref 261) (.ref 262) (.ref 263) 514) ::
 (nat_lit 265,⟨.type "function",none,.func (PySem.W.fnOf "_law_less" "_law_less" (L2.defArgs (top 44)) (L2.defBody (top 44)) (L2.defScope (top 44)) (.none) (.none) (.none) (.str "law_groupcost_k65_papers_of_the_fairest" 395) (none) (.ref 264) (.none)),#[]⟩) ::
 (nat_lit 269,HD.kC "_law_weights" 517 161 2 3 266 true 181 267 (.none) (.none) (.none) (.ref 268) 520) ::
 (nat_lit 270,⟨.type "function",none,.func (PySem.W.fnOf "_law_weights" "_law_weights" (L2.defArgs (top 45)) (L2.defBody (top 45)) (L2.defScope (top 45)) (.none) (.none) (.none) (.str "law_groupcost_k65_papers_of_the_fairest" 395) (none) (.ref 269) (.none)),#[]⟩) ::
 (nat_lit 276,HD.kC "_law_step" 523 168 3 3 271 true 181 272 (.none) (.ref 273) (.ref 274) (.ref 275) 533) ::
 (nat_lit 277,⟨.type "function",none,.func (PySem.W.fnOf "_law_step" "_law_step" (L2.defArgs (top 46)) (L2.defBody (top 46)) (L2.defScope (top 46)) (.none) (.none) (.none) (.str "law_groupcost_k65_papers_of_the_fairest" 395) (none) (.ref 276) (.none)),#[]⟩) ::
 (nat_lit 283,HD.kC "_law_steps" 536 180 2 3 278 true 181 279 (.none) (.ref 280) (.ref 281) (.ref 282) 544) ::
 (nat_lit 284,⟨.type "function",none,.func (PySem.W.fnOf "_law_steps" "_law_steps" (L2.defArgs (top 47)) (L2.defBody (top 47)) (L2.defScope (top 47)) (.none) (.none) (.none) (.str "law_groupcost_k65_papers_of_the_fairest" 395) (none) (.ref 283) (.none)),#[]⟩) ::
 (nat_lit 288,HD.kC "_law_fair" 547 188 2 3 285 true 181 286 (.none) (.none) (.none) (.ref 287) 550) ::
 (nat_lit 289,⟨.type "function",none,.func (PySem.W.fnOf "_law_fair" "_law_fair" (L2.defArgs (top 48)) (L2.defBody (top 48)) (L2.defScope (top 48)) (.none) (.none) (.none) (.str "law_groupcost_k65_papers_of_the_fairest" 395) (none) (.ref 288) (.none)),#[]⟩) ::
 (nat_lit 295,HD.kC "_law_fractions_given" 553 194 2 3 290 true 181 291 (.none) (.ref 292) (.ref 293) (.ref 294) 560) ::
 (nat_lit 296,⟨.type "function",none,.func (PySem.W.fnOf "_law_fractions_given" "_law_fractions_given" (L2.defArgs (top 49)) (L2.defBody (top 49)) (L2.defScope (top 49)) (.none) (.none) (.none) (.str "law_groupcost_k65_papers_of_the_fairest" 395) (none) (.ref 295) (.none)),#[]⟩) ::
 (nat_lit 302,HD.kC "_law_base" 563 200 2 3 297 true 181 298 (.none) (.ref 299) (.ref 300) (.ref 301) 569) ::
 (nat_lit 303,⟨.type "function",none,.func (PySem.W.fnOf "_law_base" "_law_base" (L2.defArgs (top 50)) (L2.defBody (top 50)) (L2.defScope (top 50)) (.none) (.none) (.none) (.str "law_groupcost_k65_papers_of_the_fairest" 395) (none) (.ref 302) (.none)),#[]⟩) ::
 (nat_lit 309,HD.kC "_law_ratio" 572 205 3 3 304 true 181 305 (.none) (.ref 306) (.ref 307) (.ref 308) 578) ::
 (nat_lit 310,⟨.type "function",none,.func (PySem.W.fnOf "_law_ratio" "_law_ratio" (L2.defArgs (top 51)) (L2.defBody (top 51)) (L2.defScope (top 51)) (.none) (.none) (.none) (.str "law_groupcost_k65_papers_of_the_fairest" 395) (none) (.ref 309) (.none)),#[]⟩) ::
 (nat_lit 316,HD.kC "_law_rising" 581 207 2 3 311 true 181 312 (.none) (.ref 313) (.ref 314) (.ref 315) 590) ::
 (nat_lit 317,⟨.type "function",none,.func (PySem.W.fnOf "_law_rising" "_law_rising" (L2.defArgs (top 52)) (L2.defBody (top 52)) (L2.defScope (top 52)) (.none) (.none) (.none) (.str "law_groupcost_k65_papers_of_the_fairest" 395) (none) (.ref 316) (.none)),#[]⟩) ::
 (nat_lit 323,HD.kC "_law_levels" 593 216 3 3 318 true 181 319 (.none) (.ref 320) (.ref 321) (.ref 322) 603) ::
 (nat_lit 324,⟨.type "function",none,.func (PySem.W.fnOf "_law_levels" "_law_levels" (L2.defArgs (top 53)) (L2.defBody (top 53)) (L2.defScope (top 53)) (.none) (.none) (.none) (.str "law_groupcost_k65_papers_of_the_fairest" 395) (none) (.ref 323) (.none)),#[]⟩) ::
 (nat_lit 328,HD.kC "_law_flat" 606 228 1 3 325 true 181 326 (.none) (.none) (.none) (.ref 327) 609) ::
 (nat_lit 329,⟨.type "function",none,.func (PySem.W.fnOf "_law_flat" "_law_flat" (L2.defArgs (top 54)) (L2.defBody (top 54)) (L2.defScope (top 54)) (.none) (.none) (.none) (.str "law_groupcost_k65_papers_of_the_fairest" 395) (none) (.ref 328) (.none)),#[]⟩) ::
 (nat_lit 333,HD.kC "_law_case" 612 230 3 3 330 true 181 331 (.none) (.none) (.none) (.ref 332) 615) ::
 (nat_lit 334,⟨.type "function",none,.func (PySem.W.fnOf "_law_case" "_law_case" (L2.defArgs (top 55)) (L2.defBody (top 55)) (L2.defScope (top 55)) (.none) (.none) (.none) (.str "law_groupcost_k65_papers_of_the_fairest" 395) (none) (.ref 333) (.none)),#[]⟩) ::
 (nat_lit 340,HD.kC "_law_changed" 618 254 4 3 335 true 181 336 (.none) (.ref 337) (.ref 338) (.ref 339) 631) ::
 (nat_lit 341,⟨.type "function",none,.func (PySem.W.fnOf "_law_changed" "_law_changed" (L2.defArgs (top 56)) (L2.defBody (top 56)) (L2.defScope (top 56)) (.none) (.none) (.none) (.str "law_groupcost_k65_papers_of_the_fairest" 395) (none) (.ref 340) (.none)),#[]⟩) ::
 (nat_lit 347,HD.kC "_law_grow" 634 278 2 3 342 true 181 343 (.none) (.ref 344) (.ref 345) (.ref 346) 641) ::
 (nat_lit 348,⟨.type "function",none,.func (PySem.W.fnOf "_law_grow" "_law_grow" (L2.defArgs (top 57)) (L2.defBody (top 57)) (L2.defScope (top 57)) (.none) (.none) (.none) (.str "law_groupcost_k65_papers_of_the_fairest" 395) (none) (.ref 347) (.none)),#[]⟩) ::
 (nat_lit 354,HD.kC "_law_due" 644 287 4 3 349 true 181 350 (.none) (.ref 351) (.ref 352) (.ref 353) 652) ::
 (nat_lit 355,⟨.type "function",none,.func (PySem.W.fnOf "_law_due" "_law_due" (L2.defArgs (top 58)) (L2.defBody (top 58)) (L2.defScope (top 58)) (.none) (.none) (.none) (.str "law_groupcost_k65_papers_of_the_fairest" 395) (none) (.ref 354) (.none)),#[]⟩) ::
 (nat_lit 361,HD.kC "law" 655 294 1 3 356 true 181 357 (.none) (.ref 358) (.ref 359) (.ref 360) 668) ::
 (nat_lit 362,⟨.type "function",none,.func (PySem.W.fnOf "law" "law" (L2.defArgs (top 59)) (L2.defBody (top 59)) (L2.defScope (top 59)) (.none) (.none) (.none) (.str "law_groupcost_k65_papers_of_the_fairest" 395) (none) (.ref 361) (.none)),#[]⟩)::[]
def KA:List Nat:=[3,15,22,23,24,25,28,35,36,37,43,44,50,51,57,58,64,65,69,70,74,75,79,80,86,87,93,94,100,101,107,108,114,115,121,122,128,129,135,136,140,141,145,146,152,153,157,158,162,163,169,170,176,177,183,184,188,189,195,196,202,203,207,208,214,215,219,220,224,225,231,232,236,237,243,244,250,251,257,258,264,265,269,270,276,277,283,284,288,289,295,296,302,303,309,310,316,317,323,324,328,329,333,334,340,341,347,348,354,355,361,362]
theorem KE (P:Params):KA=(KF P).map (·.1):=by kernel_rfl
noncomputable abbrev qq:Program:=PySem.W.view PySem.Challenge.pw_groupcost_k65_papers_of_the_fairest [59]
noncomputable abbrev lo:List Str:=(["CostError","Unlike","hands_in","within","hand_count","everybody","row_gives","scaled","less_row","common_divisor","fraction","fraction_less","fraction_times","over","is_under","is_base","weights_for","first_fraction","shares_by_steps","groups_grow","fractions_grow","fills","shows_fairest","_law_mixed","_law_hands","_law_folded","_law_many","_law_noise_table","_law_ties_table","_law_falling","_law_any_table","_law_given","_law_order","_law_taken","_law_part","_law_fraction","_law_plus","_law_less","_law_weights","_law_step","_law_steps","_law_fair","_law_fractions_given","_law_base","_law_ratio","_law_rising","_law_levels","_law_flat","_law_case","_law_changed","_law_grow","_law_due"]:List String).map Str.ofString
noncomputable abbrev Xt (s:Shared):Bool:=PySem.W.xlAt qq [] s&&PySem.W.recOk (PySem.W.RowW.records (PySem.W.OpenRow.toRowW PySem.Challenge.rw_groupcost_k65_papers_of_the_fairest.row)) s
theorem left:PySem.W.LeftO PySem.Challenge.pw_groupcost_k65_papers_of_the_fairest qq lo Xt (PySem.W.Hook.obs (PySem.W.kHook KF KA KE)) (PySem.W.Hook.val (PySem.W.kHook KF KA KE)) 4698:=
 HD.left_of (PySem.W.boot_open (by kernel_rfl) (by kernel_rfl) (fun s=>by kernel_rfl)) fun w os=>by kernel_rfl
end My
open PySem PySem.W PyProof.Rows
set_option maxRecDepth 100000 in
set_option maxHeartbeats 0 in
theorem PySem.Challenge.cw_groupcost_k65_papers_of_the_fairest_holds : PySem.Challenge.rw_groupcost_k65_papers_of_the_fairest.Holds := by
 w_on
 refine holds_law (HD.said_of (by kernel_rfl)) fun said => ?_;refine holds_open (q := My.qq) (loose := My.lo) (Xt := My.Xt) (XP := XL My.qq []) (YP := Hook.says (kHook My.KF My.KA My.KE)) My.left (Hook.of (kHook My.KF My.KA My.KE)) (Hook.keeps (kHook My.KF My.KA My.KE)) (fun s e => xl_of s (aJ2.mp e).1) XL.keeps (by rfl) (by rfl) (by rfl) (fun s e => recFacts_of (aJ2.mp e).2) (by rfl) said (by decide +kernel) ⟨rfl, rfl, rfl, rfl, rfl, by decide +kernel⟩ ?hw ?hc
 case hw => w_witness2
 k_fill
 refine My.walk (l := PySem.Challenge.rw_groupcost_k65_papers_of_the_fairest) rfl rfl (fun w h Y => PySem.W.kIn_of Y) ?F
 case F =>
  intro w mg fa h KX G hmg;refine' My.all_mk KX G hmg ?a0 ?l0 ?cc0 ?k0 ?a1 ?l1 ?cc1 ?k1 ?a2 ?l2 ?cc2 ?k2 ?a3 ?l3 ?cc3 ?k3 ?a4 ?l4 ?cc4 ?k4 ?a5 ?l5 ?cc5 ?k5 ?a6 ?l6 ?cc6 ?k6 ?a7 ?l7 ?cc7 ?k7 ?a8 ?l8 ?cc8 ?k8 ?a9 ?l9 ?cc9 ?k9 ?a10 ?l10 ?cc10 ?k10 ?a11 ?l11 ?cc11 ?k11 ?a12 ?l12 ?cc12 ?k12 ?a13 ?l13 ?cc13 ?k13 ?a14 ?l14 ?cc14 ?k14 ?a15 ?l15 ?cc15 ?k15 ?a16 ?l16 ?cc16 ?k16 ?a17 ?l17 ?cc17 ?k17 ?a18 ?l18 ?cc18 ?k18 ?a19 ?l19 ?cc19 ?k19 ?a20 ?l20 ?cc20 ?k20 ?a21 ?l21 ?cc21 ?k21 ?a22 ?l22 ?cc22 ?k22 ?a23 ?l23 ?cc23 ?k23 ?a24 ?l24 ?cc24 ?k24 ?a25 ?l25 ?cc25 ?k25 ?a26 ?l26 ?cc26 ?k26 ?a27 ?l27 ?cc27 ?k27 ?a28 ?l28 ?cc28 ?k28 ?a29 ?l29 ?cc29 ?k29 ?a30 ?l30 ?cc30 ?k30 ?a31 ?l31 ?cc31 ?k31 ?a32 ?l32 ?cc32 ?k32 ?a33 ?l33 ?cc33 ?k33 ?a34 ?l34 ?cc34 ?k34 ?a35 ?l35 ?cc35 ?k35 ?a36 ?l36 ?cc36 ?k36 ?a37 ?l37 ?cc37 ?k37 ?a38 ?l38 ?cc38 ?k38 ?a39 ?l39 ?cc39 ?k39 ?a40 ?l40 ?cc40 ?k40 ?a41 ?l41 ?cc41 ?k41 ?a42 ?l42 ?cc42 ?k42 ?a43 ?l43 ?cc43 ?k43 ?a44 ?l44 ?cc44 ?k44 ?a45 ?l45 ?cc45 ?k45 ?a46 ?l46 ?cc46 ?k46 ?a47 ?l47 ?cc47 ?k47 ?a48 ?l48 ?cc48 ?k48 ?a49 ?l49 ?cc49 ?k49 ?a50 ?l50 ?cc50 ?k50 ?nolb ?aIk ?aIe ?aIl ?aIm ?aIh ?aIj ?aIg ?aIn ?aIi ?aIb ?aI9 ?aIf
  case nolb => kernel_rfl
  any_goals (show _ = _; k_is)
