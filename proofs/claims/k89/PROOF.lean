import PyProof.Rows.All
import Wide.All
import OpenK.AllK
import Wide.FinOn
import Lean
import PyProof.EqAt
import PyProof.EqKinds
import PyProof.TupleCall
import PyProof.NeKinds
import PyProof.SliceMore
import PyProof.AutoListH
import PyProof.WalksEnum
import PyProof.EnumMake
import PyProof.ZipIter
import PyProof.ConsumeS
import PyProof.WalkInts
import PyProof.ListRange
import PyProof.Rows.SortRev
import PyProof.Rows.SortWalk
import PyProof.Rows.CallKwBuiltin
import PyProof.Rows.RuleN_abs
import PyProof.Rows.FactsN_abs
import Open.Boot
import Open.Tree
import Open.FastT9
import PyProof.Rows.SetFrom
import PyProof.CollectWalk
import PyProof.ForAny
import PyProof.EnumIter
import KE.KRevIter
import KE.KSortTup
import KE.KLam
import KE.KNestM
import KE.KIntText
import PyProof.StrReplace2
import PyProof.StrBlockH
import PyProof.StrWalks
import PyProof.DictStraight
import PyProof.Rows.TupMore
import PyProof.TupleIter
import KE.KSortAsk
import KE.KUnpack
import PySem.Challenge.RW_groupcost_k89_whole_pages_of_makers
set_option Elab.async false
set_option linter.all false
set_option maxRecDepth 100000
def aIi := @Option.some.inj
def aIj := @List.getD_eq_getElem?_getD
def aIk := @List.getElem?_eq_getElem
def aIl := @List.mem_cons_of_mem
def aIm := @List.mem_cons_self
def aIn := @List.getElem?_eq_some_iff
def aIo := @List.all_eq_true
def aIp := @List.mem_range
def aIq := @Nat.lt_of_lt_of_le
def aIr := @List.size_toArray
def aIs := @List.getElem?_set_ne
def aIt := @PySem.Heap.get?_push_of_some
def aIu := @List.mem_cons
def aIw := @Bool.and_eq_true
def aIx := @Bool.and_eq_true_iff
def aIz := @Bool.eq_iff_iff
def aJ0 := @Bool.false_eq_true
def aJ1 := @Bool.false_ne_true
def aJ2 := @PySem.Heap.get?_push_size
def aJ3 := @PySem.Heap.lt_size
def aJ4 := @PySem.Heap.size_push
def aJ5 := @Int.emod_lt_of_pos
def aJ6 := @Int.emod_nonneg
def aJ7 := @Int.toNat_natCast
def aJ8 := @List.append_assoc
def aJ9 := @List.drop_eq_getElem_cons
def aJa := @List.drop_eq_nil_of_le
def aJb := @List.filterMap_cons
def aJd := @List.findSome?_cons
def aJk := @List.getElem?_map
def aJl := @List.getElem?_set_self
def aJn := @List.length_append
def aJo := @List.length_cons
def aJq := @List.length_map
def aJr := @List.length_nil
def aJs := @List.length_range
def aJt := @List.length_replicate
def aJu := @List.length_singleton
def aJw := @List.lookup_cons
def aJy := @List.map_cons
def aJz := @List.map_map
def aK0 := @List.map_nil
def aK1 := @List.mem_append
def aK3 := @List.mem_append_right
def aK4 := @List.mem_map
def aK7 := @List.mem_singleton
def aK9 := @List.replicate_succ
def aKb := @Nat.le_max_left
def aKd := @Nat.le_of_lt
def aKe := @Nat.le_refl
def aKf := @Nat.le_trans
def aKg := @Nat.lt_irrefl
def aKj := @Nat.lt_succ_self
def aKk := @Nat.lt_trans
def aKl := @Nat.ne_of_gt
def aKm := @Nat.ne_of_lt
def aKo := @Nat.zero_le
def aKp := @Option.bind_none
def aKq := @Option.bind_some
def aKt := @PySem.W.mg_none_of
def aKu := @PySem.W.mg_of
namespace L2
open PySem PySem.Spec PyProof.Rows
abbrev Key:=Sum Int Str
def KD:Key->Value->Bool
 | .inl k,v=>Value.isInt k v
 | .inr x,v=>Value.isStrOf x v
def YK (w:World):Key->Int
 | .inl k=>hashInt k
 | .inr x=>hashStr w x
theorem kH:∀ {k:Key}{v:Value},KD k v=true->(∃ i t,k=Sum.inl i/\v=Value.int i t)\/(∃ x t,k=Sum.inr x/\v=Value.str x t)
 | .inl i,v,h=>by
  obtain⟨t,e⟩:=Value.isInt_shape (k:=i) (v:=v) h;exact .inl ⟨i,t,rfl,e⟩
 | .inr x,v,h=>by
  obtain⟨t,e⟩:=Value.isStrOf_shape (x:=x) (v:=v) h;exact .inr ⟨x,t,rfl,e⟩
theorem YL (a b:Int):decide ((Sum.inl a:Key)=Sum.inl b)=(a == b):=by
 by_cases e:a=b
 ·subst e;simp
 ·have h:¬ (Sum.inl a:Key)=Sum.inl b:=fun q=>e (Sum.inl.inj q)
  rw[decide_eq_false h];exact (beq_eq_false_iff_ne.mpr e).symm
theorem YO (a b:Str):decide ((Sum.inr a:Key)=Sum.inr b)=decide (a=b):=by
 by_cases e:a=b
 ·subst e;simp
 ·have h:¬ (Sum.inr a:Key)=Sum.inr b:=fun q=>e (Sum.inr.inj q)
  rw[decide_eq_false h,decide_eq_false e]
theorem YM (a:Int) (b:Str):decide ((Sum.inl a:Key)=Sum.inr b)=false:=decide_eq_false (fun q=>nomatch q)
theorem YN (a:Str) (b:Int):decide ((Sum.inr a:Key)=Sum.inl b)=false:=decide_eq_false (fun q=>nomatch q)
def CJ (prog:Program) (w:World):PySem.KeyKind prog w Key where
 is:=KD
 hash:=YK w
 inj:=fun v a b ha hb=>by
  rcases kH ha with ⟨i,t,rfl,rfl⟩ | ⟨x,t,rfl,rfl⟩
  ·rcases kH hb with ⟨j,u,rfl,e⟩ | ⟨y,u,rfl,e⟩
   ·injection e with e1 _;rw[e1]
   ·exact nomatch e
  ·rcases kH hb with ⟨j,u,rfl,e⟩ | ⟨y,u,rfl,e⟩
   ·exact nomatch e
   ·injection e with e1 _;rw[e1]
 byValue:=fun k v h=>by
  rcases kH h with ⟨i,t,rfl,rfl⟩ | ⟨x,t,rfl,rfl⟩<;>rfl
 pyHash:=fun hv h=>by
  rcases kH hv with ⟨i,t,rfl,rfl⟩ | ⟨x,t,rfl,rfl⟩
  ·exact wpAny_pyHash_int h
  ·exact wpAny_pyHash_str h
 eqBool:=fun hu hv h=>by
  rcases kH hu with ⟨i,t,rfl,rfl⟩ | ⟨x,t,rfl,rfl⟩
  ·rcases kH hv with ⟨j,u,rfl,rfl⟩ | ⟨y,u,rfl,rfl⟩
   ·rw[YL] at h;exact wpAny_eqBool_int h
   ·rw[YM] at h;exact SeqAt.EqAt.int_str i t y u _ _ _ _ h
  ·rcases kH hv with ⟨j,u,rfl,rfl⟩ | ⟨y,u,rfl,rfl⟩
   ·rw[YN] at h;exact SeqAt.EqAt.str_int x t j u _ _ _ _ h
   ·rw[YO] at h;exact wpAny_eqBool_str h
 «strs»:=fun k x t v h=>by
  rcases kH h with ⟨i,u,rfl,e⟩ | ⟨y,u,rfl,e⟩
  ·exact nomatch e
  ·injection e with e1 _
   subst e1;cases v<;>rfl
inductive V where
 | non | bl (b:Bool) | int (i:Int) | str (x:Str) | byt (b:Array UInt8) | flt (b:UInt64) | ref (a:Addr) | ty (n:String)
 deriving DecidableEq
def aX:V->Value->Prop
 | .non,u=>u=Value.none
 | .bl b,u=>u=Value.bool b
 | .int i,u=>∃ t,u=Value.int i t
 | .str x,u=>∃ t,u=Value.str x t
 | .byt b,u=>∃ t,u=Value.bytes b t
 | .flt b,u=>∃ t,u=Value.float b t
 | .ref a,u=>u=Value.ref a
 | .ty n,u=>u=Value.type n
abbrev aL:List V->List Value->Prop:=Paired aX
theorem aL.length {xs:List V}{us:List Value}(r:aL xs us):xs.length=us.length:=Paired.length r
theorem aL.get:∀ {xs:List V}{us:List Value}{i:Nat}{x:V},aL xs us->xs[i]?=some x->∃ u,us[i]?=some u/\aX x u
 | _,_,_,_,.nil,e=>by simp at e
 | _,_,0,_,.cons r _,e=>by simp at e;subst e;exact⟨_,rfl,r⟩
 | _,_,i+1,x,.cons _ t,e=>by
  obtain⟨u,h1,h2⟩:=aL.get (i:=i) (x:=x) t (by simpa using e);exact⟨u,by simpa using h1,h2⟩
theorem aL.set {x:V}{u:Value}(r:aX x u):∀ {xs:List V}{us:List Value}(i:Nat),aL xs us->aL (xs.set i x) (us.set i u)
 | _,_,_,.nil=>.nil
 | _,_,0,.cons _ t=>.cons r t
 | _,_,i+1,.cons q t=>.cons q (aL.set r i t)
theorem aL.append:∀ {xs ys:List V}{us ws:List Value},aL xs us->aL ys ws->aL (xs++ys) (us++ws)
 | _,_,_,_,.nil,s=>s
 | _,_,_,_,.cons r t,s=>.cons r (aL.append t s)
theorem aL.take:∀ {xs:List V}{us:List Value}(n:Nat),aL xs us->aL (xs.take n) (us.take n)
 | _,_,0,_=>.nil
 | _,_,_+1,.nil=>.nil
 | _,_,n+1,.cons r t=>.cons r (aL.take n t)
theorem aL.drop:∀ {xs:List V}{us:List Value}(n:Nat),aL xs us->aL (xs.drop n) (us.drop n)
 | _,_,0,r=>r
 | _,_,_+1,.nil=>.nil
 | _,_,n+1,.cons _ t=>aL.drop n t
theorem aL.none_of:∀ {xs:List V}{us:List Value}{i:Nat},aL xs us->xs[i]?=none->us[i]?=none:=fun {xs us i} r e=>by
 have h1:=r.length;have h2:xs.length<=i:=List.getElem?_eq_none_iff.mp e;exact List.getElem?_eq_none_iff.mpr (by lia)
def nF:Option V->Option Value->Prop
 | some v,some u=>aX v u
 | none,none=>True
 | _,_=>False
def KV {κ:Type}:List (κ × V)->List (κ × Value)->Prop:=Paired fun (p:κ × V) (q:κ × Value)=>p.1=q.1/\aX p.2 q.2
def kV:Key->V
 | .inl i=>.int i
 | .inr x=>.str x
inductive HO where
 /-- a list -/
 | lst (xs : List V)
 /-- a tuple (never changes) -/
 | tup (xs : List V)
 /-- a dict whose keys are ints and texts; one whose keys are tuples of ints and texts (the empty one is both) -/
 | dK (kvs : List (Key × V)) | dT (kvs : List (List Key × V))
 /-- a set of ints: its members, its size -/
 | set (S : Int -> Bool) (n : Nat)
 /-- an instance of the class at C, its dict at dx, its attributes -/
 | ins (C dx : Addr) (fs : List (Str × V))
 /-- the dict of the instance at x -/
 | own (x : Addr)
 /-- the dict of an exception -/
 | xd (fs : List (Str × V))
 /-- a bound method, f of x -/
 | met (f x : Addr)
 /-- a range object lo, lo + 1, .. below hi -/
 | rng (lo hi : Int)
 /-- a thing that is known to the object (the script; a dict while a loop walks it): read, never written while it is so -/
 | frz (o : Obj) (u : HO)
 /-- a code object's table -/
 | tbl (ps : Array Value)
 /-- any other thing, by what is true of its one object (a def of one's own: SetO a S n := HO.ext fun h => ..) -/
 | ext (φ : Heap -> Prop)
 /-- a code object's table that may hold the code q of a lambda at pos, which is tracked as its own -/
 | tbc (pos : Pos) (q : Str)
abbrev Hp:=Addr->Option HO
def upd (H:Hp) (a:Addr) (o:HO):Hp:=fun b=>if b=a then some o else H b
theorem bN {H:Hp}{a:Addr}{o:HO}:upd H a o a=some o:=by unfold upd;rw[if_pos rfl]
theorem aU {H:Hp}{a b:Addr}{o:HO}(h:b≠a):upd H a o b=H b:=by unfold upd;rw[if_neg h]
theorem KO {H:Hp}{a b:Addr}{o u:HO}(h:H a=some o) (h':H b=some u) (d:o≠u):a≠b:=by
 intro e;subst e;rw[h] at h';exact d (aIi h')
theorem cQ {H:Hp}{a b:Addr}{o:HO}(h:H a=some o) (h':H b=none):a≠b:=by
 intro e;subst e;rw[h] at h';cases h'
section
variable (P:Program) (w:World)
def dU (H : Hp) (h : Heap) (a : Addr) : HO -> Prop
 | .lst xs => xs.length <= sizeLine /\ ∃ (its : List Value) (n : Nat), aL xs its /\ h.get? a = some { cls := .type "list", data := .seq its.toArray n }
 | .tup xs => xs.length <= sizeLine /\ ∃ its : List Value, aL xs its /\ IsTup h a its.toArray
 | .dK kvs => kvs.length <= sizeLine /\ (a == sysModules) = false /\ ∃ vs, KV kvs vs /\ h.DictOf (CJ P w) a vs
 | .dT kvs => kvs.length <= sizeLine /\ (a == sysModules) = false /\ ∃ xs : List (List Key × Addr × Value),
   Paired (fun (p : List Key × V) (q : List Key × Addr × Value) => p.1 = q.1 /\ H q.2.1 = some (.tup (p.1.map kV)) /\ aX p.2 q.2.2) kvs xs /\
   ∃ o es ep, h.get? a = some o /\ o.ExactDict /\ o.data = .dict es ep /\ es.toList = xs.map (entryOfKey (tupleKind (CJ P w))) /\ (xs.map (·.1)).Nodup
 | .set S n => h.SetOf (intKind P w) a S n
 | .ins C dx fs => H dx = some (.own a) /\ fs.length <= 1000 /\ dx ≠ a /\ h.get? a = some (PySem.W.instObj C dx) /\
   ∃ mA, h.Ns1 dx mA /\ (∀ f, nF (fs.lookup f) (mA f)) /\ PySem.Within mA (fs.map (·.1))
 | .own _ => ∃ o, h.get? a = some o
 | .xd fs => ∃ mA, h.Ns1 a mA /\ ∀ f, nF (fs.lookup f) (mA f)
 | .rng lo hi => ∃ t u v, h.get? a = some { cls := .type "range", data := .fields #[.int lo t, .int hi u, .int 1 v] }
 | .frz o u => h.get? a = some o /\ dU H h a u
 | .tbl ps => h.get? a = some { cls := .none, data := .fields ps }
 | .met f x => h.get? a = some (PySem.W.methodObj (.ref f) (.ref x))
 | .tbc pos q => ∃ ps : Array Value, h.get? a = some { cls := .none, data := .fields ps } /\ TriplesOk ps.toList /\ (codeAmong pos ps.toList = none \/ ∃ c oc vs t, codeAmong pos ps.toList = some (.ref c) /\ H c = some (.own a) /\ h.get? c = some oc /\ oc.data = .fields vs /\ vs[1]? = some (.str q t))
 | .ext φ => φ h /\ (∃ o, h.get? a = some o) /\ ∀ h1 h2 : Heap, φ h1 -> (∀ o, h1.get? a = some o -> h2.get? a = some o) -> φ h2
def HOk (H:Hp) (h:Heap):Prop:=∀ a o,H a=some o->dU P w H h a o
end
section
variable {P:Program}{w:World}{H H':Hp}{h h':Heap}{a:Addr}{o:HO}
theorem dU.lt (x:dU P w H h a o):a<h.objs.size:=by
 cases o with
 | lst xs=>obtain⟨_,_,_,_,e⟩:=x;exact aJ3 e
 | tup xs=>obtain⟨_,_,_,p⟩:=x;exact p.lt
 | dK kvs=>obtain⟨_,_,_,_,o,_,_,e,_⟩:=x;exact aJ3 e
 | dT kvs=>obtain⟨_,_,_,_,o,_,_,e,_⟩:=x;exact aJ3 e
 | set S n=>obtain⟨o,_,_,_,e,_⟩:=x;exact aJ3 e
 | ins C dx fs=>obtain⟨_,_,_,e,_⟩:=x;exact aJ3 e
 | own y=>obtain⟨_,e⟩:=x;exact aJ3 e
 | xd fs=>obtain⟨_,⟨_,_,_,e,_⟩,_⟩:=x;exact aJ3 e
 | rng lo hi=>obtain⟨_,_,_,e⟩:=x;exact aJ3 e
 | frz ob u=>obtain⟨e,_⟩:=x;exact aJ3 e
 | tbl ps=>exact aJ3 (show h.get? a=some _ from x)
 | met f y=>exact aJ3 (show h.get? a=some _ from x)
 | ext φ=>obtain⟨_,⟨_,e⟩,_⟩:=x;exact aJ3 e
 | tbc pos q=>obtain⟨_,e,_⟩:=x;exact aJ3 e
theorem Paired.mapP {α β:Type}{F G:α->β->Prop}:∀ {l₁:List α}{l₂:List β},Paired F l₁ l₂->(∀ a b,F a b->G a b)->Paired G l₁ l₂
 | _,_,.nil,_=>.nil
 | _,_,.cons r t,f=>.cons (f _ _ r) (Paired.mapP t f)
theorem dU.stay (x:dU P w H h a o) (k:∀ b u,(b=a\/H b=some (.own a))->h.get? b=some u->h'.get? b=some u)
  (ho:∀ b,H b=some (.own a)->H' b=some (.own a)) (ht:∀ b xs,H b=some (.tup xs)->H' b=some (.tup xs)):dU P w H' h' a o:=by
 induction o with
 | lst xs=>obtain⟨z,its,n,r,e⟩:=x;exact⟨z,its,n,r,k _ _ (.inl rfl) e⟩
 | tup xs=>obtain⟨z,its,r,ob,e,c⟩:=x;exact⟨z,its,r,ob,k _ _ (.inl rfl) e,c⟩
 | dK kvs=>obtain⟨z,y,vs,r,ob,es,ep,e,c⟩:=x;exact⟨z,y,vs,r,ob,es,ep,k _ _ (.inl rfl) e,c⟩
 | dT kvs=>
  obtain⟨z,y,xs,r,ob,es,ep,e,c⟩:=x;exact⟨z,y,xs,Paired.mapP r fun p q z=>⟨z.1,ht _ _ z.2.1,z.2.2⟩,ob,es,ep,k _ _ (.inl rfl) e,c⟩
 | set S n=>obtain⟨ob,es,ep,t,e,c⟩:=x;exact⟨ob,es,ep,t,k _ _ (.inl rfl) e,c⟩
 | ins C dx fs=>
  obtain⟨d,z,ne,e,mA,⟨od,es,ep,e2,c⟩,r⟩:=x;exact⟨ho _ d,z,ne,k _ _ (.inl rfl) e,mA,⟨od,es,ep,k _ _ (.inr d) e2,c⟩,r⟩
 | own y=>obtain⟨ob,e⟩:=x;exact⟨ob,k _ _ (.inl rfl) e⟩
 | xd fs=>obtain⟨mA,⟨od,es,ep,e,c⟩,r⟩:=x;exact⟨mA,⟨od,es,ep,k _ _ (.inl rfl) e,c⟩,r⟩
 | rng lo hi=>obtain⟨t,u,v,e⟩:=x;exact⟨t,u,v,k _ _ (.inl rfl) e⟩
 | frz ob u ih=>obtain⟨e,q⟩:=x;exact⟨k _ _ (.inl rfl) e,ih q⟩
 | tbl ps=>
  have e:h.get? a=some { cls:=.none,data:=.fields ps }:=x;show h'.get? a=some { cls:=.none,data:=.fields ps };exact k a _ (.inl rfl) e
 | met f y=>
  have e:h.get? a=some (PySem.W.methodObj (.ref f) (.ref y)):=x;show h'.get? a=some (PySem.W.methodObj (.ref f) (.ref y));exact k a _ (.inl rfl) e
 | ext φ=>obtain⟨p,⟨o,e⟩,st⟩:=x;exact⟨st _ _ p fun o q=>k _ _ (.inl rfl) q,⟨o,k _ _ (.inl rfl) e⟩,st⟩
 | tbc pos q=>
  obtain⟨ps,e,t,r⟩:=x;refine⟨ps,k _ _ (.inl rfl) e,t,?_⟩;rcases r with r | ⟨c,oc,vs,t,r1,r2,r3,r4,r5⟩
  ·exact .inl r
  ·exact .inr ⟨c,oc,vs,t,r1,ho _ r2,k _ _ (.inr r2) r3,r4,r5⟩
theorem HOk.lt (x:HOk P w H h) (e:H a=some o):a<h.objs.size:=(x a o e).lt
theorem HOk.fresh (x:HOk P w H h) (e:h.objs.size<=a):H a=none:=by
 cases q:H a with
 | none=>rfl
 | some u=>exact absurd (aIq (x.lt q) e) (aKg _)
theorem HOk.kept (x:HOk P w H h) (k:∀ b u,h.get? b=some u->h'.get? b=some u):HOk P w H h':=fun a o e=>
 (x a o e).stay (fun b u _ q=>k b u q) (fun _ q=>q) fun _ _ q=>q
theorem HOk.laid (x:HOk P w H h) (k:∀ b u,h.get? b=some u->h'.get? b=some u) (hp:h.objs.size<=a) (new:dU P w (upd H a o) h' a o):HOk P w (upd H a o) h':=fun b u e=>by
 have hn:=x.fresh hp
 by_cases hb:b=a
 ·subst hb;rw[bN] at e;cases e;exact new
 ·rw[aU hb] at e
  exact (x b u e).stay (fun c v _ q=>k c v q) (fun c q=>by rw[aU (cQ q hn)];exact q) fun c xs q=>by rw[aU (cQ q hn)];exact q
end
def Rd (H:Hp) (a:Addr) (u:HO):Prop:=H a=some u\/∃ o,H a=some (.frz o u)
theorem Rd.ok {P:Program}{w:World}{H:Hp}{h:Heap}{a:Addr}{u:HO}(r:Rd H a u) (x:HOk P w H h):dU P w H h a u:=by
 rcases r with r | ⟨o,r⟩
 ·exact x a u r
 ·obtain⟨_,q⟩:=x a _ r
  exact q
def Mut:Option HO->Prop
 | some (.lst _)=>True
 | some (.dK _)=>True
 | some (.dT _)=>True
 | some (.set _ _)=>True
 | some (.ins _ _ _)=>True
 | some (.ext _)=>True
 | _=>False
section
variable {P:Program}{w:World}{H:Hp}{h h':Heap}{x e:Addr}{o':HO}
theorem HOk.write (ok:HOk P w H h) (mu:Mut (H x)) (he:e=x\/H e=some (.own x)) (k:∀ b u,b≠e->h.get? b=some u->h'.get? b=some u) (heo:∃ u,h'.get? e=some u)
  (new:dU P w (upd H x o') h' x o'):HOk P w (upd H x o') h':=fun b u q=>by
 have nown:∀ c y,H c=some (.own y)->c≠x:=fun c y r z=>by subst z;rw[r] at mu;exact mu
 have ntup:∀ c xs,H c=some (.tup xs)->c≠x:=fun c xs r z=>by subst z;rw[r] at mu;exact mu
 by_cases hb:b=x
 ·subst hb;rw[bN] at q;cases q;exact new
 ·rw[aU hb] at q
  by_cases hbe:b=e
  ·have q':H b=some (.own x):=by
    rcases he with z | z
    ·exact absurd (hbe.trans z) hb
    ·rw[hbe];exact z
   rw[q] at q';cases q';obtain⟨v,hv⟩:=heo;exact⟨v,by rw[hbe];exact hv⟩
  ·refine (ok b u q).stay (fun c v hc r=>k c v ?_ r) (fun c r=>by rw[aU (nown c b r)];exact r) fun c xs r=>by rw[aU (ntup c xs r)];exact r
   rcases hc with rfl | hc
   ·exact hbe
   ·rintro rfl
    rcases he with z | z
    ·exact nown c b hc z
    ·rw[hc] at z;cases z;exact hb rfl
end
structure Un (fs ex:List Addr) (H H':Hp) (h h':Heap):Prop where
 keep:∀ b o,h.get? b=some o->H b=none->b ∉ fs->b ∉ ex->h'.get? b=some o
 slot:∀ b o,h.get? b=some o->H b=none->b∈fs->b ∉ ex->∃ sl,h'.get? b=some { o with slots:=sl }
 free:∀ b o,h.get? b=some o->H b=none->b ∉ ex->H' b=none
 there:∀ b o,h.get? b=some o->b ∉ ex->∃ o',h'.get? b=some o'
 tups:∀ b xs,H b=some (.tup xs)->H' b=some (.tup xs)
 frzs:∀ b o u,H b=some (.frz o u)->H' b=some (.frz o u)
 tbls:∀ b ps,H b=some (.tbl ps)->∃ more,H' b=some (.tbl (ps++more))
section
variable {fs fs' ex ex':List Addr}{H H1 H2:Hp}{h h1 h2 h':Heap}{a x e:Addr}{o:HO}
theorem Un.any (u:Un fs ex H H1 h h1) {b:Addr}{ob:Obj}(q:h.get? b=some ob) (n:H b=none) (hx:b ∉ ex):∃ sl,h1.get? b=some { ob with slots:=sl }:=by
 by_cases hb:b∈fs
 ·exact u.slot b ob q n hb hx
 ·exact⟨ob.slots,u.keep b ob q n hb hx⟩
theorem Un.kept (k:∀ b u,h.get? b=some u->h'.get? b=some u):Un fs ex H H h h':=
 ⟨fun b ob q _ _ _=>k b ob q,fun b ob q _ _ _=>⟨ob.slots,k b ob q⟩,fun _ _ _ n _=>n,fun b ob q _=>⟨ob,k b ob q⟩,fun _ _ q=>q,fun _ _ _ q=>q,fun _ ps q=>⟨#[],by rw[q];simp⟩⟩
theorem Un.refl:Un fs ex H H h h:=Un.kept fun _ _ q=>q
theorem Un.laid (k:∀ b u,h.get? b=some u->h'.get? b=some u) (hp:h.objs.size<=a) (hn:H a=none):Un fs ex H (upd H a o) h h' where
 keep:=fun b u q _ _ _=>k b u q
 slot:=fun b u q _ _ _=>⟨u.slots,k b u q⟩
 free:=fun b u q n _=>by rw[aU (aKm (aIq (aJ3 q) hp))];exact n
 there:=fun b u q _=>⟨u,k b u q⟩
 tups:=fun b xs q=>by rw[aU (cQ q hn)];exact q
 frzs:=fun b u xs q=>by rw[aU (cQ q hn)];exact q
 tbls:=fun b ps q=>⟨#[],by rw[aU (cQ q hn),q];simp⟩
theorem Un.write (mu:Mut (H x)) (he:e=x\/H e=some (.own x)) (k:∀ b u,b≠e->h.get? b=some u->h'.get? b=some u) (heo:∃ u,h'.get? e=some u):Un fs ex H (upd H x o) h h':=by
 have hx:∀ b,H b=none->b≠x:=fun b n z=>by subst z;rw[n] at mu;exact mu
 have hb:∀ b,H b=none->b≠e:=fun b n z=>by
  subst z;rcases he with r | r
  ·exact hx b n r
  ·rw[n] at r;cases r
 have hm:∀ b u,H b=some u->¬ Mut (some u)->b≠x:=fun b u q nm z=>by subst z;rw[q] at mu;exact nm mu
 refine⟨fun b u q n _ _=>k b u (hb b n) q,fun b u q n _ _=>⟨u.slots,k b u (hb b n) q⟩,fun b u q n _=>by rw[aU (hx b n)];exact n,fun b u q _=>?_,
  fun b xs q=>by rw[aU (hm b _ q fun z=>z)];exact q,fun b u xs q=>by rw[aU (hm b _ q fun z=>z)];exact q,fun b ps q=>⟨#[],by rw[aU (hm b _ q fun z=>z),q];simp⟩⟩
 by_cases hbe:b=e
 ·subst hbe;exact heo
 ·exact⟨u,k b u hbe q⟩
end
def trk (h:Heap) (H:Hp):List Addr:=(List.range h.objs.size).filter fun a=>(H a).isSome
def kG (h:Heap) (H:Hp):Heap:=PySem.W.hideAll h (trk h H)
theorem XG (h:Heap) (H:Hp):(kG h H).objs.size=h.objs.size:=PySem.W.hideAll_size _ _
theorem XF {h:Heap}{H:Hp}{b:Addr}{o:Obj}(e:h.get? b=some o) (n:H b=none):(kG h H).get? b=some o:=
 PySem.W.hideAll_get _ e fun hm=>by
  have q:(H b).isSome=true:=(List.mem_filter.mp hm).2;rw[n] at q;simp at q
theorem aAd {h:Heap}{H:Hp}{b:Addr}{o:Obj}(e:(kG h H).get? b=some o):h.get? b=some o/\H b=none:=by
 have e':h.get? b=some o:=PySem.W.of_hideAll (trk h H) e;refine⟨e',?_⟩;cases q:H b with
 | none=>rfl
 | some x=>
  have hm:b∈trk h H:=List.mem_filter.mpr ⟨aIp.mpr (aJ3 e'),by simp[q]⟩;have z:(kG h H).get? b=none:=PySem.W.hideAll_none (trk h H) hm;rw[z] at e;cases e
def RP (g h:Heap) (L:Addr):List (Addr × Obj):=(List.range h.objs.size).filterMap fun a=>if a=L\/(g.get? a).isSome=true then none else (h.get? a).map fun o=>(a,o)
def rest (g h:Heap) (L d:Addr):List (Addr × Obj):=(RP g h L).filter fun p=>decide (p.1≠d)
structure Mod (K:PySem.W.Frag) (mg:Str->Option Value) (base:Heap):Prop where
 kin:K.In base
 glob:base.Ns mainGlobals mg
 blt:∃ mb,base.Ns builtinsNs mb/\∀ x:Str,x ≠ "__name__" -> mb x=bootBuiltins x
 nolimit:base.NoLimit
 nodig:base.NoDigits
structure Cx where
 prog:Program
 w:World
 K:PySem.W.Frag
 mg:Str->Option Value
 base:Heap
 A:Around
 N:List Str
 s₀:Shared
 H₀:Hp
 env:Env
 outer:List Env
 stack:List Env
 ex:List Addr
 fn:Str->Bool
 calm:Bool
 pn:List (Addr × Obj)
 xe:Value->Shared->Prop
def frs (l:List Env):List Addr:=l.filterMap (·.frame)
abbrev Cx.fs (X:Cx):List Addr:=frs X.outer
def Vis (sc:Scope) (x:Str):Prop:=sc.names.lookup x=some .local\/sc.names.lookup x=some .cell\/sc.names.lookup x=some .free
def Loc (sc:Scope) (x:Str):Prop:=sc.names.lookup x=some .local\/sc.names.lookup x=some .cell
def RI (env:Env) (h:Heap) (m:Str->Option Value) (x:Str) (u:Value):Prop:=
 (env.kindOf x=some .local/\m x=some u)\/((env.kindOf x=some .cell\/env.kindOf x=some .free)/\∃ c,env.cells.lookup x=some c/\h.IsCell c (some u))
structure Cx.Ok (X:Cx):Prop where
 mod:Mod X.K X.mg X.base
 kind:X.env.scope.kind=.function
 glob:X.env.globals=mainGlobals
 blt:X.env.builtins=builtinsNs
 above:X.s₀.heap.objs.size<=X.env.locals
 inj:∀ x y c,X.env.cells.lookup x=some c->X.env.cells.lookup y=some c->x=y
 has:∀ x,(X.env.kindOf x=some .cell\/X.env.kindOf x=some .free)->∃ c,X.env.cells.lookup x=some c
 cab:∀ x c,X.fn x=true->X.env.cells.lookup x=some c->X.s₀.heap.objs.size<=c
 hd:X.calm=true->X.A.handled=none
 frames:X.A.frames=some X.stack
 stk:X.stack=X.outer\/(X.stack=X.env::X.outer/\X.env.frame=some X.env.locals)
 exf:∀ b∈X.ex,b≠X.env.locals/\∀ x c,X.env.cells.lookup x=some c->c≠b
 bs:∀ b o,X.base.get? b=some o->X.s₀.heap.get? b=some o/\X.H₀ b=none
 bsz:X.base.objs.size<=X.s₀.heap.objs.size
 noex:∀ b o,X.base.get? b=some o->b ∉ X.ex
 exfs:∀ b∈X.ex,b ∉ X.fs
 funs:X.s₀.heap.FunFrames X.base X.outer
 frf:∀ b∈X.fs,X.H₀ b=none
structure Inv (X:Cx) (pins:List (Addr × Obj)) (σ:List (Option V)) (H:Hp) (s:Shared):Prop where
 ok:X.Ok
 os:s.os=X.s₀.os
 bare:AllBare s.gens
 base:Un X.fs X.ex X.H₀ H X.s₀.heap s.heap
 loc:∃ m,s.heap.Ns X.env.locals m/\∀ (i:Nat) (x:Str) (v:V),X.N[i]?=some x->σ[i]?=some (some v)->Vis X.env.scope x->∃ u,aX v u/\RI X.env s.heap m x u
 cell:∀ x c,X.env.cells.lookup x=some c->∃ v,s.heap.IsCell c v
 free:H X.env.locals=none
 freeC:∀ x c,X.env.cells.lookup x=some c->H c=none
 pin:∀ p∈X.pn++pins,s.heap.get? p.1=some p.2/\H p.1=none/\p.1≠X.env.locals/\p.1 ∉ X.fs/\∀ v,p.2.data≠.cell v
 hok:HOk X.prog X.w H s.heap
 len:σ.length=X.N.length
section
variable {X:Cx}{pins:List (Addr × Obj)}{σ:List (Option V)}{H H':Hp}{s:Shared}{h':Heap}
theorem Cx.Ok.nofr (ok:X.Ok) {b:Addr}{o:Obj}(e:X.base.get? b=some o):b ∉ X.fs:=fun hb=>by
 have:=(ok.funs.mem hb).1;rw[e] at this;cases this
theorem Inv.bs (I:Inv X pins σ H s):∀ b o,X.base.get? b=some o->s.heap.get? b=some o/\H b=none:=fun b o e=>
 ⟨I.base.keep b o (I.ok.bs b o e).1 (I.ok.bs b o e).2 (I.ok.nofr e) (I.ok.noex b o e),I.base.free b o (I.ok.bs b o e).1 (I.ok.bs b o e).2 (I.ok.noex b o e)⟩
theorem Inv.bk (I:Inv X pins σ H s):∀ b o,X.base.get? b=some o->s.heap.get? b=some o:=fun b o e=>(I.bs b o e).1
theorem Inv.mod (I:Inv X pins σ H s):Mod X.K X.mg X.base:=I.ok.mod
theorem Inv.kIn (I:Inv X pins σ H s):X.K.In s.heap:=I.ok.mod.kin.keeps I.bk
theorem Inv.nodig (I:Inv X pins σ H s):s.heap.NoDigits:=I.ok.mod.nodig.keeps I.bk
theorem Inv.lt (I:Inv X pins σ H s):X.env.locals<s.heap.objs.size:=let ⟨_,hn,_⟩:=I.loc;hn.lt
theorem Inv.sz (I:Inv X pins σ H s):X.s₀.heap.objs.size<=s.heap.objs.size:=aKf I.ok.above (aKd I.lt)
theorem Inv.nofs (I:Inv X pins σ H s) {a:Addr}(h:s.heap.objs.size<=a):a ∉ X.fs:=fun hb=>by
 obtain⟨_,o,ho,_⟩:=I.ok.funs.mem hb;exact absurd (aIq (aJ3 ho) (aKf I.sz h)) (aKg _)
theorem Inv.cne (I:Inv X pins σ H s):∀ x c,X.env.cells.lookup x=some c->c≠X.env.locals:=fun x c e z=>by
 obtain⟨v,o,ho,hd⟩:=I.cell x c e;obtain⟨m,⟨o',es,ep,ho',hd',_⟩,_⟩:=I.loc;rw[z,ho'] at ho;cases ho;rw[hd'] at hd;cases hd
theorem Inv.funs (I:Inv X pins σ H s):s.heap.FunFrames X.base X.outer:=by
 have all:∀ (l:List Env),(∀ b∈frs l,b∈X.fs)->X.s₀.heap.FunFrames X.base l->s.heap.FunFrames X.base l:=by
  intro l
  induction l with
  | nil=>intro _ _;trivial
  | cons env r ih=>
   intro hs hl;obtain⟨hk,⟨L,o,hf,hn,ho,hd⟩,hr⟩:=hl;have hL:L∈X.fs:=hs L (by unfold frs;rw[aJb,hf];exact aIm);obtain⟨sl,e⟩:=I.base.slot L o ho (I.ok.frf L hL) hL fun z=>I.ok.exfs L z hL;exact⟨hk,⟨L,_,hf,hn,e,hd⟩,ih (fun b hb=>hs b (by unfold frs;rw[aJb,hf];exact aIl _ hb)) hr⟩
 exact all X.outer (fun _ hb=>hb) I.ok.funs
theorem Inv.stack (I:Inv X pins σ H s):s.heap.FunFrames X.base X.stack:=by
 rcases I.ok.stk with e | ⟨e,hf⟩
 ·rw[e];exact I.funs
 ·rw[e]
  obtain⟨m,hn,_⟩:=I.loc;refine .cons (by rw[I.ok.kind];decide) hf hn ?_ I.funs;exact Heap.get?_none_of_le (aKf I.ok.bsz I.ok.above)
theorem Inv.stkSub (I:Inv X pins σ H s):∀ b∈frs X.stack,b∈X.env.locals::X.fs:=fun b hb=>by
 rcases I.ok.stk with e | ⟨e,hf⟩
 ·rw[e] at hb;exact aIl _ hb
 ·rw[e] at hb
  unfold frs at hb;rw[aJb,hf] at hb;exact hb
theorem Inv.stkFree (I:Inv X pins σ H s):∀ b∈frs X.stack,H b=none:=fun b hb=>by
 rcases aIu.mp (I.stkSub b hb) with e | hb
 ·rw[e];exact I.free
 ·obtain⟨_,o,ho,_⟩:=I.ok.funs.mem hb
  exact I.base.free b o ho (I.ok.frf b hb) fun z=>I.ok.exfs b z hb
theorem Inv.step {g':Array GenState}{t':Nat}{d':Drawn}{ch:List Addr}(I:Inv X pins σ H s)
  (hch:∀ b∈ch,(b∈X.ex\/X.s₀.heap.objs.size<=b)/\b≠X.env.locals/\(∀ x c,X.env.cells.lookup x=some c->c≠b)/\∀ p∈X.pn++pins,p.1≠b)
  (keep:∀ b o,b≠X.env.locals->b ∉ X.fs->b ∉ ch->s.heap.get? b=some o->H b=none->h'.get? b=some o)
  (slot:∀ b o,b≠X.env.locals->b∈X.fs->b ∉ ch->s.heap.get? b=some o->H b=none->∃ sl,h'.get? b=some { o with slots:=sl }) (free:∀ b o,b ∉ ch->s.heap.get? b=some o->H b=none->H' b=none)
  (there:∀ b o,b ∉ ch->s.heap.get? b=some o->∃ o',h'.get? b=some o')
  (tups:∀ b xs,H b=some (.tup xs)->H' b=some (.tup xs)) (frzs:∀ b o u,H b=some (.frz o u)->H' b=some (.frz o u)) (tbls:∀ b ps,H b=some (.tbl ps)->∃ more,H' b=some (.tbl (ps++more)))
  (ns:∀ m,s.heap.Ns X.env.locals m->h'.Ns X.env.locals m) (hok:HOk X.prog X.w H' h') (hg:AllBare g'):
  Inv X pins σ H' { s with heap:=h',gens:=g',drawn:=d',toks:=t' }:=by
 have neL:∀ b o,X.s₀.heap.get? b=some o->b≠X.env.locals:=fun b o e=>aKm (aIq (aJ3 e) I.ok.above);have neC:∀ b o,X.s₀.heap.get? b=some o->b ∉ X.ex->b ∉ ch:=fun b o e hx hb=>by
  rcases (hch b hb).1 with z | z
  ·exact hx z
  ·exact absurd (aIq (aJ3 e) z) (aKg _)
 have cellK:∀ x c,X.env.cells.lookup x=some c->∀ v,s.heap.IsCell c v->h'.IsCell c v:=fun x c e v ⟨o,ho,hd⟩=>by
  have nch:c ∉ ch:=fun z=>(hch c z).2.2.1 x c e rfl
  by_cases hc:c∈X.fs
  ·obtain⟨sl,q⟩:=slot c o (I.cne x c e) hc nch ho (I.freeC x c e)
   exact⟨_,q,hd⟩
  ·exact⟨o,keep c o (I.cne x c e) hc nch ho (I.freeC x c e),hd⟩
 refine⟨I.ok,I.os,hg,⟨fun b o e n hb hx=>?_,fun b o e n hb hx=>?_,fun b o e n hx=>?_,fun b o e hx=>?_,fun b xs e=>tups b xs (I.base.tups b xs e),fun b o xs e=>frzs b o xs (I.base.frzs b o xs e),fun b ps e=>?_⟩,?_,fun x c e=>?_,?_,fun x c e=>?_,fun p hp=>?_,hok,I.len⟩
 ·exact keep b o (neL b o e) hb (neC b o e hx) (I.base.keep b o e n hb hx) (I.base.free b o e n hx)
 ·obtain⟨sl,e1⟩:=I.base.slot b o e n hb hx
  obtain⟨sl',e2⟩:=slot b _ (neL b o e) hb (neC b o e hx) e1 (I.base.free b o e n hx);exact⟨sl',e2⟩
 ·obtain⟨o',e1⟩:=I.base.there b o e hx
  exact free b o' (neC b o e hx) e1 (I.base.free b o e n hx)
 ·obtain⟨o',e1⟩:=I.base.there b o e hx
  exact there b o' (neC b o e hx) e1
 ·obtain⟨m1,e1⟩:=I.base.tbls b ps e
  obtain⟨m2,e2⟩:=tbls b _ e1;exact⟨m1++m2,by rw[e2,Array.append_assoc]⟩
 ·obtain⟨m,hn,hl⟩:=I.loc
  refine⟨m,ns m hn,fun i x v e1 e2 e3=>?_⟩;obtain⟨u,r,l⟩:=hl i x v e1 e2 e3;refine⟨u,r,?_⟩;rcases l with l | ⟨k,c,e,z⟩
  ·exact .inl l
  ·exact .inr ⟨k,c,e,cellK x c e _ z⟩
 ·obtain⟨v,z⟩:=I.cell x c e
  exact⟨v,cellK x c e v z⟩
 ·obtain⟨m,⟨o,_,_,ho,_⟩,_⟩:=I.loc
  exact free _ o (fun z=>(hch _ z).2.1 rfl) ho I.free
 ·obtain⟨v,o,ho,hd⟩:=I.cell x c e
  exact free c o (fun z=>(hch c z).2.2.1 x c e rfl) ho (I.freeC x c e)
 ·obtain⟨e,n,ne,nf,d⟩:=I.pin p hp
  have nch:p.1 ∉ ch:=fun z=>(hch p.1 z).2.2.2 p hp rfl;exact⟨keep p.1 p.2 ne nf nch e n,free p.1 p.2 nch e n,ne,nf,d⟩
theorem Inv.un {t':Nat}(I:Inv X pins σ H s) (u:Un X.fs [] H H' s.heap h') (hok:HOk X.prog X.w H' h'):Inv X pins σ H' { s with heap:=h',toks:=t' }:=by
 obtain⟨m,⟨o,es,ep,ho,r⟩,_⟩:=id I.loc;obtain⟨sl,hL⟩:=u.any ho I.free (by simp);exact I.step (g':=s.gens) (d':=s.drawn) (ch:=[]) (fun _ z=>nomatch z) (fun b o _ hb _ e n=>u.keep b o e n hb (by simp)) (fun b o _ hb _ e n=>u.slot b o e n hb (by simp)) (fun b o _ e n=>u.free b o e n (by simp)) (fun b o _ e=>u.there b o e (by simp)) u.tups u.frzs u.tbls (fun m' hm=>by
  obtain⟨o',es',ep',ho',r'⟩:=hm;rw[ho] at ho';cases ho';exact⟨_,es',ep',hL,r'⟩) hok I.bare
theorem Inv.call {g':Array GenState}{t':Nat}{d':Drawn}{ch:List Addr}(I:Inv X pins σ H s) (u:Un (frs X.stack) ch H H' s.heap h') (hok:HOk X.prog X.w H' h') (hg:AllBare g')
  (hch:∀ b∈ch,(b∈X.ex\/X.s₀.heap.objs.size<=b)/\b≠X.env.locals/\(∀ x c,X.env.cells.lookup x=some c->c≠b)/\∀ p∈X.pn++pins,p.1≠b):
  Inv X pins σ H' { s with heap:=h',gens:=g',drawn:=d',toks:=t' }:=by
 obtain⟨m,⟨o,es,ep,ho,r⟩,_⟩:=id I.loc;obtain⟨sl,hL⟩:=u.any ho I.free fun z=>(hch _ z).2.1 rfl;exact I.step (ch:=ch) hch (fun b o hL hb hc e n=>u.keep b o e n (fun z=>(aIu.mp (I.stkSub b z)).elim hL hb) hc) (fun b o _ _ hc e n=>u.any e n hc) (fun b o hc e n=>u.free b o e n hc) (fun b o hc e=>u.there b o e hc) u.tups u.frzs u.tbls (fun m' hm=>by
  obtain⟨o',es',ep',ho',r'⟩:=hm;rw[ho] at ho';cases ho';exact⟨_,es',ep',hL,r'⟩) hok hg
theorem Inv.turned {t':Nat}{it:Addr}(I:Inv X pins σ H s) (k:∀ b o,b≠it->s.heap.get? b=some o->h'.get? b=some o) (hn:H it=none) (hL:it≠X.env.locals)
  (h1:it∈X.ex\/X.s₀.heap.objs.size<=it) (h2:∀ x c,X.env.cells.lookup x=some c->c≠it) (h3:∀ p∈X.pn++pins,p.1≠it):Inv X pins σ H { s with heap:=h',toks:=t' }:=by
 have nit:∀ b u,H b=some u->b≠it:=fun b u e z=>by rw[z,hn] at e;cases e
 refine I.step (g':=s.gens) (d':=s.drawn) (ch:=[it]) (fun b hb=>?_) (fun b o _ _ hc e _=>k b o (fun z=>hc (by simp[z])) e) (fun b o _ _ hc e _=>⟨o.slots,k b o (fun z=>hc (by simp[z])) e⟩) (fun _ _ _ _ n=>n)
  (fun b o hc e=>⟨o,k b o (fun z=>hc (by simp[z])) e⟩) (fun _ _ e=>e) (fun _ _ _ e=>e) (fun b ps e=>⟨#[],by rw[e];simp⟩) (fun m hm=>?_) (fun b u e=>?_) I.bare
 ·have e:b=it:=by simpa using hb
  subst e;exact⟨h1,hL,h2,h3⟩
 ·obtain⟨o,es,ep,ho,r⟩:=hm
  exact⟨o,es,ep,k _ o (Ne.symm hL) ho,r⟩
 ·refine (I.hok b u e).stay (fun c v hc q=>k c v ?_ q) (fun _ q=>q) fun _ _ q=>q
  rcases hc with z | z
  ·rw[z];exact nit b u e
  ·exact nit c _ z
theorem Inv.tok (I:Inv X pins σ H s) (t:Nat):Inv X pins σ H { s with toks:=t }:=I.un (h':=s.heap) (t':=t) Un.refl I.hok
theorem Inv.kept {t':Nat}(I:Inv X pins σ H s) (k:∀ b u,s.heap.get? b=some u->h'.get? b=some u):Inv X pins σ H { s with heap:=h',toks:=t' }:=I.un (Un.kept k) (I.hok.kept k)
theorem Inv.laid {a:Addr}{o:HO}{t':Nat}(I:Inv X pins σ H s) (k:∀ b u,s.heap.get? b=some u->h'.get? b=some u) (hp:s.heap.objs.size<=a) (new:dU X.prog X.w (upd H a o) h' a o):
  Inv X pins σ (upd H a o) { s with heap:=h',toks:=t' }:=I.un (Un.laid k hp (I.hok.fresh hp)) (I.hok.laid k hp new)
theorem Inv.write {x e:Addr}{o:HO}{t':Nat}(I:Inv X pins σ H s) (mu:Mut (H x)) (he:e=x\/H e=some (.own x)) (k:∀ b u,b≠e->s.heap.get? b=some u->h'.get? b=some u) (heo:∃ u,h'.get? e=some u)
  (new:dU X.prog X.w (upd H x o) h' x o):Inv X pins σ (upd H x o) { s with heap:=h',toks:=t' }:=I.un (Un.write mu he k heo) (I.hok.write mu he k heo new)
theorem Inv.pins_of {pins':List (Addr × Obj)}(I:Inv X pins σ H s) (h:∀ p∈pins',s.heap.get? p.1=some p.2/\H p.1=none/\p.1≠X.env.locals/\p.1 ∉ X.fs/\∀ v,p.2.data≠.cell v):Inv X pins' σ H s:=
 ⟨I.ok,I.os,I.bare,I.base,I.loc,I.cell,I.free,I.freeC,fun p hp=>(aK1.mp hp).elim (fun z=>I.pin p (List.mem_append_left _ z)) (h p),I.hok,I.len⟩
theorem KR {N:List Str}(hN:N.Nodup) {i j:Nat}{x:Str}(a:N[i]?=some x) (b:N[j]?=some x):i=j:=by
 obtain⟨h1,e1⟩:=aIn.mp a;obtain⟨h2,e2⟩:=aIn.mp b;exact (List.getElem_inj hN).mp (e1.trans e2.symm)
theorem OA {M:Model}{A:Around}{E:Value->Shared->Prop}{i:Nat}{x:Str}{v:V}{u:Value}{Q:Unit->Shared->Prop}(I:Inv X pins σ H s) (hN:X.N.Nodup) (hi:X.N[i]?=some x) (hx:Loc X.env.scope x) (r:aX v u)
  (h:∀ s',Inv X pins (σ.set i (some v)) H s'->(∃ a,Heap.SameBut a s.heap s'.heap/\(a=X.env.locals\/X.env.cells.lookup x=some a))->Q () s') (hf:X.fn x=true\/X.env.scope.names.lookup x=some .local:=by first | exact .inl rfl | exact .inr rfl | assumption):wpAny M A (storeName X.env x u) Q E s:=by
 obtain⟨m,hn,hl⟩:=id I.loc;have hcls:(X.env.scope.kind == .class||(X.env.scope.kind == .module&&X.env.locals != X.env.globals))=false:=by rw[I.ok.kind];rfl
 have hiσ:i<σ.length:=by rw[I.len];exact (aIn.mp hi).1
 have cne:=I.cne;have tracked:∀ {a:Addr} {h':Heap},(∃ o,s.heap.get? a=some o/\H a=none)->Heap.SameBut a s.heap h'->HOk X.prog X.w H h':=fun {a h'} ha hs b ob e=>by
  obtain⟨_,_,hfree⟩:=ha;refine (I.hok b ob e).stay (fun c w' hc q=>(hs.2 c ?_).trans q) (fun _ q=>q) fun _ _ q=>q;rintro rfl;rcases hc with rfl | hc
  ·rw[hfree] at e;cases e
  ·rw[hfree] at hc;cases hc
 rcases hx with hk | hk
 ·refine wpAny_storeName_local hk hn (fun h' hn' hs=>?_) hcls
  obtain⟨oL,_,_,hoL,_⟩:=id hn;refine h _ ⟨I.ok,I.os,I.bare,⟨fun b o e n hb hx=>?_,fun b o e n hb hx=>?_,I.base.free,fun b o e hx=>?_,I.base.tups,I.base.frzs,I.base.tbls⟩,⟨_,hn',fun j y v' e1 e2 e3=>?_⟩,fun y c e=>?_,I.free,I.freeC,fun p hp=>?_,tracked ⟨oL,hoL,I.free⟩ hs,by simpa using I.len⟩ ⟨_,hs,.inl rfl⟩
  ·exact (hs.2 b (aKm (aIq (aJ3 e) I.ok.above))).trans (I.base.keep b o e n hb hx)
  ·obtain⟨sl,e1⟩:=I.base.slot b o e n hb hx
   exact⟨sl,(hs.2 b (aKm (aIq (aJ3 e) I.ok.above))).trans e1⟩
  ·obtain⟨o',e1⟩:=I.base.there b o e hx
   exact⟨o',(hs.2 b (aKm (aIq (aJ3 e) I.ok.above))).trans e1⟩
  ·by_cases hj:j=i
   ·subst hj
    rw[hi] at e1;cases e1;rw[aJl hiσ] at e2;cases e2;exact⟨u,r,.inl ⟨hk,by simp⟩⟩
   ·rw[aIs (Ne.symm hj)] at e2
    obtain⟨u',r',q⟩:=hl j y v' e1 e2 e3;refine⟨u',r',?_⟩;rcases q with ⟨k,e⟩ | ⟨k,c,e,z⟩
    ·refine .inl ⟨k,?_⟩
     have:y≠x:=fun e=>hj (KR hN e1 (e ▸ hi));simp[this,e]
    ·exact .inr ⟨k,c,e,z.sameBut hs (cne y c e)⟩
  ·obtain⟨w',z⟩:=I.cell y c e
   exact⟨w',z.sameBut hs (cne y c e)⟩
  ·obtain⟨e,n,ne,nf,d⟩:=I.pin p hp
   exact⟨(hs.2 p.1 ne).trans e,n,ne,nf,d⟩
 ·have hfn:X.fn x=true:=by
   rcases hf with z | z
   ·exact z
   ·rw[z] at hk;cases hk
  obtain⟨c,hc⟩:=I.ok.has x (.inl hk);obtain⟨w',z⟩:=I.cell x c hc;refine wpAny_storeName_cell I.ok.kind hk hc z (fun h' hc' hs=>?_);obtain⟨oc,hoc,hocd⟩:=id z;refine h { s with heap:=h' } ⟨I.ok,I.os,I.bare,⟨fun b o e n hb hx=>?_,fun b o e n hb hx=>?_,I.base.free,fun b o e hx=>?_,I.base.tups,I.base.frzs,I.base.tbls⟩,⟨m,hn.sameBut hs (Ne.symm (cne x c hc)),fun j y v' e1 e2 e3=>?_⟩,fun y c' e=>?_,I.free,I.freeC,fun p hp=>?_,tracked ⟨oc,hoc,I.freeC x c hc⟩ hs,by simpa using I.len⟩ ⟨c,hs,.inr hc⟩
  ·exact (hs.2 b (aKm (aIq (aJ3 e) (I.ok.cab x c hfn hc)))).trans (I.base.keep b o e n hb hx)
  ·obtain⟨sl,e1⟩:=I.base.slot b o e n hb hx
   exact⟨sl,(hs.2 b (aKm (aIq (aJ3 e) (I.ok.cab x c hfn hc)))).trans e1⟩
  ·obtain⟨o',e1⟩:=I.base.there b o e hx
   exact⟨o',(hs.2 b (aKm (aIq (aJ3 e) (I.ok.cab x c hfn hc)))).trans e1⟩
  ·by_cases hj:j=i
   ·subst hj
    rw[hi] at e1;cases e1;rw[aJl hiσ] at e2;cases e2;exact⟨u,r,.inr ⟨.inl hk,c,hc,hc'⟩⟩
   ·rw[aIs (Ne.symm hj)] at e2
    obtain⟨u',r',q⟩:=hl j y v' e1 e2 e3;refine⟨u',r',?_⟩;rcases q with q | ⟨k,c',e,z'⟩
    ·exact .inl q
    ·refine .inr ⟨k,c',e,z'.sameBut hs ?_⟩
     rintro rfl;exact hj (KR hN e1 (I.ok.inj _ _ _ e hc ▸ hi))
  ·by_cases hcc:c'=c
   ·subst hcc;exact⟨_,hc'⟩
   ·obtain⟨w2,z2⟩:=I.cell y c' e
    exact⟨w2,z2.sameBut hs hcc⟩
  ·obtain⟨e,n,ne,nf,d⟩:=I.pin p hp
   refine⟨(hs.2 p.1 ?_).trans e,n,ne,nf,d⟩;intro q;rw[q,hoc] at e;have q':oc=p.2:=aIi e;exact d w' (by rw[<- q'];exact hocd)
theorem NZ {M:Model}{A:Around}{E:Value->Shared->Prop}{i:Nat}{x:Str}{v:V}{u:Value}{Q:Unit->Shared->Prop}(I:Inv X pins σ H s) (hN:X.N.Nodup) (hi:X.N[i]?=some x) (hx:Loc X.env.scope x) (r:aX v u)
  (h:∀ s',Inv X pins (σ.set i (some v)) H s'->Q () s') (hf:X.fn x=true\/X.env.scope.names.lookup x=some .local:=by first | exact .inl rfl | exact .inr rfl | assumption):wpAny M A (storeName X.env x u) Q E s:=
 OA I hN hi hx r (fun s' I' _=>h s' I') hf
theorem Inv.call' {s':Shared}{ch:List Addr}(I:Inv X pins σ H s) (ho:s'.os=s.os) (u:Un (frs X.stack) ch H H' s.heap s'.heap) (hok:HOk X.prog X.w H' s'.heap) (hg:AllBare s'.gens)
  (hch:∀ b∈ch,(b∈X.ex\/X.s₀.heap.objs.size<=b)/\b≠X.env.locals/\(∀ x c,X.env.cells.lookup x=some c->c≠b)/\∀ p∈X.pn++pins,p.1≠b):Inv X pins σ H' s':=by
 obtain⟨h',g',d',t',o'⟩:=s';have e:o'=s.os:=ho;subst e;exact I.call (g':=g') (t':=t') (d':=d') u hok hg hch
end
abbrev XK:=Value->Option Addr->Hp->Prop
abbrev St:=List (Option V)
abbrev VK:=V->Hp->Prop
abbrev TE:=St->Hp->VK->Prop
abbrev TT:=St->Hp->(Bool->Hp->Prop)->Prop
abbrev TA:=St->Hp->(List V->Hp->Prop)->Prop
structure Ends where
 nx:St->Hp->Prop
 rt:VK
 bk:St->Hp->Prop:=fun _ _=>False
 ct:St->Hp->Prop:=fun _ _=>False
abbrev TS:=Ends->St->Hp->Prop
def EP (X:Cx) (pins:List (Addr × Obj)) (σ:St) (Q:VK) (u:Value) (s':Shared):Prop:=∃ v H',Inv X pins σ H' s'/\aX v u/\Q v H'
def TP (X:Cx) (pins:List (Addr × Obj)) (σ:St) (Q:Bool->Hp->Prop) (b:Bool) (s':Shared):Prop:=∃ H',Inv X pins σ H' s'/\Q b H'
def AP (X:Cx) (pins:List (Addr × Obj)) (σ:St) (Q:List V->Hp->Prop) (us:List Value) (s':Shared):Prop:=∃ vs H',Inv X pins σ H' s'/\aL vs us/\Q vs H'
def SP (X:Cx) (pins:List (Addr × Obj)) (D:Ends) (f:Flow) (s':Shared):Prop:=
 match f with
 | .next=>∃ σ' H',Inv X pins σ' H' s'/\D.nx σ' H'
 | .brk=>∃ σ' H',Inv X pins σ' H' s'/\D.bk σ' H'
 | .cont=>∃ σ' H',Inv X pins σ' H' s'/\D.ct σ' H'
 | .ret u=>∃ v σ' H',Inv X pins σ' H' s'/\aX v u/\D.rt v H'
def PE (X:Cx) (e:Expr) (t:TE):Prop:=
 ∀ (pins:List (Addr × Obj)) (s:Shared) (σ:St) (H:Hp) (Q:VK),Inv X pins σ H s->t σ H Q->wpAny (model X.prog X.w) X.A (eval e X.env) (EP X pins σ Q) X.xe s
def PT (X:Cx) (e:Expr) (t:TT):Prop:=
 ∀ (pins:List (Addr × Obj)) (s:Shared) (σ:St) (H:Hp) (Q:Bool->Hp->Prop),Inv X pins σ H s->t σ H Q->wpAny (model X.prog X.w) X.A (isTrue e X.env (eval e X.env)) (TP X pins σ Q) X.xe s
def PW (X:Cx) (e:Expr) (t:TT):Prop:=
 ∀ (whole:Sem Value) (pins:List (Addr × Obj)) (s:Shared) (σ:St) (H:Hp) (Q:Bool->Hp->Prop),Inv X pins σ H s->t σ H Q->wpAny (model X.prog X.w) X.A (isTrue e X.env whole) (TP X pins σ Q) X.xe s
theorem PW.pt {X:Cx}{e:Expr}{t:TT}(h:PW X e t):PT X e t:=h _
def PA (X:Cx) (es:List Expr) (t:TA):Prop:=
 ∀ (pos:Pos) (pins:List (Addr × Obj)) (s:Shared) (σ:St) (H:Hp) (Q:List V->Hp->Prop),Inv X pins σ H s->t σ H Q->wpAny (model X.prog X.w) X.A (spliced (backTo pos (starEach es X.env))) (AP X pins σ Q) X.xe s
def PS (X:Cx) (st:Stmt) (t:TS):Prop:=
 ∀ (pins:List (Addr × Obj)) (s:Shared) (σ:St) (H:Hp) (D:Ends),Inv X pins σ H s->t D σ H->wpAny (model X.prog X.w) X.A (exec st X.env) (SP X pins D) X.xe s
def PSs (X:Cx) (st:List Stmt) (t:TS):Prop:=
 ∀ (pins:List (Addr × Obj)) (s:Shared) (σ:St) (H:Hp) (D:Ends),Inv X pins σ H s->t D σ H->wpAny (model X.prog X.w) X.A (execs st X.env) (SP X pins D) X.xe s
theorem thn {α:Type}{t:Sem α}{Q Q':α->Shared->Prop}{M:Model}{A:Around}{E:Value->Shared->Prop}{s:Shared}(h:wpAny M A t Q E s) (hQ:∀ a s,Q a s->Q' a s):wpAny M A t Q' E s:=wpAny_mono h hQ fun _ _ x=>x
section
variable {X:Cx}
def OF (i:Nat):TE:=fun σ H Q=>∃ v,σ[i]?=some (some v)/\Q v H
def tC (v:V):TE:=fun _ H Q=>Q v H
theorem aCi {i:Nat}{x:Str}{pos:Pos}(hN:X.N[i]?=some x) (hv:Vis X.env.scope x) (hd:(x == ("__debug__" : Str))=false:=by decide) (hcd:(x == ("__classdict__" : Str))=false:=by decide):PE X (.Name x pos) (OF i):=by
 intro pins s σ H Q I h;obtain⟨v,e,h⟩:=h;obtain⟨m,hn,hl⟩:=I.loc;obtain⟨u,r,l⟩:=hl i x v hN e hv;have fin:EP X pins σ Q u s:=⟨v,H,I,r,h⟩;rcases l with ⟨hk,hm⟩ | ⟨hk,c,hc,hcell⟩
 ·exact wpAny_Name (wpAny_loadName_local I.ok.kind hk hn hm fin) hd
 ·rcases hk with hk | hk
  ·exact wpAny_Name (wpAny_loadName_cell I.ok.kind hk hc hcell fin) hd
  ·exact wpAny_Name (wpAny_loadName_free I.ok.kind hk hc hcell fin hcd) hd
theorem eN {i j pos}:PE X (.Constant (.int i) j pos) (tC (.int i)):=fun _ _ _ H _ I h=>wpAny_Constant_int ⟨.int i,H,I.tok _,⟨_,rfl⟩,h⟩
theorem tT {b j pos}:PE X (.Constant (.bool b) j pos) (tC (.bl b)):=fun _ _ _ H _ I h=>Constant_bool ⟨.bl b,H,I,rfl,h⟩
theorem DG {j pos}:PE X (.Constant .none j pos) (tC .non):=fun _ _ _ H _ I h=>Constant_none ⟨.non,H,I,rfl,h⟩
theorem nU {x j pos}:PE X (.Constant (.str x) j pos) (tC (.str x)):=fun _ _ _ H _ I h=>Calls.Constant_str ⟨.str x,H,I.tok _,⟨_,rfl⟩,h⟩
def Gl (X:Cx) (x:Str):Prop:=X.env.kindOf x=some .globalImplicit
theorem BY {E:Value->Shared->Prop}{pins:List (Addr × Obj)}{s:Shared}{σ:St}{H:Hp}{x:Str}{u:Value}{pos:Pos}{Q:Value->Shared->Prop}(I:Inv X pins σ H s) (hg:Gl X x) (hm:X.mg x=some u) (h:Q u s)
  (hd:(x == ("__debug__" : Str))=false:=by decide):wpAny (model X.prog X.w) X.A (eval (.Name x pos) X.env) Q E s:=
 Calls.Name_function_global I.ok.kind hg (Calls.loadGlobal_global (by rw[I.ok.glob];exact I.mod.glob.keeps I.bk) hm h) hd
theorem mI {E:Value->Shared->Prop}{pins:List (Addr × Obj)}{s:Shared}{σ:St}{H:Hp}{x:Str}{u:Value}{pos:Pos}{Q:Value->Shared->Prop}(I:Inv X pins σ H s) (hg:Gl X x) (hm:X.mg x=none) (hv:bootBuiltins x=some u) (h:Q u s)
  (hn:x ≠ "__name__" := by decide) (hd:(x == ("__debug__" : Str))=false:=by decide):wpAny (model X.prog X.w) X.A (eval (.Name x pos) X.env) Q E s:=by
 obtain⟨mb,h1,h2⟩:=I.mod.blt;exact Calls.Name_function_global I.ok.kind hg (Calls.loadGlobal_builtin (by rw[I.ok.glob];exact I.mod.glob.keeps I.bk) hm (by rw[I.ok.blt];exact h1.keeps I.bk) ((h2 x hn).trans hv) h) hd
theorem LM {x:Str}{v:V}{u:Value}{pos:Pos}(hg:Gl X x) (hm:X.mg x=some u) (r:aX v u) (hd:(x == ("__debug__" : Str))=false:=by decide):PE X (.Name x pos) (tC v):=
 fun _ _ _ H _ I h=>BY I hg hm ⟨v,H,I,r,h⟩ hd
variable {a b:Expr}{ta tb:TE}{pos:Pos}
def PC (X:Cx) (op:CmpOp) (a b:Expr) (t:TE):Prop:=
 ∀ (pins:List (Addr × Obj)) (s:Shared) (σ:St) (H:Hp) (Q:VK),Inv X pins σ H s->t σ H Q ->
  wpAny (model X.prog X.w) X.A (eval a X.env) (fun v s₁=>wpAny (model X.prog X.w) X.A (eval b X.env) (fun u s₂=>wpAny (model X.prog X.w) X.A (compareOp op v u) (EP X pins σ Q) X.xe s₂) X.xe s₁) X.xe s
theorem KQ (b:Expr) {op:CmpOp}(h:op≠.In) (h2:op≠.NotIn):behindInMarks op b=false:=by
 have e1:(op == CmpOp.In)=false:=by cases op<;>first | rfl | exact absurd rfl h
 have e2:(op == CmpOp.NotIn)=false:=by cases op<;>first | rfl | exact absurd rfl h2
 cases b<;>simp[behindInMarks,e1,e2]
def aFf (ta:TE):TE:=fun σ H Q=>ta σ H fun x H1=>Q (.bl (decide (x=.non))) H1
def aFl (ta:TE):TE:=fun σ H Q=>ta σ H fun x H1=>Q (.bl (!decide (x=.non))) H1
theorem aX.none_iff {x:V}{v:Value}(r:aX x v):(v == Value.none)=decide (x=.non):=by
 cases x with
 | non=>cases r;rfl
 | bl _=>cases r;rfl
 | int _=>obtain⟨t,rfl⟩:=r;rfl
 | str _=>obtain⟨t,rfl⟩:=r;rfl
 | byt _=>obtain⟨t,rfl⟩:=r;rfl
 | flt _=>obtain⟨t,rfl⟩:=r;rfl
 | ref _=>cases r;rfl
 | ty _=>cases r;rfl
theorem DE {j pos'}(ha:PE X a ta):PC X .Is a (.Constant .none j pos') (aFf ta):=by
 intro pins s σ H Q I h;refine thn (ha pins s σ H _ I h) fun v s1 ⟨x,H1,I1,r1,q1⟩=>?_;exact Constant_none (is_none_gen ⟨.bl _,H1,I1,by rw[r1.none_iff];rfl,q1⟩)
theorem LK {j pos'}(ha:PE X a ta):PC X .IsNot a (.Constant .none j pos') (aFl ta):=by
 intro pins s σ H Q I h;refine thn (ha pins s σ H _ I h) fun v s1 ⟨x,H1,I1,r1,q1⟩=>?_;exact Constant_none (isnot_none_gen ⟨.bl _,H1,I1,by rw[r1.none_iff];rfl,q1⟩)
def tB (t:TE):TT:=fun σ H Q=>t σ H fun x H1=>∃ c,x=.bl c/\Q c H1
theorem aCc {op:CmpOp}{t:TE}(h:PC X op a b t) (h1:behindInMarks op b=false:=by first | exact KQ _ (by decide) (by decide) | rfl):PE X (.Compare a [op] [b] pos) t:=fun pins s σ H Q I hw=>wpAny_Compare1 (h pins s σ H Q I hw) h1
theorem yD {op:CmpOp}{t:TE}(h:PC X op a b t) (h1:behindInMarks op b=false:=by first | exact KQ _ (by decide) (by decide) | rfl):PT X (.Compare a [op] [b] pos) (tB t):=by
 intro pins s σ H Q I hw;refine wpAny_isTrue_Compare1 (thn (h pins s σ H _ I hw) fun v s1 h1=>thn h1 fun u s2 h2=>thn h2 fun c s3 ⟨x,H1,I1,r1,q1⟩=>?_) h1;obtain⟨d,rfl,q⟩:=q1;cases r1;exact wpAny_truthy_bool ⟨H1,I1,q⟩
theorem DN {e:Expr}{t:TE}(h:PE X e t) (he:∀ whole,isTrue e X.env whole=(do let v <- whole;standAt e.pos;holding [v] (truthy v)):=by intro _;rfl):PT X e (tB t):=by
 intro pins s σ H Q I hw;refine isTrue_plain (thn (h pins s σ H _ I hw) fun v s1 ⟨x,H1,I1,r1,q1⟩=>?_) (he _);obtain⟨d,rfl,q⟩:=q1;cases r1;exact wpAny_truthy_bool ⟨H1,I1,q⟩
variable {tA tB':TT}{rest:List Expr}
def aF3 (t u:TT):TT:=fun σ H Q=>t σ H fun c H1=>if c=true then u σ H1 Q else Q false H1
def tOr (t u:TT):TT:=fun σ H Q=>t σ H fun c H1=>if c=true then Q true H1 else u σ H1 Q
def aFk (t:TT):TT:=fun σ H Q=>t σ H fun c H1=>Q (!c) H1
theorem aD2 (ha:PT X a tA):PW X (.BoolOp .And [a] pos) tA:=by
 intro wh pins s σ H Q I h;refine isTrue_and (thn (ha pins s σ H Q I h) fun c s1 e=>?_);cases c with
 | true=>exact isTrue_and_nil e
 | false=>exact e
theorem yE (ha:PT X a tA):PW X (.BoolOp .Or [a] pos) tA:=by
 intro wh pins s σ H Q I h;refine isTrue_or (thn (ha pins s σ H Q I h) fun c s1 e=>?_);cases c with
 | false=>exact isTrue_or_nil e
 | true=>exact e
theorem aD1 (ha:PT X a tA) (hb:PW X (.BoolOp .And (b::rest) pos) tB'):PW X (.BoolOp .And (a::b::rest) pos) (aF3 tA tB'):=by
 intro wh pins s σ H Q I h;refine isTrue_and (thn (ha pins s σ H _ I h) fun c s1 ⟨H1,I1,q1⟩=>?_);cases c with
 | true=>exact hb wh pins s1 σ H1 Q I1 q1
 | false=>exact⟨H1,I1,q1⟩
theorem tZ (ha:PT X a tA) (hb:PW X (.BoolOp .Or (b::rest) pos) tB'):PW X (.BoolOp .Or (a::b::rest) pos) (tOr tA tB'):=by
 intro wh pins s σ H Q I h;refine isTrue_or (thn (ha pins s σ H _ I h) fun c s1 ⟨H1,I1,q1⟩=>?_);cases c with
 | true=>exact⟨H1,I1,q1⟩
 | false=>exact hb wh pins s1 σ H1 Q I1 q1
theorem DM (ha:PT X a tA):PT X (.UnaryOp .Not a pos) (aFk tA):=by
 intro pins s σ H Q I h;exact isTrue_not (ha pins s σ H (fun c H1=>Q (!c) H1) I h)
def aF4 (ta tb:TE):TE:=fun σ H Q=>ta σ H fun x H1=>∃ c,x=.bl c/\if c=true then tb σ H1 Q else Q (.bl false) H1
def aFm (ta:TE):TE:=fun σ H Q=>ta σ H fun x H1=>∃ c,x=.bl c/\Q (.bl (!c)) H1
theorem aCf {op}{t:TE}(h:PE X a t):PE X (.BoolOp op [a] pos) t:=fun pins s σ H Q I hw=>BoolOp_one (h pins s σ H Q I hw)
theorem aCa (ha:PE X a ta) (hb:PE X (.BoolOp .And (b::rest) pos) tb):PE X (.BoolOp .And (a::b::rest) pos) (aF4 ta tb):=by
 intro pins s σ H Q I h;refine BoolOp_and (thn (ha pins s σ H _ I h) fun v s1 ⟨x,H1,I1,r1,q1⟩=>?_);obtain⟨c,rfl,q1⟩:=q1;cases r1;refine wpAny_truthy_bool ?_;cases c with
 | true=>exact hb pins s1 σ H1 Q I1 q1
 | false=>exact⟨.bl false,H1,I1,rfl,q1⟩
theorem aCe (ha:PE X a ta):PE X (.UnaryOp .Not a pos) (aFm ta):=by
 intro pins s σ H Q I h;refine UnaryOp_ (thn (ha pins s σ H _ I h) fun v s1 ⟨x,H1,I1,r1,q1⟩=>?_);obtain⟨c,rfl,q1⟩:=q1;cases r1;exact not_of (wpAny_truthy_bool ⟨.bl (!c),H1,I1,rfl,q1⟩)
def tIf (t:TT) (ta tb:TE):TE:=fun σ H Q=>t σ H fun c H1=>if c=true then ta σ H1 Q else tb σ H1 Q
theorem LN {c:Expr}(hc:PT X c tA) (ha:PE X a ta) (hb:PE X b tb):PE X (.IfExp c a b pos) (tIf tA ta tb):=by
 intro pins s σ H Q I h;refine wpAny_IfExp (thn (hc pins s σ H _ I h) fun d s1 ⟨H1,I1,q1⟩=>?_);cases d with
 | true=>exact ha pins s1 σ H1 Q I1 q1
 | false=>exact hb pins s1 σ H1 Q I1 q1
end
def SqL (K:PySem.W.Frag) (H:Hp) (a:Addr) (xs:List V):Prop:=
 Rd H a (.lst xs) \/
  ∃ (o:Obj) (its:Array Value) (n:Nat),K.lookup a=some o/\o.cls=.type "list" /\ o.dict=none/\o.data=.seq its n/\its.size<=sizeLine/\aL xs its.toList
def SqT (K:PySem.W.Frag) (H:Hp) (a:Addr) (xs:List V):Prop:=
 Rd H a (.tup xs) \/
  ∃ (o:Obj) (its:Array Value) (n:Nat),K.lookup a=some o/\o.cls=.type "tuple" /\ o.data=.seq its n/\its.size<=sizeLine/\aL xs its.toList
def RN:Value->Option V
 | .none=>some .non
 | .bool b=>some (.bl b)
 | .int i _=>some (.int i)
 | .str x _=>some (.str x)
 | .bytes b _=>some (.byt b)
 | .float b _=>some (.flt b)
 | .ref a=>some (.ref a)
 | .type n=>some (.ty n)
 | _=>none
theorem aX.abs {x:V}{u:Value}(r:aX x u):RN u=some x:=by
 cases x with
 | non=>cases r;rfl
 | bl _=>cases r;rfl
 | int _=>obtain⟨t,rfl⟩:=r;rfl
 | str _=>obtain⟨t,rfl⟩:=r;rfl
 | byt _=>obtain⟨t,rfl⟩:=r;rfl
 | flt _=>obtain⟨t,rfl⟩:=r;rfl
 | ref _=>cases r;rfl
 | ty _=>cases r;rfl
theorem aX.inj {x y:V}{u:Value}(r:aX x u) (q:aX y u):x=y:=aIi (r.abs.symm.trans q.abs)
theorem aL.inj:∀ {xs ys:List V}{us:List Value},aL xs us->aL ys us->xs=ys
 | _,_,_,.nil,.nil=>rfl
 | _,_,_,.cons r t,.cons r' t'=>by rw[r.inj r',aL.inj t t']
section
variable {X:Cx}{pins:List (Addr × Obj)}{σ:St}{H:Hp}{s:Shared}{a:Addr}{xs ys:List V}
theorem SqL.of {K:PySem.W.Frag}(h:H a=some (.lst xs)):SqL K H a xs:=.inl (.inl h)
theorem SqT.of {K:PySem.W.Frag}(h:H a=some (.tup xs)):SqT K H a xs:=.inl (.inl h)
theorem Inv.list (I:Inv X pins σ H s) (h:SqL X.K H a xs):∃ its:List Value,aL xs its/\PlainL s.heap a its.toArray/\xs.length<=sizeLine:=by
 rcases h with h | ⟨o,its,n,hk,hc,hd,hs,hz,r⟩
 ·obtain⟨z,its,n,r,e⟩:=h.ok I.hok
  exact⟨its,r,⟨_,n,e,rfl,rfl,rfl⟩,z⟩
 ·refine⟨its.toList,r,⟨o,n,I.kIn a o hk,hc,hd,by simpa using hs⟩,?_⟩
  have e:=r.length;simp only[Array.length_toList] at e;lia
theorem Inv.tuple (I:Inv X pins σ H s) (h:SqT X.K H a xs):∃ its:List Value,aL xs its/\IsTup s.heap a its.toArray/\xs.length<=sizeLine:=by
 rcases h with h | ⟨o,its,n,hk,hc,hs,hz,r⟩
 ·obtain⟨z,its,r,p⟩:=h.ok I.hok
  exact⟨its,r,p,z⟩
 ·refine⟨its.toList,r,⟨o,I.kIn a o hk,hc,n,by simpa using hs⟩,?_⟩
  have e:=r.length;simp only[Array.length_toList] at e;lia
theorem Inv.list_inj (I:Inv X pins σ H s) (h:SqL X.K H a xs) (h':SqL X.K H a ys):xs=ys:=by
 obtain⟨its,r,⟨o,n,e,_,_,d⟩,_⟩:=I.list h;obtain⟨its',r',⟨o',n',e',_,_,d'⟩,_⟩:=I.list h';rw[e] at e';cases e';rw[d] at d'
 injection d' with d1 _
 have:its=its':=by simpa using congrArg Array.toList d1
 subst this;exact r.inj r'
theorem Inv.tuple_inj (I:Inv X pins σ H s) (h:SqT X.K H a xs) (h':SqT X.K H a ys):xs=ys:=by
 obtain⟨its,r,⟨o,e,_,n,d⟩,_⟩:=I.tuple h;obtain⟨its',r',⟨o',e',_,n',d'⟩,_⟩:=I.tuple h';rw[e] at e';cases e';rw[d] at d'
 injection d' with d1 _
 have:its=its':=by simpa using congrArg Array.toList d1
 subst this;exact r.inj r'
end
abbrev Cx.wish (X:Cx) (E:Value->Shared->Prop):Cx:={ X with xe:=E }
abbrev Cx.nox (X:Cx):Cx:=X.wish fun _ _=>False
theorem Cx.Ok.wish {X:Cx}(ok:X.Ok) (E:Value->Shared->Prop):(X.wish E).Ok:=
 ⟨ok.mod,ok.kind,ok.glob,ok.blt,ok.above,ok.inj,ok.has,ok.cab,ok.hd,ok.frames,ok.stk,ok.exf,ok.bs,ok.bsz,ok.noex,ok.exfs,ok.funs,ok.frf⟩
theorem Cx.Ok.unwish {X:Cx}{E:Value->Shared->Prop}(ok:(X.wish E).Ok):X.Ok:=
 ⟨ok.mod,ok.kind,ok.glob,ok.blt,ok.above,ok.inj,ok.has,ok.cab,ok.hd,ok.frames,ok.stk,ok.exf,ok.bs,ok.bsz,ok.noex,ok.exfs,ok.funs,ok.frf⟩
section
variable {X:Cx}{pins:List (Addr × Obj)}{σ:St}{H:Hp}{s:Shared}{E:Value->Shared->Prop}
theorem Inv.wish (I:Inv X pins σ H s) (E:Value->Shared->Prop):Inv (X.wish E) pins σ H s:=⟨I.ok.wish E,I.os,I.bare,I.base,I.loc,I.cell,I.free,I.freeC,I.pin,I.hok,I.len⟩
theorem Inv.unwish (I:Inv (X.wish E) pins σ H s):Inv X pins σ H s:=⟨I.ok.unwish,I.os,I.bare,I.base,I.loc,I.cell,I.free,I.freeC,I.pin,I.hok,I.len⟩
theorem SP.unwish {D:Ends}{f:Flow}{s':Shared}(h:SP (X.wish E) pins D f s'):SP X pins D f s':=by
 cases f with
 | next=>obtain⟨σ',H',I,q⟩:=h;exact⟨σ',H',I.unwish,q⟩
 | brk=>obtain⟨σ',H',I,q⟩:=h;exact⟨σ',H',I.unwish,q⟩
 | cont=>obtain⟨σ',H',I,q⟩:=h;exact⟨σ',H',I.unwish,q⟩
 | ret u=>obtain⟨v,σ',H',I,r,q⟩:=h;exact⟨v,σ',H',I.unwish,r,q⟩
theorem PSs.nox {st:List Stmt}{t:TS}(h:PSs X.nox st t):PSs X st t:=fun pins s σ H D I hw=>
 wpAny_mono (h pins s σ H D (I.wish _) hw) (fun _ _ q=>q.unwish) fun _ _ z=>False.elim z
end
section
variable {X:Cx}{st:Stmt}{rest:List Stmt}{t u:TS}{e:Expr}{te:TE}{pos:Pos}
def aFi:TS:=fun D σ H=>D.nx σ H
def aFp (t u:TS):TS:=fun D σ H=>t { D with nx:=u D } σ H
theorem kN:PSs X [] aFi:=fun _ _ σ H _ I h=>wpAny_execs_nil ⟨σ,H,I,h⟩
theorem cR (h1:PS X st t) (h2:PSs X rest u):PSs X (st::rest) (aFp t u):=by
 intro pins s σ H D I h;refine wpAny_execs_cons (thn (h1 pins s σ H { D with nx:=u D } I h) fun f s1 q=>?_);cases f with
 | next=>
  obtain⟨σ',H',I',q⟩:=q;exact h2 pins s1 σ' H' D I' q
 | ret v=>exact q
 | brk=>exact q
 | cont=>exact q
theorem eO (h1:PS X st t):PSs X [st] t:=by
 intro pins s σ H D I h;refine wpAny_execs_cons (thn (h1 pins s σ H D I h) fun f s1 q=>?_);cases f with
 | next=>exact wpAny_execs_nil q
 | ret v=>exact q
 | brk=>exact q
 | cont=>exact q
def aF7:TS:=fun D σ H=>D.ct σ H
theorem aCw:PS X (.Continue pos) aF7:=fun _ _ σ H _ I h=>wpAny_Continue ⟨σ,H,I,h⟩
theorem Inv.quiet {pins:List (Addr × Obj)}{σ:St}{H:Hp}{s:Shared}(I:Inv X pins σ H s):interactive X.env=false:=by simp[interactive,I.ok.kind]
def aF8 (te:TE):TS:=fun D σ H=>te σ H fun _ H1=>D.nx σ H1
theorem yA (he:PE X e te) (hs:swapsWith e none pos.line X.env=pure false:=by rfl):PS X (.Expr e pos) (aF8 te):=by
 intro pins s σ H D I h;exact wpAny_Expr_any (thn (he pins s σ H _ I h) fun v s1 ⟨x,H1,I1,r1,q1⟩=>⟨σ,H1,I1,q1⟩) I.quiet hs
def aFo (te:TE):TS:=fun D σ H=>te σ H D.rt
theorem jN (he:PE X e te):PS X (.Return (some e) pos) (aFo te):=by
 intro pins s σ H D I h;exact wpAny_Return_some (thn (he pins s σ H _ I h) fun v s1 ⟨x,H1,I1,r1,q1⟩=>⟨x,σ,H1,I1,r1,q1⟩)
def aFe (c:TT) (t u:TS):TS:=fun D σ H=>c σ H fun b H1=>if b=true then t D σ H1 else u D σ H1
theorem jM {c:Expr}{a b:List Stmt}{tc:TT}(hc:PT X c tc) (ha:PSs X a t) (hb:PSs X b u):PS X (.If c a b pos) (aFe tc t u):=by
 intro pins s σ H D I h;refine wpAny_If (thn (hc pins s σ H _ I h) fun d s1 ⟨H1,I1,q1⟩=>?_);cases d with
 | true=>exact ha pins s1 σ H1 D I1 q1
 | false=>exact hb pins s1 σ H1 D I1 q1
end
abbrev TG:=V->St->Hp->(St->Hp->Prop)->Prop
abbrev TGs:=List V->St->Hp->(St->Hp->Prop)->Prop
def PG (X:Cx) (target:Expr) (t:TG):Prop:=
 ∀ (pins:List (Addr × Obj)) (s:Shared) (σ:St) (H:Hp) (v:V) (u:Value) (Q:St->Hp->Prop),Inv X pins σ H s->aX v u->t v σ H Q ->
  wpAny (model X.prog X.w) X.A (assign target X.env u) (fun _ s'=>∃ σ' H',Inv X pins σ' H' s'/\Q σ' H') X.xe s
def PGs (X:Cx) (ts:List Expr) (t:TGs):Prop:=
 ∀ (pins:List (Addr × Obj)) (s:Shared) (σ:St) (H:Hp) (vs:List V) (us:List Value) (Q:St->Hp->Prop),Inv X pins σ H s->aL vs us->t vs σ H Q ->
  wpAny (model X.prog X.w) X.A (assignInOrder ((assignEach ts X.env).map (·.2)) us) (fun _ s'=>∃ σ' H',Inv X pins σ' H' s'/\Q σ' H') X.xe s
abbrev zX:=V->V->V->Hp->(Hp->Prop)->Prop
def FR (X:Cx) (t:zX):Prop:=
 ∀ (pins:List (Addr × Obj)) (s:Shared) (σ:St) (H:Hp) (o i v:V) (ov iv u:Value) (Q:Hp->Prop),Inv X pins σ H s->aX o ov->aX i iv->aX v u->t o i v H Q ->
  wpAny (model X.prog X.w) X.A (setItem ov iv u) (fun _ s'=>∃ H',Inv X pins σ H' s'/\Q H') X.xe s
section
variable {X:Cx}{pos:Pos}
def mE (i:Nat):TG:=fun v σ H Q=>Q (σ.set i (some v)) H
theorem mN {i:Nat}{x:Str}(hN:X.N.Nodup) (hi:X.N[i]?=some x) (hx:Loc X.env.scope x) (hf:X.fn x=true\/X.env.scope.names.lookup x=some .local:=by first | exact .inl rfl | exact .inr rfl | assumption):PG X (.Name x pos) (mE i):=by
 intro pins s σ H v u Q I r h;exact wpAny_assign_Name (NZ I hN hi hx r (fun s' I'=>⟨_,H,I',h⟩) hf)
def VH:TGs:=fun vs σ H Q=>vs=[]/\Q σ H
def VG (t:TG) (u:TGs):TGs:=fun vs σ H Q=>∃ v r,vs=v::r/\t v σ H fun σ' H'=>u r σ' H' Q
theorem DJ:PGs X [] VH:=by
 intro pins s σ H vs us Q I r h;obtain⟨e,h⟩:=h;subst e;cases r;exact assignInOrder_nil ⟨σ,H,I,h⟩
theorem tV {e:Expr}{es:List Expr}{t:TG}{u:TGs}(h1:PG X e t) (h2:PGs X es u)
  (hs:(assignEach (e::es) X.env).map (·.2)=assign e X.env::(assignEach es X.env).map (·.2):=by rfl):PGs X (e::es) (VG t u):=by
 intro pins s σ H vs us Q I r h;obtain⟨v,vr,e1,h⟩:=h;subst e1;cases r with
 | cons r rr=>
  rw[hs];refine assignInOrder_cons (thn (h1 pins s σ H _ _ _ I r h) fun _ s1 ⟨σ1,H1,I1,q1⟩=>?_);exact h2 pins s1 σ1 H1 _ _ Q I1 rr q1
def sI (K:PySem.W.Frag) (n:Nat) (t:TGs):TG:=fun v σ H Q=>∃ a xs,v=.ref a/\SqT K H a xs/\xs.length=n/\t xs σ H Q
theorem xZ {es:List Expr}{k:Nat}{t:TGs}{n:Nat}(hc:X.calm=true) (h:PGs X es t)
  (hn:(assignEach es X.env).length=n:=by rfl) (hst:(assignEach es X.env).findIdx? (·.1)=none:=by rfl):PG X (.Tuple es k pos) (sI X.K n t):=by
 intro pins s σ H v u Q I r hw;obtain⟨a,xs,e1,hq,hl,hw⟩:=hw;subst e1;cases r;obtain⟨its,rv,ht,hz⟩:=I.tuple hq;refine assign_Tuple_tuple (I.ok.hd hc) ht (by simp[hn,<- hl,rv.length]) hst fun h' hx=>?_;have I1:Inv X pins σ H { s with heap:=h' }:=I.kept (t':=s.toks) fun b o e=>hx b o (aKm (aJ3 e)) e;exact h pins _ σ H xs _ Q I1 (by simpa using rv) hw
def VI (to ti:TE) (t:zX):TG:=fun v σ H Q=>to σ H fun o H1=>ti σ H1 fun i H2=>t o i v H2 fun H3=>Q σ H3
theorem aCl {o i:Expr}{to ti:TE}{t:zX}(ho:PE X o to) (hi:PE X i ti) (hs:FR X t)
  (ha:∀ v,assign (.Subscript o i pos) X.env v=(do
   let ov <- holding [v] (eval o X.env)
   let iv <- holding [v,ov] (eval i X.env)
   standAt pos
   holding [v,ov,iv] (setItem ov iv v)
   release [v,ov,iv] []):=by intro _;rfl):PG X (.Subscript o i pos) (VI to ti t):=by
 intro pins s σ H v u Q I r h;rw[ha];refine wpAny_bind (wpAny_holding (thn (ho pins s σ H _ I h) fun ov s1 ⟨x,H1,I1,r1,q1⟩=>?_));refine wpAny_bind (wpAny_holding (thn (hi pins s1 σ H1 _ I1 q1) fun iv s2 ⟨y,H2,I2,r2,q2⟩=>?_));refine wpAny_bind (wpAny_standAt (wpAny_bind (wpAny_holding (thn (hs pins s2 σ H2 x y v ov iv u _ I2 r1 r2 r q2) fun _ s3 ⟨H3,I3,q3⟩=>?_))));exact wpAny_release ⟨σ,H3,I3,q3⟩
def zQ (te:TE) (g:TG):TS:=fun D σ H=>te σ H fun x H1=>g x σ H1 D.nx
theorem aCv {tg e:Expr}{te:TE}{g:TG}(he:PE X e te) (hg:PG X tg g) (hs:swapsWithSole [tg] e pos.line X.env=pure false:=by rfl) (hw:swappedStores [tg] e X.env=pure none:=by rfl)
  (h1:(assignEach [tg] X.env).map (·.2)=[assign tg X.env]:=by rfl):PS X (.Assign [tg] e pos) (zQ te g):=by
 intro pins s σ H D I h;refine wpAny_Assign_stores (thn (he pins s σ H _ I h) fun v s1 ⟨x,H1,I1,r1,q1⟩=>?_) hs hw;rw[h1];exact thn (hg pins s1 σ H1 x v _ I1 r1 q1) fun _ s2 q=>q
theorem jO {i:Nat}{x:Str}{e:Expr}{te:TE}{pos':Pos}(hN:X.N.Nodup) (hi:X.N[i]?=some x) (hx:Loc X.env.scope x) (he:PE X e te) (hs:swapsWith e (some (.Name x pos')) pos.line X.env=pure false:=by rfl) (hf:X.fn x=true\/X.env.scope.names.lookup x=some .local:=by first | exact .inl rfl | exact .inr rfl | assumption):
  PS X (.Assign [.Name x pos'] e pos) (zQ te (mE i)):=by
 intro pins s σ H D I h;refine wpAny_Assign_Name (thn (he pins s σ H _ I h) fun v s1 ⟨y,H1,I1,r1,q1⟩=>?_) hs;exact NZ I1 hN hi hx r1 (fun s2 I2=>⟨_,H1,I2,q1⟩) hf
end
section
variable {X:Cx}{pos:Pos}
end
structure It where
 go:Nat->Hp->Prop
 yld:Nat->Hp->V->Hp->Prop
 stop:Nat->Hp->Prop
def fE (X:Cx) (pins:List (Addr × Obj)) (H:Hp) (b:Addr):Prop:=
 H b=none/\b≠X.env.locals/\b ∉ X.fs/\(b∈X.ex\/X.s₀.heap.objs.size<=b)/\(∀ x c,X.env.cells.lookup x=some c->c≠b)/\∀ p∈X.pn++pins,p.1≠b
theorem Inv.fpOk {X:Cx}{pins:List (Addr × Obj)}{σ:St}{H H':Hp}{s:Shared}{b:Addr}(I:Inv X pins σ H s) (hb:s.heap.objs.size<=b) (hn:H' b=none):fE X pins H' b:=by
 refine⟨hn,aKl (aIq I.lt hb),I.nofs hb,.inr (aKf I.sz hb),fun x c e z=>?_,fun p hp z=>?_⟩
 ·obtain⟨v,q⟩:=I.cell x c e
  exact absurd (aIq q.lt (by rw[z];exact hb)) (aKg _)
 ·exact absurd (aIq (aJ3 (I.pin p hp).1) (by rw[z];exact hb)) (aKg _)
structure Turn (P:Program) (w:World) (K:PySem.W.Frag) (tg:Expr) (J:It) (fp:List Addr) (it:Addr) (tn:Nat->Heap->Prop):Prop where
 mem:it∈fp
 obj:∀ i h,tn i h->∀ b∈fp,∃ o,h.get? b=some o/\∀ v,o.data≠.cell v
 keep:∀ i h h',tn i h->(∀ b∈fp,∀ o,h.get? b=some o->h'.get? b=some o)->tn i h'
 item:∀ (X:Cx),X.prog=P->X.w=w->X.K=K->X.calm=true->∀ (i:Nat) (pins:List (Addr × Obj)) (s:Shared) (σ:St) (H:Hp) (E:Value->Shared->Prop),Inv X pins σ H s->(∀ b∈fp,fE X pins H b)->tn i s.heap->J.go i H ->
  wpAny (model P w) X.A (pyNext (.ref it)) (fun r s1=>∃ u,r=some u /\
   wpAny (model P w) X.A (letOwnedTupleGo tg (.ref it) u) (fun _ s2=>∃ x H',Inv X pins σ H' s2/\aX x u/\J.yld i H x H'/\tn (i+1) s2.heap/\∀ b∈fp,H' b=none) E s1) E s
 done:∀ (X:Cx),X.prog=P->X.w=w->X.K=K->X.calm=true->∀ (i:Nat) (pins:List (Addr × Obj)) (s:Shared) (σ:St) (H:Hp) (E:Value->Shared->Prop),Inv X pins σ H s->(∀ b∈fp,fE X pins H b)->tn i s.heap->J.stop i H ->
  wpAny (model P w) X.A (pyNext (.ref it)) (fun r s1=>r=none/\Inv X pins σ H s1) E s
 self:∀ (A:Around) (i:Nat) (s:Shared) (Q:Value->Shared->Prop) (E:Value->Shared->Prop),tn i s.heap->Q (.ref it) s->wpAny (model P w) A (pyIter (.ref it)) Q E s
abbrev TI:=St->Hp->(It->Hp->Prop)->Prop
def PIE (X:Cx) (pins:List (Addr × Obj)) (σ:St) (tg:Expr) (R:It->Hp->Prop) (itv:Value) (s2:Shared):Prop:=
 ∃ (it:Addr) (fp:List Addr) (tn:Nat->Heap->Prop) (J:It) (H':Hp),itv=.ref it/\Inv X pins σ H' s2/\Turn X.prog X.w X.K tg J fp it tn/\tn 0 s2.heap/\(∀ b∈fp,fE X pins H' b)/\R J H'
def PI (X:Cx) (tg iter:Expr) (wi:TI):Prop:=
 ∀ (pins:List (Addr × Obj)) (s:Shared) (σ:St) (H:Hp) (R:It->Hp->Prop),Inv X pins σ H s->wi σ H R ->
  wpAny (model X.prog X.w) X.A (eval iter X.env) (fun v s1=>wpAny (model X.prog X.w) X.A (pyIter v) (PIE X pins σ tg R) X.xe s1) X.xe s
theorem sN {M:Model}{A:Around}{E:Value->Shared->Prop}{s:Shared}{tg:Expr}{it:Addr}{u:Value}{o:Obj}{n:String}{vs:Array Value}{Q:Unit->Shared->Prop}(ho:s.heap.get? it=some o) (hc:o.cls=.type n) (hd:o.data=.fields vs)
    (hn:["enumerate","zip","dict_itemiterator","dict_reverseitemiterator","odict_iterator","itertools.zip_longest","itertools.pairwise"].contains n=false) (hQ:Q () s):wpAny M A (letOwnedTupleGo tg (.ref it) u) Q E s:=by
  unfold letOwnedTupleGo;cases tg<;>first
    | exact wpAny_pure hQ
    | (cases u<;>first
        | exact wpAny_pure hQ
        | (refine wpAny_bind (wpAny_load ho ?_)
           rw[hc,hd];show wpAny M A (if (["enumerate","zip","dict_itemiterator","dict_reverseitemiterator","odict_iterator","itertools.zip_longest","itertools.pairwise"].contains n&&vs[0]? == some (rawInt _))=true then _ else _) Q E s;rw[if_neg (by intro h;rw[hn,Bool.false_and] at h;cases h)];exact wpAny_pure hQ))
def Itl (K:PySem.W.Frag) (a:Addr):It:=
 ⟨fun i H=>∃ xs x,SqL K H a xs/\xs[i]?=some x,fun i H x H'=>H'=H/\∀ xs,SqL K H a xs->xs[i]?=some x,fun i H=>∃ xs,SqL K H a xs/\xs.length<=i⟩
def Itr (lo:Int) (n:Nat):It:=⟨fun i _=>i<n,fun i H x H'=>H'=H/\x=.int (lo+i),fun i _=>n<=i⟩
theorem ON {P:Program}{w:World}{K:PySem.W.Frag}{tg:Expr}(a it:Addr):Turn P w K tg (Itl K a) [it] it (fun i h=>h.IsListIter it a i) where
 mem:=by simp
 obj:=fun i h st b hb=>by
  have e:b=it:=by simpa using hb
  subst e;obtain⟨o,e,c,d⟩:=st;exact⟨o,e,fun v z=>by rw[d] at z;cases z⟩
 keep:=fun i h h' st k=>st.at fun o e=>k it (by simp) o e
 item:=by
  intro X hP hw hK hc i pins s σ H E I hf st hg;subst hP hw hK;obtain⟨xs,x,hq,hx⟩:=hg;obtain⟨its,rv,p,hz⟩:=I.list hq;obtain⟨u,hu,ru⟩:=rv.get hx;obtain⟨f0,f1,f2,f3,f4,f5⟩:=hf it (by simp);refine wpAny_pyNext_list_item st p.isList (x:=u) (by simpa using hu) fun h' st' sb=>?_;have I1:Inv X pins σ H { s with heap:=h' }:=I.turned (t':=s.toks) (fun b o hb e=>(sb.2 b hb).trans e) f0 f1 f3 f4 f5;obtain⟨o,e,c,d⟩:=id st';exact⟨u,rfl,sN (s:={ s with heap:=h' }) e c d (by decide) ⟨x,H,I1,ru,⟨rfl,fun ys hy=>by rw[I.list_inj hy hq];exact hx⟩,st',fun b hb=>(hf b hb).1⟩⟩
 done:=by
  intro X hP hw hK hc i pins s σ H E I hf st hg;subst hP hw hK;obtain⟨xs,hq,hx⟩:=hg;obtain⟨its,rv,p,hz⟩:=I.list hq;obtain⟨f0,f1,f2,f3,f4,f5⟩:=hf it (by simp);have hl:=rv.length;exact wpAny_pyNext_list_end (I.ok.hd hc) st p.isList (by simp;lia) fun h' eb=>⟨rfl,I.turned (t':=s.toks) (fun b o hb e=>eb b o hb e) f0 f1 f3 f4 f5⟩
 self:=fun _ _ _ _ _ st h=>wpAny_pyIter_listiter st h
theorem aG1 {P:Program}{w:World}{K:PySem.W.Frag}{tg:Expr}(it:Addr) (lo:Int) (n:Nat):Turn P w K tg (Itr lo n) [it] it (fun i h=>IsRangeIter h it (lo+(i:Nat)*1) ((n:Int)-(i:Nat)) 1) where
 mem:=by simp
 obj:=fun i h st b hb=>by
  have e:b=it:=by simpa using hb
  subst e;exact⟨_,st,fun v z=>by
   have z':Data.fields _=Data.cell v:=z;cases z'⟩
 keep:=fun i h h' st k=>k it (by simp) _ st
 item:=by
  intro X hP hw hK hc i pins s σ H E I hf st hg;subst hP hw hK;obtain⟨f0,f1,f2,f3,f4,f5⟩:=hf it (by simp);have W:=Walks.range (prog:=X.prog) (w:=X.w) (I.ok.hd hc) it lo 1 n;refine W.item i s _ _ hg st fun v h' tk hv st' kk=>?_;obtain⟨t,rfl⟩:=hv;have I1:Inv X pins σ H { s with heap:=h',toks:=tk }:=I.turned (fun b o hb e=>kk b o (by simpa using hb) e) f0 f1 f3 f4 f5;refine⟨_,rfl,sN (s:={ s with heap:=h',toks:=tk }) (n := "range_iterator") st' rfl rfl (by decide) ⟨.int (lo+i),H,I1,⟨t,?_⟩,⟨rfl,rfl⟩,st',fun b hb=>(hf b hb).1⟩⟩;rw[Int.mul_one]
 done:=by
  intro X hP hw hK hc i pins s σ H E I hf st hg;subst hP hw hK;obtain⟨f0,f1,f2,f3,f4,f5⟩:=hf it (by simp);exact wpAny_pyNext_range_end (I.ok.hd hc) st (by have:n<=i:=hg;lia) fun h' eb=>⟨rfl,I.turned (t':=s.toks) (fun b o hb e=>eb b o hb e) f0 f1 f3 f4 f5⟩
 self:=fun _ _ _ _ _ st h=>wpAny_pyIter_rangeiter st h
section
variable {X:Cx}{tg:Expr}
def XJ (K:PySem.W.Frag) (tl:TE):TI:=fun σ H R=>tl σ H fun x H1=>∃ a,x=.ref a/\(∃ xs,SqL K H1 a xs)/\R (Itl K a) H1
theorem LQ {l:Expr}{tl:TE}(hl:PE X l tl):PI X tg l (XJ X.K tl):=by
 intro pins s σ H R I h;refine thn (hl pins s σ H _ I h) fun v s1 ⟨x,H1,I1,r1,q1⟩=>?_;obtain⟨a,e,⟨xs,hq⟩,q⟩:=q1;subst e;cases r1;obtain⟨its,rv,p,hz⟩:=I1.list hq;refine wpAny_pyIter_list p.isList ?_;refine⟨s1.heap.objs.size,[s1.heap.objs.size],_,_,H1,rfl,I1.kept (t':=s1.toks) fun b o e=>aIt _ e,ON a _,⟨_,aJ2 _ rfl,rfl,rfl⟩,fun b hb=>?_,q⟩;have e:b=s1.heap.objs.size:=by simpa using hb
 subst e;exact I1.fpOk (aKe _) (I1.hok.fresh (aKe _))
theorem MG {pins:List (Addr × Obj)}{σ:St}{H:Hp}{s:Shared}{R:It->Hp->Prop}{E:Value->Shared->Prop}{lo hi:Int}{t u v:Tok}{tk:Nat}(I:Inv X pins σ H s) (h1 : -(2^62)<=lo) (h2:lo<2^62) (h3 : -(2^62)<=hi) (h4:hi<2^62)
  (q:R (Itr lo (hi-lo).toNat) H):wpAny (model X.prog X.w) X.A (pyIter (.ref s.heap.objs.size)) (PIE X pins σ tg R) E { s with heap:=s.heap.push { cls:=.type "range",data:=.fields #[.int lo t,.int hi u,.int 1 v] },toks:=tk }:=by
 refine wpAny_pyIter_range (IsRange.new ..) (small_one h1 h2 h3 h4) ?_;have I1:Inv X pins σ H { s with heap:=s.heap.push { cls:=.type "range",data:=.fields #[.int lo t,.int hi u,.int 1 v] },toks:=tk }:=I.kept fun b o e=>aIt _ e;refine⟨(s.heap.push { cls:=.type "range",data:=.fields #[.int lo t,.int hi u,.int 1 v] }).objs.size,[(s.heap.push { cls:=.type "range",data:=.fields #[.int lo t,.int hi u,.int 1 v] }).objs.size],_,_,H,rfl,
  I1.kept (t':=tk) fun b o e=>aIt _ e,aG1 _ lo (hi-lo).toNat,?_,fun b hb=>?_,q⟩
 ·have e1:lo+((0:Nat):Int)*1=lo:=by simp
  have e2:(((hi-lo).toNat:Nat):Int)-((0:Nat):Int)=Builtin.Range.rangeSize lo hi 1:=by rw[rangeSize_one];split<;>lia
  show IsRangeIter _ _ (lo+((0:Nat):Int)*1) ((((hi-lo).toNat:Nat):Int)-((0:Nat):Int)) 1;rw[e1,e2];exact aJ2 _ rfl
 ·have e:b=(s.heap.push { cls:=.type "range",data:=.fields #[.int lo t,.int hi u,.int 1 v] }).objs.size:=by simpa using hb
  subst e;exact I1.fpOk (aKe _) (I1.hok.fresh (aKe _))
def XM (ta:TA):TI:=fun σ H R=>ta σ H fun vs H1=>∃ j:Int,vs=[.int j] /\ -(2^62)<=j/\j<2^62/\R (Itr 0 j.toNat) H1
def XN (ta:TA):TI:=fun σ H R=>ta σ H fun vs H1=>∃ i j:Int,vs=[.int i,.int j]/\(-(2^62)<=i/\i<2^62 /\ -(2^62)<=j/\j<2^62)/\R (Itr i (j-i).toNat) H1
theorem aCo {a:Expr}{ta:TA}{p pos:Pos}(hg:Gl X "range") (hm:X.mg "range" = none) (ha:PA X [a] ta) (hs:starEach [a] X.env=[(false,eval a X.env)]:=by rfl):PI X tg (.Call (.Name "range" p) [a] [] pos) (XM ta):=by
 intro pins s σ H R I h;refine Call_ (mI I hg hm boot_range (PyProof.Rows.callWith_type1 (thn (ha pos pins s σ H _ I h) fun us s1 ⟨vs,H1,I1,r1,q1⟩=>?_) hs rfl));obtain⟨j,e,q1,q2,q⟩:=q1;subst e;cases r1 with
 | cons r rr=>
  cases rr;obtain⟨t,rfl⟩:=r;exact call_range_1 (MG I1 (by lia) (by lia) q1 q2 (by simpa using q))
theorem aCp {a b:Expr}{ta:TA}{p pos:Pos}(hg:Gl X "range") (hm:X.mg "range" = none) (ha:PA X [a,b] ta) (hs:starEach [a,b] X.env=[(false,eval a X.env),(false,eval b X.env)]:=by rfl) (hs2:starEach [b] X.env=[(false,eval b X.env)]:=by rfl):
  PI X tg (.Call (.Name "range" p) [a,b] [] pos) (XN ta):=by
 intro pins s σ H R I h;refine Call_ (mI I hg hm boot_range (PyProof.Rows.callWith_type1 (thn (ha pos pins s σ H _ I h) fun us s1 ⟨vs,H1,I1,r1,q1⟩=>?_) (by rw[hs,hs2]) (by rw[hs2];rfl)));obtain⟨i,j,e,⟨q1,q2,q3,q4⟩,q⟩:=q1;subst e;cases r1 with
 | cons r rr=>
  cases rr with
  | cons r' rr=>
   cases rr;obtain⟨t,rfl⟩:=r;obtain⟨t',rfl⟩:=r';exact call_range_2 (MG I1 q1 q2 q3 q4 q)
def aFa (wi:TI) (g:TG) (tb:TS):TS:=fun D σ H=>wi σ H fun J H1=>∃ W:Nat->Nat->St->Hp->Prop,(∃ m,W 0 m σ H1)/\∀ i m σ H,W i m σ H ->
 (J.stop i H/\D.nx σ H)\/(J.go i H/\∃ N:St->Hp->Prop,(∀ σ' H',N σ' H'->∃ m',m'<m/\W (i+1) m' σ' H')/\∀ x H',J.yld i H x H'->g x σ H' fun σ2 H2=>tb { D with nx:=N,ct:=N,bk:=D.nx } σ2 H2)
def tY (fp:List Addr) (h:Heap):List (Addr × Obj):=fp.filterMap fun b=>(h.get? b).map fun o=>(b,o)
theorem xG {fp:List Addr}{h:Heap}{b:Addr}{o:Obj}(hb:b∈fp) (e:h.get? b=some o):(b,o)∈tY fp h:=List.mem_filterMap.mpr ⟨b,hb,by rw[e];rfl⟩
theorem aAe {fp:List Addr}{h:Heap}{p:Addr × Obj}(hp:p∈tY fp h):p.1∈fp/\h.get? p.1=some p.2:=by
 obtain⟨b,hb,e⟩:=List.mem_filterMap.mp hp;cases q:h.get? b with
 | none=>rw[q] at e;cases e
 | some o=>
  rw[q] at e;have e':(b,o)=p:=aIi e;subst e';exact⟨hb,q⟩
theorem Inv.pinned {pins:List (Addr × Obj)}{σ:St}{H:Hp}{s:Shared}{fp:List Addr}(I:Inv X pins σ H s) (hf:∀ b∈fp,fE X pins H b) (ho:∀ b∈fp,∃ o,s.heap.get? b=some o/\∀ v,o.data≠.cell v):Inv X (pins++tY fp s.heap) σ H s:=
 I.pins_of fun p hp=>(aK1.mp hp).elim (fun z=>I.pin p (aK3 _ z)) fun z=>by
  obtain⟨hb,e⟩:=aAe z;obtain⟨f0,f1,f2,_⟩:=hf p.1 hb;obtain⟨o,e',d⟩:=ho p.1 hb;rw[e] at e';cases e';exact⟨e,f0,f1,f2,d⟩
theorem Inv.unpinned {pins pl:List (Addr × Obj)}{σ:St}{H:Hp}{s:Shared}(I:Inv X (pins++pl) σ H s):Inv X pins σ H s:=I.pins_of fun p hp=>I.pin p (aK3 _ (List.mem_append_left _ hp))
theorem yB {iter:Expr}{body:List Stmt}{wi:TI}{g:TG}{tb:TS}{pos:Pos}(hp:PassesOwn (model X.prog X.w) X.A X.env X.xe) (hc:X.calm=true) (hi:PI X tg iter wi) (hg:PG X tg g) (hb:PSs X body tb)
  (hs:∀ x,foldedSetIterable iter X.env x=pure x:=by intro _;rfl):PS X (.For tg iter body [] pos) (aFa wi g tb):=by
 intro pins s σ H D I h;refine wpAny_For (thn (hi pins s σ H _ I h) fun v s1 h1=>thn h1 fun itv s2 h2=>?_) hs;obtain⟨it,fp,tn,J,H2,e,I2,T,st2,f2,W,⟨m0,w0⟩,turn⟩:=h2;subst e;have stat:∀ {H':Hp},(∀ b∈fp,H' b=none)->∀ b∈fp,fE X pins H' b:=fun hn b hb=>⟨hn b hb,(f2 b hb).2⟩;refine codeAny_forLoop_any (fun n s'=>∃ i σ' H',Inv X pins σ' H' s'/\tn i s'.heap/\(∀ b∈fp,H' b=none)/\W i n σ' H') ?_ m0 ⟨0,σ,H2,I2,st2,fun b hb=>(f2 b hb).1,w0⟩;rintro n s3 ⟨i,σ3,H3,I3,st3,fr3,w3⟩;rcases turn i n σ3 H3 w3 with ⟨stop,qn⟩ | ⟨go,N,hN,step⟩
 ·refine wpAny_passesOwn hp (thn (T.done X rfl rfl rfl hc i pins s3 σ3 H3 X.xe I3 (stat fr3) st3 stop) fun r s4 ⟨hr,I4⟩=>?_)
  subst hr;exact wpAny_execs_nil ⟨σ3,H3,I4,qn⟩
 ·refine wpAny_passesOwn hp (thn (T.item X rfl rfl rfl hc i pins s3 σ3 H3 X.xe I3 (stat fr3) st3 go) fun r s4 ⟨u,hr,h4⟩=>?_)
  subst hr;refine wpAny_passesOwn hp (thn h4 fun _ s5 ⟨x,H5,I5,r5,y5,st5,fr5⟩=>?_);have I5':=I5.pinned (stat fr5) (T.obj _ _ st5);refine wpAny_passesOwn hp (thn (hg _ s5 σ3 H5 x u _ I5' r5 (step x H5 y5)) fun _ s6 ⟨σ6,H6,I6,q6⟩=>?_);refine wpAny_passesOwn hp (thn (hb _ s6 σ6 H6 _ I6 q6) fun f s7 q7=>?_);have again:∀ {σ7:St} {H7:Hp},Inv X (pins++tY fp s5.heap) σ7 H7 s7->N σ7 H7->∃ m,m<n/\∃ i σ' H',Inv X pins σ' H' s7/\tn i s7.heap/\(∀ b∈fp,H' b=none)/\W i m σ' H':=fun {σ7 H7} I7 n7=>by
   obtain⟨m',hm,w7⟩:=hN σ7 H7 n7;refine⟨m',hm,i+1,σ7,H7,I7.unpinned,T.keep _ _ _ st5 fun b hb o e=>(I7.pin (b,o) (aK3 _ (aK3 _ (xG hb e)))).1,fun b hb=>?_,w7⟩;obtain⟨o,e,d⟩:=T.obj _ _ st5 b hb;exact (I7.pin (b,o) (aK3 _ (aK3 _ (xG hb e)))).2.1
  cases f with
  | next=>obtain⟨σ7,H7,I7,n7⟩:=q7;exact again I7 n7
  | cont=>obtain⟨σ7,H7,I7,n7⟩:=q7;exact again I7 n7
  | brk=>obtain⟨σ7,H7,I7,q7⟩:=q7;exact⟨σ7,H7,I7.unpinned,q7⟩
  | ret v=>obtain⟨x7,σ7,H7,I7,r7,q7⟩:=q7;exact⟨x7,σ7,H7,I7.unpinned,r7,q7⟩
end
theorem VF {K:PySem.W.Frag}{a:Addr}{xs:List V}{g:TG}{tb:TS}{D:Ends}{σ:St}{H:Hp}(Pv:Nat->St->Hp->Prop) (h0:Pv 0 σ H) (hl:∀ i σ H,i<=xs.length->Pv i σ H->SqL K H a xs)
  (hs:∀ i x σ H,xs[i]?=some x->Pv i σ H->g x σ H fun σ2 H2=>tb { D with nx:=Pv (i+1),ct:=Pv (i+1),bk:=D.nx } σ2 H2) (hd:∀ σ H,Pv xs.length σ H->D.nx σ H):
  ∃ W:Nat->Nat->St->Hp->Prop,(∃ m,W 0 m σ H)/\∀ i m σ H,W i m σ H ->
   ((Itl K a).stop i H/\D.nx σ H)\/((Itl K a).go i H/\∃ N:St->Hp->Prop,(∀ σ' H',N σ' H'->∃ m',m'<m/\W (i+1) m' σ' H')/\∀ x H',(Itl K a).yld i H x H'->g x σ H' fun σ2 H2=>tb { D with nx:=N,ct:=N,bk:=D.nx } σ2 H2):=by
 refine⟨fun i m σ H=>m=xs.length-i/\i<=xs.length/\Pv i σ H,⟨xs.length,by simp,aKo _,h0⟩,?_⟩;rintro i m σ H ⟨rfl,hi,p⟩;have q:=hl i σ H hi p
 by_cases hlt:i<xs.length
 ·refine .inr ⟨⟨xs,xs[i],q,by simp[hlt]⟩,Pv (i+1),fun σ' H' p'=>⟨xs.length-(i+1),by lia,rfl,hlt,p'⟩,fun x H' y=>?_⟩
  obtain⟨e,y⟩:=y;subst e;exact hs i x σ _ (y xs q) p
 ·have e:i=xs.length:=by lia
  subst e;exact .inl ⟨⟨xs,q,aKe _⟩,hd σ H p⟩
abbrev R2:=V->V->Hp->VK->Prop
def OpR (X:Cx) (f:Value->Value->Sem Value) (r:R2):Prop:=
 ∀ (pins:List (Addr × Obj)) (s:Shared) (σ:St) (H:Hp) (x y:V) (v u:Value) (Q:VK),Inv X pins σ H s->aX x v->aX y u->r x y H Q ->
  wpAny (model X.prog X.w) X.A (f v u) (EP X pins σ Q) X.xe s
def UnR (X:Cx) (f:Value->Sem Value) (r:V->Hp->VK->Prop):Prop:=
 ∀ (pins:List (Addr × Obj)) (s:Shared) (σ:St) (H:Hp) (x:V) (v:Value) (Q:VK),Inv X pins σ H s->aX x v->r x H Q ->
  wpAny (model X.prog X.w) X.A (f v) (EP X pins σ Q) X.xe s
def eY (X:Cx) (f:Value) (r:List V->Hp->VK->Prop):Prop:=
 ∀ (pins:List (Addr × Obj)) (s:Shared) (σ:St) (H:Hp) (xs:List V) (us:List Value) (Q:VK),Inv X pins σ H s->aL xs us->r xs H Q ->
  wpAny (model X.prog X.w) X.A (call f us) (EP X pins σ Q) X.xe s
def RL (X:Cx) (r:V->Hp->(Bool->Hp->Prop)->Prop):Prop:=
 ∀ (pins:List (Addr × Obj)) (s:Shared) (σ:St) (H:Hp) (x:V) (v:Value) (Q:Bool->Hp->Prop),Inv X pins σ H s->aX x v->r x H Q ->
  wpAny (model X.prog X.w) X.A (truthy v) (TP X pins σ Q) X.xe s
def tOp (r:R2) (ta tb:TE):TE:=fun σ H Q=>ta σ H fun x H1=>tb σ H1 fun y H2=>r x y H2 Q
def tUn (r:V->Hp->VK->Prop) (ta:TE):TE:=fun σ H Q=>ta σ H fun x H1=>r x H1 Q
def rI (C:Int->Int->Prop) (g:Int->Int->V):R2:=fun x y H Q=>∃ i j,x=.int i/\y=.int j/\C i j/\Q (g i j) H
def rI0 (g:Int->Int->V):R2:=fun x y H Q=>∃ i j,x=.int i/\y=.int j/\Q (g i j) H
def rU (g:Int->V):V->Hp->VK->Prop:=fun x H Q=>∃ i,x=.int i/\Q (g i) H
section
variable {X:Cx}{a b c:Expr}{ta tb tc:TE}{pos:Pos}
theorem wC (ha:PE X a ta) (hb:PE X b tb) {pins:List (Addr × Obj)}{s:Shared}{σ:St}{H:Hp}{R:V->V->Hp->Prop}(I:Inv X pins σ H s)
  (h:ta σ H fun x H1=>tb σ H1 fun y H2=>R x y H2) {Q:Value->Shared->Prop} {f:Value->Value->Sem Value}
  (hf:∀ v u s2 x y H2,Inv X pins σ H2 s2->aX x v->aX y u->R x y H2->wpAny (model X.prog X.w) X.A (f v u) Q X.xe s2):
  wpAny (model X.prog X.w) X.A (eval a X.env) (fun v s₁=>wpAny (model X.prog X.w) X.A (eval b X.env) (fun u s₂=>wpAny (model X.prog X.w) X.A (f v u) Q X.xe s₂) X.xe s₁) X.xe s:=by
 refine thn (ha pins s σ H _ I h) fun v s1 ⟨x,H1,I1,r1,q1⟩=>?_;refine thn (hb pins s1 σ H1 _ I1 q1) fun u s2 ⟨y,H2,I2,r2,q2⟩=>?_;exact hf v u s2 x y H2 I2 r1 r2 q2
theorem tU {op:Operator}{r:R2}(ho:OpR X (binaryOp op) r) (ha:PE X a ta) (hb:PE X b tb):PE X (.BinOp a op b pos) (tOp r ta tb):=by
 intro pins s σ H Q I h;exact wpAny_BinOp (wC ha hb I h fun v u s2 x y H2 I2 rx ry q=>ho pins s2 σ H2 x y v u Q I2 rx ry q)
theorem DH {op:UnaryOp}{r:V->Hp->VK->Prop}(ho:UnR X (unaryOp op) r) (ha:PE X a ta):PE X (.UnaryOp op a pos) (tUn r ta):=by
 intro pins s σ H Q I h;exact UnaryOp_ (thn (ha pins s σ H _ I h) fun v s1 ⟨x,H1,I1,r1,q1⟩=>ho pins s1 σ H1 x v Q I1 r1 q1)
theorem opI {f:Value->Value->Sem Value}{C:Int->Int->Prop}{g:Int->Int->Int}
  (rule:∀ (i j:Int) (t u:Tok) (s:Shared) (Q:Value->Shared->Prop) (E:Value->Shared->Prop),C i j->Q (.int (g i j) s.toks) { s with toks:=s.toks+1 }->wpAny (model X.prog X.w) X.A (f (.int i t) (.int j u)) Q E s):
  OpR X f (rI C fun i j=>.int (g i j)):=by
 intro pins s σ H x y v u Q I rx ry h;obtain⟨i,j,rfl,rfl,hc,q⟩:=h;obtain⟨t,rfl⟩:=rx;obtain⟨t',rfl⟩:=ry;exact rule i j t t' s _ _ hc ⟨.int (g i j),H,I.tok _,⟨_,rfl⟩,q⟩
theorem tM {f:Value->Value->Sem Value}{g:Int->Int->Int}
  (rule:∀ (i j:Int) (t u:Tok) (s:Shared) (Q:Value->Shared->Prop) (E:Value->Shared->Prop),Q (.int (g i j) s.toks) { s with toks:=s.toks+1 }->wpAny (model X.prog X.w) X.A (f (.int i t) (.int j u)) Q E s):
  OpR X f (rI0 fun i j=>.int (g i j)):=by
 intro pins s σ H x y v u Q I rx ry h;obtain⟨i,j,rfl,rfl,q⟩:=h;obtain⟨t,rfl⟩:=rx;obtain⟨t',rfl⟩:=ry;exact rule i j t t' s _ _ ⟨.int (g i j),H,I.tok _,⟨_,rfl⟩,q⟩
theorem xS {f:Value->Value->Sem Value}{g:Int->Int->Bool}
  (rule:∀ (i j:Int) (t u:Tok) (s:Shared) (Q:Value->Shared->Prop) (E:Value->Shared->Prop),Q (.bool (g i j)) s->wpAny (model X.prog X.w) X.A (f (.int i t) (.int j u)) Q E s):
  OpR X f (rI0 fun i j=>.bl (g i j)):=by
 intro pins s σ H x y v u Q I rx ry h;obtain⟨i,j,rfl,rfl,q⟩:=h;obtain⟨t,rfl⟩:=rx;obtain⟨t',rfl⟩:=ry;exact rule i j t t' s _ _ ⟨.bl (g i j),H,I,rfl,q⟩
def ES (i j:Int):Prop:=0<=j/\j<=1000000/\i.natAbs<2^64
theorem aG6 (k:Nat):(0:Int)<=2^k:=by
 rw[two_pow_cast];exact Int.natCast_nonneg _
theorem aBo:OpR X (binaryOp .Add) (rI0 fun i j=>.int (i+j)):=tM fun _ _ _ _ _ _ _ q=>add_int q
theorem aC4:OpR X (binaryOp .Sub) (rI0 fun i j=>.int (i-j)):=tM fun _ _ _ _ _ _ _ q=>sub_int q
theorem aBw:OpR X (binaryOp .Mod) (rI (fun _ j=>0<j) fun i j=>.int (i%j)):=opI fun i j _ _ _ _ _ hc q=>by
 have h1:(0:Int)<j:=hc;exact mod_int' (by lia) (by rw[Int.fmod_eq_emod_of_nonneg i (by lia)];exact q)
theorem LH:OpR X (binaryOp .LShift) (rI ES fun i j=>.int (i*2^j.toNat)):=opI fun _ _ _ _ _ _ _ hc q=>lshift_int_small hc.1 hc.2.1 hc.2.2 q
theorem aC3:OpR X (binaryOp .RShift) (rI (fun _ j=>0<=j) fun i j=>.int (i / 2^j.toNat)):=opI fun i j _ _ _ _ _ hc q=>
 rshift_int hc (by rw[Int.fdiv_eq_ediv_of_nonneg i (aG6 _)];exact q)
theorem aBq:OpR X (binaryOp .BitAnd) (rI0 fun i j=>.int (Builtin.bitAnd i j)):=tM fun _ _ _ _ _ _ _ q=>and_int q
theorem aC1:OpR X (binaryOp .BitOr) (rI0 fun i j=>.int (Builtin.bitOr i j)):=tM fun _ _ _ _ _ _ _ q=>or_int q
theorem aC5:OpR X (binaryOp .BitXor) (rI0 fun i j=>.int (Builtin.bitXor i j)):=tM fun _ _ _ _ _ _ _ q=>xor_int q
theorem unI {f:Value->Sem Value}{g:Int->Int}
  (rule:∀ (i:Int) (t:Tok) (s:Shared) (Q:Value->Shared->Prop) (E:Value->Shared->Prop),Q (.int (g i) s.toks) { s with toks:=s.toks+1 }->wpAny (model X.prog X.w) X.A (f (.int i t)) Q E s):
  UnR X f (rU fun i=>.int (g i)):=by
 intro pins s σ H x v Q I rx h;obtain⟨i,rfl,q⟩:=h;obtain⟨t,rfl⟩:=rx;exact rule i t s _ _ ⟨.int (g i),H,I.tok _,⟨_,rfl⟩,q⟩
theorem ER:UnR X (unaryOp .USub) (rU fun i=>.int (-i)):=unI fun _ _ _ _ _ q=>neg_int q
end
def scal:V->V->Bool
 | .non,.non=>true | .non,.int _=>true | .int _,.non=>true | .non,.bl _=>true | .bl _,.non=>true | .non,.str _=>true | .str _,.non=>true
 | .int _,.int _=>true | .bl _,.bl _=>true | .str _,.str _=>true | .byt _,.byt _=>true
 | .int _,.str _=>true | .str _,.int _=>true | .bl _,.str _=>true | .str _,.bl _=>true
 | _,_=>false
def rEq:R2:=fun x y H Q=>scal x y=true/\Q (.bl (decide (x=y))) H
def rNe:R2:=fun x y H Q=>scal x y=true/\Q (.bl (!decide (x=y))) H
theorem HQ {i j:Int}:decide (V.int i=V.int j)=(i == j):=by
 rw[aIz];simp
theorem HN {i j:Bool}:decide (V.bl i=V.bl j)=(i == j):=by
 rw[aIz];simp
theorem HR {i j:Str}:decide (V.str i=V.str j)=(i == j):=by
 rw[aIz];simp
theorem HP {i j:Array UInt8}:decide (V.byt i=V.byt j)=(i.toList == j.toList):=by
 rw[aIz];cases i;cases j;simp
section
variable {X:Cx}{a b c:Expr}{ta tb tc:TE}{pos:Pos}
theorem bV {pins:List (Addr × Obj)}{σ:St}{H:Hp}{s:Shared}{Q:VK}{k k':Bool}(I:Inv X pins σ H s) (q:Q (.bl k) H) (e:k=k'):EP X pins σ Q (.bool k') s:=by
 subst e;exact⟨.bl k,H,I,rfl,q⟩
theorem tN:OpR X (compareOp .Eq) rEq:=by
 intro pins s σ H x y v u Q I rx ry h;obtain⟨hs,q⟩:=h;cases x with
 | non=>
  cases rx;cases y with
  | non=>cases ry;exact PySem.EqNone.eq_none_none (bV I q (by simp))
  | bl j=>cases ry;exact PySem.EqNone.eq_none_bool (bV I q (by simp))
  | int j=>obtain⟨t',rfl⟩:=ry;exact PySem.EqNone.eq_none_int (bV I q (by simp))
  | str j=>obtain⟨t',rfl⟩:=ry;exact PySem.EqNone.eq_none_str (bV I q (by simp))
  | _=>exact absurd (show false=true from hs) aJ1
 | bl i=>
  cases rx;cases y with
  | non=>cases ry;exact PySem.EqNone.eq_bool_none (bV I q (by simp))
  | bl j=>cases ry;exact eq_bool (bV I q HN)
  | str j=>obtain⟨t',rfl⟩:=ry;exact PySem.EqMixed.eq_bool_str (bV I q (by simp))
  | _=>exact absurd (show false=true from hs) aJ1
 | int i=>
  obtain⟨t,rfl⟩:=rx;cases y with
  | non=>cases ry;exact PySem.EqNone.eq_int_none (bV I q (by simp))
  | int j=>obtain⟨t',rfl⟩:=ry;exact eq_int (bV I q HQ)
  | str j=>obtain⟨t',rfl⟩:=ry;exact PySem.EqMixed.eq_int_str (bV I q (by simp))
  | _=>exact absurd (show false=true from hs) aJ1
 | str i=>
  obtain⟨t,rfl⟩:=rx;cases y with
  | non=>cases ry;exact PySem.EqNone.eq_str_none (bV I q (by simp))
  | bl j=>cases ry;exact PySem.EqMixed.eq_str_bool (bV I q (by simp))
  | int j=>obtain⟨t',rfl⟩:=ry;exact PySem.EqMixed.eq_str_int (bV I q (by simp))
  | str j=>obtain⟨t',rfl⟩:=ry;exact eq_str (bV I q HR)
  | _=>exact absurd (show false=true from hs) aJ1
 | byt i=>
  obtain⟨t,rfl⟩:=rx;cases y with
  | byt j=>obtain⟨t',rfl⟩:=ry;exact PySem.W.eq_bytes (bV I q HP)
  | _=>exact absurd (show false=true from hs) aJ1
 | _=>cases y<;>exact absurd (show false=true from hs) aJ1
theorem aBy:OpR X (compareOp .NotEq) rNe:=by
 intro pins s σ H x y v u Q I rx ry h;obtain⟨hs,q⟩:=h;cases x with
 | non=>
  cases rx;cases y with
  | non=>cases ry;exact PySem.EqNone.ne_none_none (bV I q (by simp))
  | bl j=>cases ry;exact PySem.EqNone.ne_none_bool (bV I q (by simp))
  | int j=>obtain⟨t',rfl⟩:=ry;exact PySem.EqNone.ne_none_int (bV I q (by simp))
  | str j=>obtain⟨t',rfl⟩:=ry;exact PySem.EqNone.ne_none_str (bV I q (by simp))
  | _=>exact absurd (show false=true from hs) aJ1
 | bl i=>
  cases rx;cases y with
  | non=>cases ry;exact PySem.EqNone.ne_bool_none (bV I q (by simp))
  | bl j=>cases ry;exact ne_bool (bV I q (congrArg not HN))
  | str j=>obtain⟨t',rfl⟩:=ry;exact PySem.EqMixed.ne_bool_str (bV I q (by simp))
  | _=>exact absurd (show false=true from hs) aJ1
 | int i=>
  obtain⟨t,rfl⟩:=rx;cases y with
  | non=>cases ry;exact PySem.EqNone.ne_int_none (bV I q (by simp))
  | int j=>obtain⟨t',rfl⟩:=ry;exact ne_int (bV I q (congrArg not HQ))
  | str j=>obtain⟨t',rfl⟩:=ry;exact PySem.EqMixed.ne_int_str (bV I q (by simp))
  | _=>exact absurd (show false=true from hs) aJ1
 | str i=>
  obtain⟨t,rfl⟩:=rx;cases y with
  | non=>cases ry;exact PySem.EqNone.ne_str_none (bV I q (by simp))
  | bl j=>cases ry;exact PySem.EqMixed.ne_str_bool (bV I q (by simp))
  | int j=>obtain⟨t',rfl⟩:=ry;exact PySem.EqMixed.ne_str_int (bV I q (by simp))
  | str j=>obtain⟨t',rfl⟩:=ry;exact ne_str (bV I q (congrArg not HR))
  | _=>exact absurd (show false=true from hs) aJ1
 | byt i=>
  obtain⟨t,rfl⟩:=rx;cases y with
  | byt j=>obtain⟨t',rfl⟩:=ry;exact PySem.W.ne_bytes (bV I q (congrArg not HP))
  | _=>exact absurd (show false=true from hs) aJ1
 | _=>cases y<;>exact absurd (show false=true from hs) aJ1
theorem LF:OpR X (compareOp .Lt) (rI0 fun i j=>.bl (decide (i<j))):=xS fun _ _ _ _ _ _ _ q=>lt_int q
theorem aBv:OpR X (compareOp .LtE) (rI0 fun i j=>.bl (decide (i<=j))):=xS fun _ _ _ _ _ _ _ q=>le_int q
theorem aBs:OpR X (compareOp .Gt) (rI0 fun i j=>.bl (decide (j<i))):=xS fun _ _ _ _ _ _ _ q=>gt_int q
theorem LC:OpR X (compareOp .GtE) (rI0 fun i j=>.bl (decide (j<=i))):=xS fun _ _ _ _ _ _ _ q=>ge_int q
theorem aBt:OpR X (compareOp .In) (fun x y H Q=>∃ i j,x=.str i/\y=.str j/\Q (.bl (!(Builtin.Str.occurrences j i 0 j.length 1).isEmpty)) H):=by
 intro pins s σ H x y v u Q I rx ry h;obtain⟨i,j,rfl,rfl,q⟩:=h;obtain⟨t,rfl⟩:=rx;obtain⟨t',rfl⟩:=ry;exact in_str (bV I q rfl)
theorem LE:OpR X (compareOp .Is) (fun x y H Q=>y=.non/\Q (.bl (decide (x=.non))) H):=by
 intro pins s σ H x y v u Q I rx ry h;obtain⟨rfl,q⟩:=h;cases ry;refine is_none_gen (bV I q ?_);cases x<;>first
  | (cases rx;rfl)
  | (obtain⟨t,rfl⟩:=rx;rfl)
theorem aC0:OpR X (compareOp .IsNot) (fun x y H Q=>y=.non/\Q (.bl (!decide (x=.non))) H):=by
 intro pins s σ H x y v u Q I rx ry h;obtain⟨rfl,q⟩:=h;cases ry;refine isnot_none_gen (bV I q ?_);cases x<;>first
  | (cases rx;rfl)
  | (obtain⟨t,rfl⟩:=rx;rfl)
theorem eE (b:Expr) {op:CmpOp}(h:op≠.In:=by decide) (h2:op≠.NotIn:=by decide):behindInMarks op b=false:=by
 have e1:(op == CmpOp.In)=false:=by cases op<;>first | rfl | exact absurd rfl h
 have e2:(op == CmpOp.NotIn)=false:=by cases op<;>first | rfl | exact absurd rfl h2
 cases b<;>simp[behindInMarks,e1,e2]
theorem LL {op:CmpOp}{r:R2}(ho:OpR X (compareOp op) r) (ha:PE X a ta) (hb:PE X b tb) (hm:behindInMarks op b=false):PE X (.Compare a [op] [b] pos) (tOp r ta tb):=by
 intro pins s σ H Q I h;exact wpAny_Compare1 (wC ha hb I h fun v u s2 x y H2 I2 rx ry q=>ho pins s2 σ H2 x y v u Q I2 rx ry q) hm
def aFr (t:TE):TT:=fun σ H Q=>t σ H fun x H'=>∃ k,x=.bl k/\Q k H'
theorem nW {op:CmpOp}{r:R2}(ho:OpR X (compareOp op) r) (ha:PE X a ta) (hb:PE X b tb) (hm:behindInMarks op b=false):PT X (.Compare a [op] [b] pos) (aFr (tOp r ta tb)):=by
 intro pins s σ H Q I h;refine wpAny_isTrue_Compare1 (thn (ha pins s σ H _ I h) fun v s1 ⟨x,H1,I1,r1,q1⟩=>thn (hb pins s1 σ H1 _ I1 q1) fun u s2 ⟨y,H2,I2,r2,q2⟩=>
  thn (ho pins s2 σ H2 x y v u _ I2 r1 r2 q2) fun c s3 ⟨z,H3,I3,r3,k,e,q3⟩=>?_) hm
 subst e;cases r3;exact wpAny_truthy_bool ⟨H3,I3,q3⟩
def zY (K:PySem.W.Frag) (x:V) (H:Hp) (k:Bool):Prop:=
 match x with
 | .non=>k=false
 | .bl b=>k=b
 | .int i=>k=(i != 0)
 | .str y=>y.length<=sizeLine/\k=((y.length:Int) != 0)
 | .byt y=>y.size<=sizeLine/\k=((y.size:Int) != 0)
 | .ref p=>(∃ xs,SqL K H p xs/\k=!xs.isEmpty)\/(∃ xs,SqT K H p xs/\k=!xs.isEmpty)\/∃ kvs,H p=some (.dK kvs)/\k=!kvs.isEmpty
 | _=>False
theorem YB {κ:Type}{kvs:List (κ × V)}{vs:List (κ × Value)}(r:KV kvs vs):(!vs.isEmpty)=!kvs.isEmpty:=by
 cases r<;>rfl
theorem JU {xs:List V}{its:List Value}(r:aL xs its):(!its.toArray.isEmpty)=!xs.isEmpty:=by
 cases r<;>simp
theorem nP:(sizeLine:Nat)<2^63:=by rw[sizeLine_eq];decide
theorem aFy:RL X (fun x H Q=>∃ k,zY X.K x H k/\Q k H):=by
 intro pins s σ H x v Q I rx h;obtain⟨k,e,q⟩:=h;have hl:=nP;have hs:sizeLine=16777216:=sizeLine_eq;cases x with
 | non=>
  cases rx;have e':k=false:=e;subst e';exact truthy_none ⟨H,I,q⟩
 | bl b=>
  cases rx;have e':k=b:=e;subst e';exact wpAny_truthy_bool ⟨H,I,q⟩
 | int i=>
  obtain⟨t,rfl⟩:=rx;have e':k=(i != 0):=e;subst e';exact PySem.P.truthy_int ⟨H,I,q⟩
 | str y=>
  obtain⟨t,rfl⟩:=rx;obtain⟨hy,e'⟩:y.length<=sizeLine/\k=((y.length:Int) != 0):=e;subst e';exact PySem.P.truthy_str (by lia) ⟨H,I.tok _,q⟩
 | byt y=>
  obtain⟨t,rfl⟩:=rx;obtain⟨hy,e'⟩:y.size<=sizeLine/\k=((y.size:Int) != 0):=e;subst e';exact PySem.W.truthy_bytes (by lia) ⟨H,I.tok _,q⟩
 | ref p=>
  cases rx;have e':(∃ xs,SqL X.K H p xs/\k=!xs.isEmpty)\/(∃ xs,SqT X.K H p xs/\k=!xs.isEmpty)\/∃ kvs,H p=some (.dK kvs)/\k=!kvs.isEmpty:=e;rcases e' with ⟨xs,hx,e'⟩ | ⟨xs,hx,e'⟩ | ⟨kvs,hx,e'⟩
  ·subst e'
   obtain⟨its,r,pl,hz⟩:=I.list hx;have hlen:=r.length;exact wpAny_truthy_list pl.isList (by simp only[aIr];lia) ⟨H,I.tok _,by rw[JU r];exact q⟩
  ·subst e'
   obtain⟨its,r,pl,hz⟩:=I.tuple hx;have hlen:=r.length;exact truthy_tuple pl (by simp only[aIr];lia) ⟨H,I.tok _,by rw[JU r];exact q⟩
  ·subst e'
   obtain⟨hz,hS,vs,r,m⟩:kvs.length<=sizeLine/\(p == sysModules)=false/\∃ vs,KV kvs vs/\s.heap.DictOf (CJ X.prog X.w) p vs:=I.hok p _ hx;have hlen:kvs.length=vs.length:=Paired.length r;exact wpAny_truthy_dict hS m (by lia) ⟨H,I.tok _,by rw[YB r];exact q⟩
 | _=>exact (show False from e).elim
theorem aCy (ha:PE X a ta) (he:∀ whole,isTrue a X.env whole=(do let v <- whole;standAt a.pos;holding [v] (truthy v))):
  PT X a (fun σ H Q=>ta σ H fun x H'=>∃ k,zY X.K x H' k/\Q k H'):=by
 intro pins s σ H Q I h;exact isTrue_plain (thn (ha pins s σ H _ I h) fun v s1 ⟨x,H1,I1,r1,q1⟩=>aFy pins s1 σ H1 x v Q I1 r1 q1) (he _)
theorem aBp:OpR X (binaryOp .Add) (fun x y H Q=>∃ i j,x=.str i/\y=.str j/\i.length+j.length<=sizeLine/\Q (.str (i++j)) H):=by
 intro pins s σ H x y v u Q I rx ry h;obtain⟨i,j,rfl,rfl,hz,q⟩:=h;obtain⟨t,rfl⟩:=rx;obtain⟨t',rfl⟩:=ry;exact add_str (fun t' tk=>⟨.str (i++j),H,I.tok _,⟨_,rfl⟩,q⟩) hz
def FT (b:Expr):Prop:=∀ o i,subscripted b false o i=operate [o,i] (getItem o i)
theorem aCd (ha:PE X a ta) (hb:PE X b tb) (hs:FT b):
  PE X (.Subscript a b pos) (tOp (fun x y H Q=>∃ z i c,x=.str z/\y=.int i/\0<=i/\i<2^63/\i<z.length/\z.cps[i.toNat]?=some c/\Q (.str ⟨#[c]⟩) H) ta tb):=by
 intro pins s σ H Q I h;refine Subscript_ (wC ha hb I h fun v u s2 x y H2 I2 rx ry q=>?_);obtain⟨z,i,c,rfl,rfl,h0,h63,h1,hc,q⟩:=q;obtain⟨t,rfl⟩:=rx;obtain⟨t',rfl⟩:=ry;have e:seqIndex? i z.length=some i.toNat:=PySem.StrLaws.seqIndex_nonneg h0 h1;exact tail_any (typeIs_str s2 z t) slot_str_getitem.lookup (getItem_str (c:=c) (by
  have e1:decide (i < -(2^63:Int))=false:=decide_eq_false (by lia);have e2:decide (i >= 2^63)=false:=decide_eq_false (by lia);rw[e1,e2]<;>rfl) (by rw[e];exact hc) ⟨.str ⟨#[c]⟩,H2,I2.tok _,⟨_,rfl⟩,q⟩) (hs _ _)
theorem gD {x:V}{us:List Value}(r:aL [x] us):∃ u,us=[u]/\aX x u:=by
 cases r with
 | cons r1 r2=>cases r2;exact⟨_,rfl,r1⟩
theorem OP {x y:V}{us:List Value}(r:aL [x,y] us):∃ u w',us=[u,w']/\aX x u/\aX y w':=by
 cases r with
 | cons r1 r2=>
  cases r2 with
  | cons r3 r4=>cases r4;exact⟨_,_,rfl,r1,r3⟩
theorem SL (hc:X.calm=true):eY X (.builtin "max") (fun xs H Q=>∃ i j,xs=[.int i,.int j]/\Q (.int (if j > i then j else i)) H):=by
 intro pins s σ H xs us Q I r h;obtain⟨i,j,rfl,q⟩:=h;obtain⟨u,w',rfl,⟨t,rfl⟩,⟨t',rfl⟩⟩:=OP r;refine max_two_ints (I.ok.hd hc) fun h' tk k=>⟨_,H,I.kept k,?_,q⟩
 by_cases hj:j > i
 ·rw[if_pos hj,if_pos hj];exact⟨_,rfl⟩
 ·rw[if_neg hj,if_neg hj];exact⟨_,rfl⟩
theorem SM (hc:X.calm=true):eY X (.builtin "min") (fun xs H Q=>∃ i j,xs=[.int i,.int j]/\Q (.int (if j<i then j else i)) H):=by
 intro pins s σ H xs us Q I r h;obtain⟨i,j,rfl,q⟩:=h;obtain⟨u,w',rfl,⟨t,rfl⟩,⟨t',rfl⟩⟩:=OP r;refine min_two_ints (I.ok.hd hc) fun h' tk k=>⟨_,H,I.kept k,?_,q⟩
 by_cases hj:j<i
 ·rw[if_pos hj,if_pos hj];exact⟨_,rfl⟩
 ·rw[if_neg hj,if_neg hj];exact⟨_,rfl⟩
theorem SH:eY X (.type "int") (fun xs H Q=>(∃ i,xs=[.int i]/\Q (.int i) H)\/∃ k,xs=[.bl k]/\Q (.int (if k then 1 else 0)) H):=by
 intro pins s σ H xs us Q I r h;rcases h with ⟨i,rfl,q⟩ | ⟨k,rfl,q⟩
 ·obtain⟨u,rfl,t,rfl⟩:=gD r
  exact call_int_int ⟨.int i,H,I,⟨_,rfl⟩,q⟩
 ·obtain⟨u,rfl,r1⟩:=gD r
  cases r1;exact call_int_bool ⟨.int (if k then 1 else 0),H,I.tok _,⟨_,rfl⟩,q⟩
end
structure ObjM (h:Heap) (x dx C:Addr) (mA:Str->Option Value):Prop where
 obj:h.get? x=some (PySem.W.instObj C dx)
 ns:h.Ns1 dx mA
 ne:dx≠x
theorem YU {h:Heap}{dx:Addr}{mA:Str->Option Value}(n:h.Ns1 dx mA):∃ od,h.get? dx=some od/\∀ name,PySem.W.lookIn name od=some (mA name):=by
 obtain⟨o,es,ep,ho,hd,hk,_,hm⟩:=n;refine⟨o,ho,fun name=>?_⟩;have e:=hm name;unfold nsFind findBy at e;rw[<- Array.find?_toList] at e;unfold PySem.W.lookIn;rw[hd];dsimp only
 split
 ·rename_i y q
  rw[q] at e;exact congrArg some e
 ·rename_i q
  rw[q] at e;have a:es.toList.any (·.refKey)=false:=by
   rw[List.any_eq_false];intro y hy;obtain⟨z,t,hkey⟩:=hk y (Array.mem_toList_iff.mp hy);simp[DictEntry.refKey,hkey]
  have a':¬ es.toList.any (·.refKey)=true:=by rw[a];exact aJ1
  rw[if_neg a'];exact congrArg some e
theorem ObjM.look {h:Heap}{x dx C:Addr}{mA:Str->Option Value}(I:ObjM h x dx C mA):∃ od,PySem.W.InstAt h x (PySem.W.instObj C dx) C (some od)/\∀ name,PySem.W.lookIn name od=some (mA name):=
 let ⟨od,ho,hl⟩:=YU I.ns
 ⟨od,⟨I.obj,rfl,rfl,ho⟩,hl⟩
section
variable {prog:Program}{w:World}{A:Around}{E:Value->Shared->Prop}{s:Shared}{K:PySem.W.Frag}{x dx C f:Addr}{mA:Str->Option Value}{name:Str}{v:Value}
theorem WE {expr:Bool}{Q:Value->Shared->Prop}(X:K.In s.heap) (I:ObjM s.heap x dx C mA) (hg:PySem.W.plainGet K C name=true) (hh:PySem.W.hasDictIn K C=true)
  (ha:PySem.W.findIn K (.ref C) name=some none) (hv:mA name=some v) (hv':PySem.W.handedIn v=true) (h:Q v { s with toks:=s.toks+1 }):
  wpAny (model prog w) A (getAttr (.ref x) name expr) Q E s:=by
 obtain⟨od,J,hl⟩:=I.look;exact PySem.W.get_value X J (PySem.W.plainGet_of hg).1 (PySem.W.findObj_own hh ha rfl (by rw[hl,hv])) hv' h
theorem aEf {ns:List Str}{Q:Unit->Shared->Prop}(X:K.In s.heap) (I:ObjM s.heap x dx C mA)
  (hs:PySem.W.findIn K (.ref C) "__setattr__" = some (some (.builtin "object.__setattr__"))) (hp:PySem.W.plainOver K C=true) (ht:PySem.W.takerIn K C name=some none) (hh:PySem.W.hasDictIn K C=true)
  (hw:PySem.Within mA ns) (hsz:ns.length<=sizeLine)
  (h:∀ h',ObjM h' x dx C (fun y=>if y=name then some v else mA y)->Heap.SameBut dx s.heap h'->Q () { s with heap:=h',toks:=s.toks+2 }):
  wpAny (model prog w) A (setAttr (.ref x) name v) Q E s:=by
 obtain⟨od,J,hl⟩:=I.look;refine PySem.W.set_plain X J hs (PySem.W.osa_open (s:={ s with toks:=s.toks+1 }) (r:=none) X J hp ht fun b=>?_);obtain⟨cd,hc,hd'⟩:=PySem.W.any_some hh;have hx:s.heap.get? x=some ⟨.ref C,some dx,.plain,#[]⟩:=I.obj;refine wpAny_bind (wpAny_pure (wpAny_bind (wpAny_bind (wpAny_loadPart hx (wpAny_bind (PySem.W.Looks.here (s:={ s with toks:=s.toks+1 }) (PySem.W.looks_clsIn X hc) ?_))))));rw[hd'];refine wpAny_pure (a:=some dx) (wpAny_bind (wpAny_pure (wpAny_bind ?_)));refine wpAny_nsSet1 (s:={ s with toks:=s.toks+1 }) I.ns fun h' hn2 hs2=>?_;obtain⟨oD,esD,epD,hoD,hdD,hcD⟩:=hn2.count (PySem.Within.cons name v hw);refine wpAny_bind (wpAny_lookBehind hoD (by rw[hdD];exact pastItsLine_dict (aKf hcD (by rw[aJo];lia))) ?_);exact wpAny_pure (h _ ⟨(hs2.2 _ (Ne.symm I.ne)).trans I.obj,hn2,I.ne⟩ hs2)
theorem ZD {R:Result->Shared->Prop}{vs:List Value}{kw:List (Str × Value)}(X:K.In s.heap) (hm:PySem.W.makesIn K C=true)
  (hi:PySem.W.findIn K (.ref C) "__init__" = some (some (.ref f))) (hf:PySem.W.typeIn K (.ref f)=some (.type "function"))
  (h:codeAny (model prog w) (A.under (.builtin "type.__call__" ⟨.ref C::vs,kw⟩)) (.call (.ref f) ⟨.ref (s.heap.objs.size+1)::vs,kw⟩) (PySem.W.InitBack (s.heap.objs.size+1) R)
   { s with heap:=(s.heap.push PySem.W.emptyDict).push (PySem.W.instObj C s.heap.objs.size) }):
  codeAny (model prog w) A (.call (.ref C) ⟨vs,kw⟩) R s:=by
 obtain⟨hh,g,d,t,os⟩:=s;exact PySem.W.make_core (PySem.W.makes_of X hm) (PySem.W.looks_findIn X hi) (fun self=>PySem.W.bind_fn X self hf) (.inl rfl) h
end
def bU (f:Str) (v:V):List (Str × V)->List (Str × V)
 | []=>[(f,v)]
 | (g,x)::r=>if g=f then (g,v)::r else (g,x)::bU f v r
theorem mL (f g:Str) (v:V):∀ fs:List (Str × V),(bU f v fs).lookup g=if g=f then some v else fs.lookup g
 | []=>by
  show List.lookup g [(f,v)]=_
  by_cases h:g=f
  ·have hb:(g == f)=true:=beq_iff_eq.mpr h
   simp only[List.lookup,hb,if_pos h]
  ·have hb:(g == f)=false:=beq_eq_false_iff_ne.mpr h
   simp only[List.lookup,hb,if_neg h]
 | (k,x)::r=>by
  have ih:=mL f g v r;rw[show bU f v ((k,x)::r)=(if k=f then (k,v)::r else (k,x)::bU f v r) from rfl]
  by_cases hk:k=f
  ·rw[if_pos hk]
   by_cases h:g=k
   ·have hb:(g == k)=true:=beq_iff_eq.mpr h
    simp only[List.lookup,hb,if_pos (h.trans hk)]
   ·have hb:(g == k)=false:=beq_eq_false_iff_ne.mpr h
    simp only[List.lookup,hb,if_neg (fun e:g=f=>h (e.trans hk.symm))]
  ·rw[if_neg hk]
   by_cases h:g=k
   ·have hb:(g == k)=true:=beq_iff_eq.mpr h
    simp only[List.lookup,hb,if_neg (fun e:g=f=>hk (h.symm.trans e))]
   ·have hb:(g == k)=false:=beq_eq_false_iff_ne.mpr h
    simp only[List.lookup,hb];exact ih
theorem BX (f:Str) (v:V):∀ fs:List (Str × V),f∈(bU f v fs).map (·.1)/\∀ g,g∈fs.map (·.1)->g∈(bU f v fs).map (·.1)
 | []=>⟨by simp[bU],fun g h=>by simp at h⟩
 | (k,x)::r=>by
  obtain⟨i1,i2⟩:=BX f v r;rw[show bU f v ((k,x)::r)=(if k=f then (k,v)::r else (k,x)::bU f v r) from rfl]
  by_cases hk:k=f
  ·rw[if_pos hk]
   subst hk;exact⟨by simp,fun g h=>by simpa using h⟩
  ·rw[if_neg hk]
   refine⟨?_,fun g h=>?_⟩
   ·rw[aJy]
    exact aIl _ i1
   ·rw[aJy] at h ⊢
    rcases aIu.mp h with e | e
    ·exact aIu.mpr (.inl e)
    ·exact aIl _ (i2 g e)
theorem KH (f:Str) (v:V):∀ fs:List (Str × V),(bU f v fs).length<=fs.length+1
 | []=>by simp[bU]
 | (k,x)::r=>by
  have ih:=KH f v r;rw[show bU f v ((k,x)::r)=(if k=f then (k,v)::r else (k,x)::bU f v r) from rfl]
  by_cases hk:k=f
  ·rw[if_pos hk,aJo,aJo];lia
  ·rw[if_neg hk,aJo,aJo];lia
theorem nF.some_of {v:V}{o:Option Value}(r:nF (some v) o):∃ u,o=some u/\aX v u:=by
 cases o with
 | none=>exact (show False from r).elim
 | some u=>exact⟨u,rfl,r⟩
theorem XA {v:V}{u:Value}(r:aX v u):PySem.W.handedIn u=true:=by
 cases v with
 | non=>cases (show u=Value.none from r);rfl
 | bl b=>cases (show u=Value.bool b from r);rfl
 | int i=>obtain⟨t,e⟩:=(show ∃ t,u=Value.int i t from r);cases e;rfl
 | str x=>obtain⟨t,e⟩:=(show ∃ t,u=Value.str x t from r);cases e;rfl
 | byt b=>obtain⟨t,e⟩:=(show ∃ t,u=Value.bytes b t from r);cases e;rfl
 | flt b=>obtain⟨t,e⟩:=(show ∃ t,u=Value.float b t from r);cases e;rfl
 | ref a=>cases (show u=Value.ref a from r);rfl
 | ty n=>cases (show u=Value.type n from r);rfl
section
variable {P:Program}{w:World}{H H':Hp}{h h':Heap}{a C dx:Addr}{fs fs':List (Str × V)}
theorem JQ (hok:HOk P w H h) (e:H a=some (.ins C dx fs)):∃ mA,ObjM h a dx C mA/\(∀ f,nF (fs.lookup f) (mA f))/\PySem.Within mA (fs.map (·.1))/\fs.length<=1000/\H dx=some (.own a):=by
 obtain⟨d,z,ne,ob,mA,n,r,q⟩:=(show dU P w H h a (.ins C dx fs) from hok a _ e);exact⟨mA,⟨ob,n,ne⟩,r,q,z,d⟩
end
structure Cls (K:PySem.W.Frag) (C:Addr):Prop where
 pg:PySem.W.plainGet K C Str.empty=true
 hd:PySem.W.hasDictIn K C=true
 po:PySem.W.plainOver K C=true
 sa:PySem.W.findIn K (.ref C) "__setattr__" = some (some (.builtin "object.__setattr__"))
theorem Cls.get {K:PySem.W.Frag}{C:Addr}(c:Cls K C) (f:Str):PySem.W.plainGet K C f=true:=c.pg
def jW (K:PySem.W.Frag) (C:Addr) (f:Str):Prop:=PySem.W.findIn K (.ref C) f=some none
theorem jW.taker {K:PySem.W.Frag}{C:Addr}{f:Str}(n:jW K C f):PySem.W.takerIn K C f=some none:=by
 unfold PySem.W.takerIn;rw[show PySem.W.findIn K (.ref C) f=some none from n]
 rfl
section
variable {X:Cx}{pins:List (Addr × Obj)}{σ:St}{H:Hp}{s:Shared}{a C dx:Addr}{fs:List (Str × V)}{f:Str}{v:V}{A:Around}{E:Value->Shared->Prop}
theorem WF {b:Bool}{Q:Value->Shared->Prop}(I:Inv X pins σ H s) (e:H a=some (.ins C dx fs)) (c:Cls X.K C) (n:jW X.K C f) (l:fs.lookup f=some v)
  (h:∀ u s',Inv X pins σ H s'->aX v u->Q u s'):wpAny (model X.prog X.w) A (getAttr (.ref a) f b) Q E s:=by
 obtain⟨mA,O,r,_,_,_⟩:=JQ I.hok e;obtain⟨u,hu,ru⟩:=nF.some_of (v:=v) (o:=mA f) (by rw[<- l];exact r f);exact WE I.kIn O (c.get f) c.hd n hu (XA ru) (h u _ (I.tok _) ru)
theorem aEg {y:V}{u:Value}{Q:Unit->Shared->Prop}(I:Inv X pins σ H s) (e:H a=some (.ins C dx fs)) (c:Cls X.K C) (n:jW X.K C f) (hl:fs.length<1000) (ry:aX y u)
  (h:∀ s',Inv X pins σ (upd H a (.ins C dx (bU f y fs))) s'->Q () s'):wpAny (model X.prog X.w) A (setAttr (.ref a) f u) Q E s:=by
 obtain⟨mA,O,r,wi,_,ho⟩:=JQ I.hok e;have hz:(fs.map (·.1)).length<=sizeLine:=by rw[aJq,sizeLine_eq];lia
 refine aEf I.kIn O c.sa c.po n.taker c.hd wi hz fun h' O' sb=>h _ ?_;have hd:∃ o,h'.get? dx=some o:=let ⟨o,_,_,e',_⟩:=O'.ns;⟨o,e'⟩;refine I.write (x:=a) (e:=dx) (by rw[e];exact True.intro) (.inr ho) (fun b q hb z=>(sb.2 b hb).trans z) hd ?_;refine⟨by rw[aU O.ne];exact ho,?_,O.ne,O'.obj,_,O'.ns,fun g=>?_,fun g hg=>?_⟩
 ·have:=KH f y fs;lia
 ·show nF ((bU f y fs).lookup g) (if g=f then some u else mA g)
  rw[mL]
  by_cases q:g=f
  ·rw[if_pos q,if_pos q];exact ry
  ·rw[if_neg q,if_neg q];exact r g
 ·by_cases q:g=f
  ·rw[q];exact (BX f y fs).1
  ·refine (BX f y fs).2 g (wi g fun z=>hg ?_)
   show (if g=f then some u else mA g)=none;rw[if_neg q];exact z
theorem Inv.made (I:Inv X pins σ H s):Inv X pins σ (upd (upd H s.heap.objs.size (.own (s.heap.objs.size+1))) (s.heap.objs.size+1) (.ins C s.heap.objs.size []))
  { s with heap:=(s.heap.push PySem.W.emptyDict).push (PySem.W.instObj C s.heap.objs.size) }:=by
 have e1:(s.heap.push PySem.W.emptyDict).get? s.heap.objs.size=some PySem.W.emptyDict:=aJ2 s.heap rfl;have e2:((s.heap.push PySem.W.emptyDict).push (PySem.W.instObj C s.heap.objs.size)).get? (s.heap.objs.size+1)=some (PySem.W.instObj C s.heap.objs.size):=by
  have:=aJ2 (s.heap.push PySem.W.emptyDict) (o:=PySem.W.instObj C s.heap.objs.size) rfl
  rwa [aJ4] at this
 have e3:(s.heap.push PySem.W.emptyDict).Ns s.heap.objs.size (fun _=>none):=⟨PySem.W.emptyDict,#[],_,e1,rfl,(fun e he=>absurd he (by simp)),fun _=>rfl⟩;have I1:=I.laid (a:=s.heap.objs.size) (o:=.own (s.heap.objs.size+1)) (h':=s.heap.push PySem.W.emptyDict) (t':=s.toks) (fun b u q=>aIt _ q) (aKe _) ⟨_,e1⟩;refine I1.laid (a:=s.heap.objs.size+1) (o:=.ins C s.heap.objs.size []) (t':=s.toks) (fun b u q=>aIt _ q) (Nat.le_of_eq (aJ4 _ _)) ?_;have ne:s.heap.objs.size≠s.heap.objs.size+1:=aKm (aKj _);refine⟨by rw[aU ne,bN],aKo _,ne,e2,fun _=>none,(Heap.Ns1.of_empty e3).at fun o q=>aIt _ q,fun _=>True.intro,fun y hy=>absurd rfl hy⟩
theorem RY {prog:Program}{w:World}{env:Env}{e:Expr}{f:Str}{pos:Pos}{s:Shared}{Q:Value->Shared->Prop}(hb:attributeBase e f env (eval e env)=eval e env)
  (h:wpAny (model prog w) A (eval e env) (fun o s₁=>wpAny (model prog w) A (getAttr o f true) Q E s₁) E s):wpAny (model prog w) A (eval (.Attribute e f pos) env) Q E s:=
 Attribute_any_ h (by rw[arm_eval_Attribute,hb])
end
def aF9 (K:PySem.W.Frag) (ta:TE) (f:Str):TE:=fun σ H Q=>ta σ H fun x H1=>∃ a C dx fs v,x=.ref a/\H1 a=some (.ins C dx fs)/\Cls K C/\jW K C f/\fs.lookup f=some v/\Q v H1
def aDq (K:PySem.W.Frag) (ta tv:TE) (f:Str):TS:=fun D σ H=>tv σ H fun y H1=>ta σ H1 fun x H2=>∃ a C dx fs,x=.ref a/\H2 a=some (.ins C dx fs)/\Cls K C/\jW K C f/\fs.length<1000 /\
 D.nx σ (upd H2 a (.ins C dx (bU f y fs)))
section
variable {X:Cx}{o e value:Expr}{f:Str}{pos pos' tpos:Pos}{ta tv:TE}
theorem gR (he:PE X e ta) (hb:attributeBase e f X.env (eval e X.env)=eval e X.env):PE X (.Attribute e f pos) (aF9 X.K ta f):=by
 intro pins s σ H Q I h;refine RY hb (thn (he pins s σ H _ I h) fun u s1 ⟨x,H1,I1,rx,a,C,dx,fs,v,ex,ea,c,n,l,q⟩=>?_);subst ex;obtain rfl:u=Value.ref a:=rx;exact WF I1 ea c n l fun u' s2 I2 ru=>⟨v,H1,I2,ru,q⟩
theorem DK (ha:PE X o ta) (hv:PE X value tv) (hs:swapsWith value (some (.Attribute o f pos')) pos.line X.env=pure false):PS X (.Assign [.Attribute o f pos'] value pos) (aDq X.K ta tv f):=by
 intro pins s σ H D I h;refine plainObj_wpAny_Assign_Attribute (thn (hv pins s σ H _ I h) fun u s1 ⟨y,H1,I1,ry,q⟩=>thn (ha pins s1 σ H1 _ I1 q) fun ov s2 ⟨x,H2,I2,rx,a,C,dx,fs,ex,ea,c,n,l,q2⟩=>?_) hs;subst ex;obtain rfl:ov=Value.ref a:=rx;exact aEg I2 ea c n l ry fun s3 I3=>⟨σ,_,I3,q2⟩
end
section
variable {X:Cx}{pins:List (Addr × Obj)}{σ:St}{H:Hp}{s:Shared}{A:Around}{E:Value->Shared->Prop}{Q:Value->Shared->Prop}{c:Value}{b:Bool}
end
structure Room (k:Nat) (A:Around):Prop where
 hd:A.handled=none
 dp:A.depth+3*k+5<recursionLimit
 un:A.units+16*k+200<cLine
theorem Room.mono {j k:Nat}{A:Around}(r:Room k A) (h:j<=k):Room j A:=⟨r.hd,by have:=r.dp;lia,by have:=r.un;lia⟩
theorem Room.deeper {k:Nat}{A:Around}(r:Room (k+1) A) (env:Env):Room k (A.deeper env):=
 ⟨r.hd,by have:=r.dp;show A.depth+1+3*k+5<_;lia,by have:=r.un;show A.units+3+16*k+200<_;lia⟩
theorem ZC {A:Around}{C:Addr}{us:List Value}{kw:List (Str × Value)}:(A.under (.builtin "type.__call__" ⟨.ref C::us,kw⟩)).depth=A.depth+1:=by
 first | rfl | simp[Around.under,Code.weight,Code.isCreation,Code.isGuard,Code.isCaller,Code.frames,Code.isFrame,guardIds]
theorem ZE {A:Around}{C:Addr}{us:List Value}{kw:List (Str × Value)}:(A.under (.builtin "type.__call__" ⟨.ref C::us,kw⟩)).units=A.units+1:=by
 first | rfl | simp[Around.under,Code.cUnits,Code.frames,Code.isFrame]
theorem Room.make {k:Nat}{A:Around}(r:Room (k+1) A) (C:Addr) (us:List Value) (kw:List (Str × Value)):Room k (A.under (.builtin "type.__call__" ⟨.ref C::us,kw⟩)):=
 ⟨r.hd,by have:=r.dp;rw[ZC];lia,by have:=r.un;rw[ZE];lia⟩
theorem Room.depth {k:Nat}{A:Around}(r:Room k A):A.depth<recursionLimit:=by have:=r.dp;lia
theorem Room.units {k:Nat}{A:Around}(r:Room k A):A.units+64<cLine:=by have:=r.un;lia
def OE:TA:=fun _ H Q=>Q [] H
def OC (ta:TE) (tr:TA):TA:=fun σ H Q=>ta σ H fun x H1=>tr σ H1 fun xs H2=>Q (x::xs) H2
section
variable {X:Cx}{e:Expr}{es:List Expr}{te:TE}{t:TA}{pos:Pos}
theorem cB:PA X [] OE:=fun _ _ _ _ H Q I h=>Calls.spliced_nil ⟨[],H,I,.nil,h⟩
theorem bI (ha:PE X e te) (hr:PA X es t) (hs:starEach (e::es) X.env=(false,eval e X.env)::starEach es X.env:=by rfl):PA X (e::es) (OC te t):=by
 intro pos pins s σ H Q I h;rw[hs];show wpAny _ _ (spliced ((false,eval e X.env)::backTo pos (starEach es X.env))) _ _ s;refine Calls.spliced_cons (thn (ha pins s σ H _ I h) fun u s1 ⟨x,H1,I1,r1,q1⟩=>?_);exact thn (hr pos pins s1 σ H1 _ I1 q1) fun us s2 ⟨xs,H2,I2,r2,q2⟩=>⟨x::xs,H2,I2,.cons r1 r2,q2⟩
def aFs (t:TA):TE:=fun σ H Q=>t σ H fun xs H1=>xs.length<=sizeLine/\∀ p,H1 p=none->Q (.ref p) (upd H1 p (.tup xs))
def aFg (t:TA):TE:=fun σ H Q=>t σ H fun xs H1=>xs.length<=sizeLine/\∀ p,H1 p=none->Q (.ref p) (upd H1 p (.lst xs))
theorem xY {x1}(h:PA X es t):PE X (.Tuple es x1 pos) (aFs t):=by
 intro pins s σ H Q I hq;refine wpAny_Tuple_spliced (thn (h pos pins s σ H _ I hq) fun us s1 ⟨xs,H1,I1,r,z,q⟩=>⟨by rw[<- r.length];exact z,?_⟩);have hf:H1 s1.heap.objs.size=none:=I1.hok.fresh (aKe _);refine⟨.ref s1.heap.objs.size,upd H1 s1.heap.objs.size (.tup xs),I1.laid (t':=s1.toks) (fun b u e=>aIt _ e) (aKe _) ?_,rfl,q _ hf⟩;exact⟨z,us,r,⟨_,aJ2 _ rfl,rfl,_,rfl⟩⟩
theorem xX (h:PA X es t):PE X (.List es pos) (aFg t):=by
 intro pins s σ H Q I hq;refine wpAny_List_spliced (thn (h pos pins s σ H _ I hq) fun us s1 ⟨xs,H1,I1,r,z,q⟩=>⟨by rw[<- r.length];exact z,?_⟩);have hf:H1 s1.heap.objs.size=none:=I1.hok.fresh (aKe _);refine⟨.ref s1.heap.objs.size,upd H1 s1.heap.objs.size (.lst xs),I1.laid (t':=s1.toks) (fun b u e=>aIt _ e) (aKe _) ?_,rfl,q _ hf⟩;exact⟨z,us,0,r,aJ2 _ rfl⟩
end
abbrev Sp:=List V->Hp->VK->XK->Prop
abbrev CXT:=List Env->Hp->Shared->XK->Value->Shared->Prop
structure Env0 (P:Program) (w:World) (K:PySem.W.Frag) (mg:Str->Option Value) (base:Heap) (A:Around) (outer:List Env) (s:Shared) (H:Hp):Prop where
 frames:A.frames=some outer
 mod:Mod K mg base
 bs:∀ b o,base.get? b=some o->s.heap.get? b=some o/\H b=none
 bsz:base.objs.size<=s.heap.objs.size
 funs:s.heap.FunFrames base outer
 frf:∀ b∈frs outer,H b=none
 hok:HOk P w H s.heap
 bare:AllBare s.gens
def CE (outer:List Env) (P:Program) (w:World) (H:Hp) (s:Shared) (Q:VK) (u:Value) (s':Shared):Prop:=
 ∃ v H',s'.os=s.os/\AllBare s'.gens/\Un (frs outer) [] H H' s.heap s'.heap/\HOk P w H' s'.heap/\aX v u/\Q v H'
def CR (CX:CXT) (outer:List Env) (P:Program) (w:World) (H:Hp) (s:Shared) (Q:VK) (E:XK) (r:Result) (s':Shared):Prop:=
 match r with
 | .ok (.ret u)=>CE outer P w H s Q u s'
 | .ok _=>False
 | .error e=>CX outer H s E e s'
structure FnOk (P:Program) (w:World) (K:PySem.W.Frag) (mg:Str->Option Value) (base:Heap) (CX:CXT) (k:Nat) (f:Addr) (fd:FuncData) (ps:List Str) (sp:Sp):Prop where
 len:∀ vs H Q E,sp vs H Q E->vs.length=ps.length
 run:∀ (A:Around) (outer:List Env) (s:Shared) (H:Hp) (args:Args) (us:List Value) (vs:List V) (Q:VK) (E:XK),Room k A->Env0 P w K mg base A outer s H->BindsTo s fd args (ps.zip us)->aL vs us->sp vs H Q E ->
  codeAny (model P w) A (.call (.ref f) args) (CR CX outer P w H s Q E) s
theorem Env0.make {P:Program}{w:World}{K:PySem.W.Frag}{mg:Str->Option Value}{base:Heap}{A:Around}{outer:List Env}{s:Shared}{H:Hp}(e:Env0 P w K mg base A outer s H) (C:Addr) (us:List Value) (kw:List (Str × Value)):
  Env0 P w K mg base (A.under (.builtin "type.__call__" ⟨.ref C::us,kw⟩)) outer s H:=⟨by first | exact e.frames | (simpa [Around.under,Code.envs,Code.isFrame,pushEnvs] using e.frames),e.mod,e.bs,e.bsz,e.funs,e.frf,e.hok,e.bare⟩
section
variable {X:Cx}{pins:List (Addr × Obj)}{σ:St}{H:Hp}{s s':Shared}
theorem Inv.env0 (I:Inv X pins σ H s):Env0 X.prog X.w X.K X.mg X.base X.A X.stack s H:=
 ⟨I.ok.frames,I.ok.mod,I.bs,aKf I.ok.bsz I.sz,I.stack,I.stkFree,I.hok,I.bare⟩
theorem Inv.after {Q:VK}{u:Value}(I:Inv X pins σ H s) (h:CE X.stack X.prog X.w H s Q u s'):EP X pins σ Q u s':=by
 obtain⟨v,H',os,bare,un,hok,r,q⟩:=h;obtain⟨hh,g,d,t,os'⟩:=s';obtain rfl:os'=s.os:=os;exact⟨v,H',I.call (h':=hh) (g':=g) (d':=d) (t':=t) (ch:=[]) un hok bare (fun b z=>absurd z (by simp)),r,q⟩
end
def aF6 (sp:Sp) (dvs:List V) (E:XK) (t:TA):TE:=fun σ H Q=>t σ H fun vs H1=>sp (vs++dvs) H1 Q E
def aFh (C:Addr) (sp:Sp) (dvs:List V) (E:XK) (t:TA):TE:=fun σ H Q=>t σ H fun vs H1=>∀ x dx,H1 x=none->H1 dx=none->dx≠x ->
 sp (.ref x::(vs++dvs)) (upd (upd H1 dx (.own x)) x (.ins C dx [])) (fun v H2=>v=.non/\Q (.ref x) H2) E
def eF (K:PySem.W.Frag) (fd:FuncData) (ps:List Str) (ds:List Value):Prop:=
 ∀ (s:Shared) (us:List Value),K.In s.heap->(us++ds).length=ps.length->BindsTo s fd ⟨us,[]⟩ (ps.zip (us++ds))
theorem eF.all {K:PySem.W.Frag}{fd:FuncData}{ps:List Str}(h:∀ us:List Value,us.length=ps.length->bindArgs fd ⟨us,[]⟩=pure (ps.zip us)):eF K fd ps []:=fun s us _ hl=>by
 rw[List.append_nil] at hl ⊢;exact .of_eq (h us hl)
def rS (CX:CXT) (X:Cx) (E:XK):Prop:=∀ (pins:List (Addr × Obj)) (σ:St) (H:Hp) (s:Shared) (e:Value) (s':Shared),Inv X pins σ H s->CX X.stack H s E e s'->X.xe e s'
section
variable {X:Cx}{CX:CXT}{k:Nat}{f C:Addr}{fd:FuncData}{ps:List Str}{sp:Sp}{dvs:List V}{ds:List Value}{E:XK}{x m:Str}{p pos apos:Pos}{e o:Expr}{es:List Expr}{ta:TE}{t:TA}
theorem aDo {pins:List (Addr × Obj)}{σ:St}{H:Hp}{s:Shared}{Q:VK}{us:List Value}{vs:List V}(F:FnOk X.prog X.w X.K X.mg X.base CX k f fd ps sp) (hr:Room k X.A) (hb:eF X.K fd ps ds) (hd:aL dvs ds) (hx:rS CX X E)
  (I:Inv X pins σ H s) (r:aL vs us) (h:sp (vs++dvs) H Q E):wpAny (model X.prog X.w) X.A (call (.ref f) us) (EP X pins σ Q) X.xe s:=by
 have r2:aL (vs++dvs) (us++ds):=r.append hd;have hl:(us++ds).length=ps.length:=by rw[<- r2.length];exact F.len _ _ _ _ h
 refine wpAny_call (codeAny_mono (F.run X.A X.stack s H ⟨us,[]⟩ (us++ds) (vs++dvs) Q E hr I.env0 (hb s us I.kIn hl) r2 h) fun r s' hq=>?_);cases r with
 | error e=>exact hx pins σ H s e s' I hq
 | ok fl=>
  cases fl with
  | ret u=>exact I.after hq
  | next=>exact False.elim hq
  | brk=>exact False.elim hq
  | cont=>exact False.elim hq
theorem jL (F:FnOk X.prog X.w X.K X.mg X.base CX k f fd ps sp) (hr:Room k X.A) (hg:Gl X x) (hm:X.mg x=some (.ref f)) (hk:PySem.W.keepIn X.K (.ref f)=true) (hb:eF X.K fd ps ds) (hd:aL dvs ds) (hx:rS CX X E)
  (ha:PA X (e::es) t) (hdb:(x == ("__debug__" : Str))=false:=by decide) (he:starEach (e::es) X.env=(false,eval e X.env)::starEach es X.env:=by rfl) (hpl:(backTo pos (starEach es X.env)).any (·.1)=false:=by rfl):
  PE X (.Call (.Name x p) (e::es) [] pos) (aF6 sp dvs E t):=by
 intro pins s σ H Q I h;refine wpAny_Call_Name_kw (BY I hg hm ?_ hdb);refine PySem.W.callWith_K (h₀:=X.base) I.ok.mod.kin hk (thn (ha pos pins s σ H _ I h) fun us s1 ⟨vs,H1,I1,r,q⟩=>⟨I1.kIn,?_⟩) he hpl;exact aDo F hr hb hd hx I1 r q
structure Mk (K:PySem.W.Frag) (C f:Addr):Prop where
 makes:PySem.W.makesIn K C=true
 init:PySem.W.findIn K (.ref C) "__init__" = some (some (.ref f))
 fn:PySem.W.isFn K (.ref f)=true
 kp:PySem.W.keepIn K (.ref C)=true
theorem aDp {pins:List (Addr × Obj)}{σ:St}{H:Hp}{s:Shared}{Q:VK}{us:List Value}{vs:List V}(M:Mk X.K C f) (F:FnOk X.prog X.w X.K X.mg X.base CX k f fd ps sp) (hr:Room (k+1) X.A) (hb:eF X.K fd ps ds) (hd:aL dvs ds)
  (hx:rS CX X E) (I:Inv X pins σ H s) (r:aL vs us)
  (h:∀ x dx,H x=none->H dx=none->dx≠x->sp (.ref x::(vs++dvs)) (upd (upd H dx (.own x)) x (.ins C dx [])) (fun v H2=>v=.non/\Q (.ref x) H2) E):
  wpAny (model X.prog X.w) X.A (call (.ref C) us) (EP X pins σ Q) X.xe s:=by
 have hq:=h (s.heap.objs.size+1) s.heap.objs.size (I.hok.fresh (Nat.le_succ _)) (I.hok.fresh (aKe _)) (aKm (aKj _));have I2:=Inv.made (C:=C) I;have r2:aL (V.ref (s.heap.objs.size+1)::(vs++dvs)) (Value.ref (s.heap.objs.size+1)::(us++ds)):=.cons rfl (r.append hd);have hl:(Value.ref (s.heap.objs.size+1)::us++ds).length=ps.length:=by
  have e:=r2.length;rw[F.len _ _ _ _ hq] at e;exact e.symm
 refine wpAny_call (ZD (f:=f) I.kIn M.makes M.init (beq_iff_eq.mp M.fn) (codeAny_mono (F.run _ X.stack _ _ ⟨Value.ref (s.heap.objs.size+1)::us,[]⟩ (Value.ref (s.heap.objs.size+1)::(us++ds)) _ _ E (hr.make C us [])
  (I2.env0.make C us []) (hb _ (Value.ref (s.heap.objs.size+1)::us) I2.kIn hl) r2 hq) fun r s' hq'=>?_))
 cases r with
 | error e=>exact hx pins σ _ _ e s' I2 hq'
 | ok fl=>
  cases fl with
  | ret u=>
   obtain⟨v,H',I3,rv,ev,q3⟩:=I2.after hq';subst ev;exact⟨rv,⟨V.ref (s.heap.objs.size+1),H',I3,rfl,q3⟩⟩
  | next=>exact False.elim hq'
  | brk=>exact False.elim hq'
  | cont=>exact False.elim hq'
theorem LO (M:Mk X.K C f) (F:FnOk X.prog X.w X.K X.mg X.base CX k f fd ps sp) (hr:Room (k+1) X.A) (hg:Gl X x) (hm:X.mg x=some (.ref C)) (hb:eF X.K fd ps ds) (hd:aL dvs ds) (hx:rS CX X E)
  (ha:PA X (e::es) t) (hdb:(x == ("__debug__" : Str))=false:=by decide) (he:starEach (e::es) X.env=(false,eval e X.env)::starEach es X.env:=by rfl) (hpl:(backTo pos (starEach es X.env)).any (·.1)=false:=by rfl):
  PE X (.Call (.Name x p) (e::es) [] pos) (aFh C sp dvs E t):=by
 intro pins s σ H Q I h;refine wpAny_Call_Name_kw (BY I hg hm ?_ hdb);refine PySem.W.callWith_K (h₀:=X.base) I.ok.mod.kin M.kp (thn (ha pos pins s σ H _ I h) fun us s1 ⟨vs,H1,I1,r,q⟩=>⟨I1.kIn,?_⟩) he hpl;exact aDp M F hr hb hd hx I1 r q
end
def PK (X:Cx) (kws:List Keyword) (t:TA):Prop:=
 ∀ (pos:Pos) (pins:List (Addr × Obj)) (s:Shared) (σ:St) (H:Hp) (Q:List V->Hp->Prop),Inv X pins σ H s->t σ H Q->wpAny (model X.prog X.w) X.A (evalAll ((backToKw pos (keywordEach kws X.env)).map (·.2))) (AP X pins σ Q) X.xe s
section
variable {X:Cx}{CX:CXT}{k:Nat}{f C:Addr}{fd:FuncData}{ps ks:List Str}{sp:Sp}{E:XK}{x m:Str}{p pos apos kpos:Pos}{e o:Expr}{es:List Expr}{kws:List Keyword}{te ta:TE}{t tk:TA}{nm:Option Str}
theorem aCt:PK X [] OE:=fun _ _ _ _ H Q I h=>wpAny_evalAll_nil ⟨[],H,I,.nil,h⟩
theorem aCs (ha:PE X e te) (hr:PK X kws t):PK X (⟨nm,e,kpos⟩::kws) (OC te t):=by
 intro pos pins s σ H Q I h;show wpAny _ _ (evalAll ((do let v <- eval e X.env;standAt pos;pure v)::(backToKw pos (keywordEach kws X.env)).map (·.2))) _ _ s;refine wpAny_evalAll_cons (wpAny_bind (thn (ha pins s σ H _ I h) fun u s1 ⟨x,H1,I1,r1,q1⟩=>wpAny_bind (wpAny_standAt (wpAny_pure ?_))));exact thn (hr pos pins s1 σ H1 _ I1 q1) fun us s2 ⟨xs,H2,I2,r2,q2⟩=>⟨x::xs,H2,I2,.cons r1 r2,q2⟩
variable {g:List Value->List Value->List Value}{gV:List V->List V->List V}
end
structure FnScope (N P:List Str) (sc:Scope):Prop where
 kind:sc.kind=.function
 co:sc.isCoroutine=false
 gen:sc.isGenerator=false
 nd:N.Nodup
 pre:N.take P.length=P
 par:∀ x∈P,sc.names.lookup x=some .local\/sc.names.lookup x=some .cell
 nofree:∀ y∈sc.names,y.2≠.free
theorem GQ {kindOf:Str->Option NameKind}{x:Str}:∀ {binds:List (Str × Value)}{m:Str->Option Value},(∀ v,(x,v) ∉ binds)->bindL kindOf binds m x=m x
 | [],_,_=>rfl
 | (n,v)::r,m,h=>by
  unfold bindL;rw[GQ fun w hw=>h w (aIl _ hw)]
  split
  ·have:x≠n:=by rintro rfl;exact h v aIm
   simp[this]
  ·rfl
theorem GM {kindOf:Str->Option NameKind}{x:Str}:∀ {binds:List (Str × Value)}{m:Str->Option Value},(∀ v,(x,v) ∉ binds)->bindC kindOf binds m x=m x
 | [],_,_=>rfl
 | (n,v)::r,m,h=>by
  unfold bindC;rw[GM fun w hw=>h w (aIl _ hw)]
  split
  ·rfl
  ·have:x≠n:=by rintro rfl;exact h v aIm
   simp[this]
theorem GP {kindOf:Str->Option NameKind}{x:Str}{v:Value}:∀ {P:List Str}{vs:List Value}{i:Nat}{m:Str->Option Value},P.Nodup->P[i]?=some x->vs[i]?=some v->kindOf x=some .local ->
  bindL kindOf (P.zip vs) m x=some v
 | [],_,_,_,_,h,_,_=>by simp at h
 | _::_,[],_,_,_,_,h,_=>by simp at h
 | p::P,w::vs,0,m,nd,h1,h2,hk=>by
  simp at h1 h2;subst h1;subst h2;show bindL kindOf ((p,w)::P.zip vs) m p=_;unfold bindL;rw[GQ fun v hv=>(List.nodup_cons.mp nd).1 (List.of_mem_zip hv).1,if_pos hk];simp
 | p::P,w::vs,i+1,m,nd,h1,h2,hk=>by
  show bindL kindOf ((p,w)::P.zip vs) m x=_;unfold bindL;exact GP (i:=i) (List.nodup_cons.mp nd).2 (by simpa using h1) (by simpa using h2) hk
theorem GL {kindOf:Str->Option NameKind}{x:Str}{v:Value}:∀ {P:List Str}{vs:List Value}{i:Nat}{m:Str->Option Value},P.Nodup->P[i]?=some x->vs[i]?=some v->kindOf x≠some .local ->
  bindC kindOf (P.zip vs) m x=some v
 | [],_,_,_,_,h,_,_=>by simp at h
 | _::_,[],_,_,_,_,h,_=>by simp at h
 | p::P,w::vs,0,m,nd,h1,h2,hk=>by
  simp at h1 h2;subst h1;subst h2;show bindC kindOf ((p,w)::P.zip vs) m p=_;unfold bindC;rw[GM fun v hv=>(List.nodup_cons.mp nd).1 (List.of_mem_zip hv).1,if_neg hk];simp
 | p::P,w::vs,i+1,m,nd,h1,h2,hk=>by
  show bindC kindOf ((p,w)::P.zip vs) m x=_;unfold bindC;exact GL (i:=i) (List.nodup_cons.mp nd).2 (by simpa using h1) (by simpa using h2) hk
def start (N:List Str) (vs:List V):St:=vs.map some++List.replicate (N.length-vs.length) none
def bB (CX:CXT) (P:Program) (w:World) (K:PySem.W.Frag) (mg:Str->Option Value) (base:Heap) (N:List Str) (qual:Str) (scope:Scope) (f:Addr) (cd:Value) (A:Around) (outer:List Env) (s:Shared) (H:Hp) (E:XK):Cx where
 prog:=P
 w:=w
 K:=K
 mg:=mg
 base:=base
 A:=A.deeper (envOfC qual scope s.heap.objs.size f cd)
 N:=N
 s₀:=s
 H₀:=H
 env:=envOfC qual scope s.heap.objs.size f cd
 outer:=outer
 stack:=envOfC qual scope s.heap.objs.size f cd::outer
 ex:=[]
 calm:=true
 fn:=fun _=>true
 pn:=[]
 xe:=fun e s'=>wpAny (model P w) (A.deeper (envOfC qual scope s.heap.objs.size f cd)) (leaving (envOfC qual scope s.heap.objs.size f cd) e) (fun _ s''=>CX outer H s E e s'') (fun e' s''=>CX outer H s E e' s'') s'
theorem GX {sc:Scope}{n:Nat}{x:Str}(h:sc.names.lookup x=some .cell):∃ c,(cellsFrom n sc.names []).lookup x=some c:=by
 have q:=PySem.W.cellsFrom_some sc.names n [] (.inl h);exact Option.isSome_iff_exists.mp q
theorem YA {CX:CXT}{P:Program}{w:World}{K:PySem.W.Frag}{mg:Str->Option Value}{base:Heap}{N ps:List Str}{qual:Str}{scope:Scope}{f:Addr}{cd:Value}{A:Around}{outer:List Env}{s s1:Shared}{H:Hp}{E:XK}{us:List Value}{vs:List V}
  (S:FnScope N ps scope) (hd:A.handled=none) (e0:Env0 P w K mg base A outer s H) (hl:vs.length=ps.length) (r:aL vs us)
  (x:InCallC s s.heap.objs.size (bindL (envOfC qual scope s.heap.objs.size f cd).kindOf (ps.zip us) fun _=>none) (cellsFrom (s.heap.objs.size+1) scope.names []) (bindC (envOfC qual scope s.heap.objs.size f cd).kindOf (ps.zip us) fun _=>none) s1):
  Inv (bB CX P w K mg base N qual scope f cd A outer s H E) [] (start N vs) H s1:=by
 have hpl:ps.length<=N.length:=by have:=congrArg List.length S.pre;rw[List.length_take] at this;lia
 obtain⟨h1,tk,rfl,hk⟩:=x.done;have noA:∀ b:Addr,b ∉ (bB CX P w K mg base N qual scope f cd A outer s H E).ex:=fun b z=>absurd (show b∈([]:List Addr) from z) (by simp);refine⟨⟨e0.mod,S.kind,rfl,rfl,aKe _,fun y z c h1 h2=>?_,fun y hy=>?_,fun y c _ h=>?_,fun _=>hd,Around.frames_deeper e0.frames,.inr ⟨rfl,rfl⟩,fun b z=>absurd z (noA b),e0.bs,e0.bsz,fun b _ _=>noA b,fun b z=>absurd z (noA b),e0.funs,e0.frf⟩,
  rfl,e0.bare,Un.kept hk,⟨_,x.toInCall.ns,fun i y v h1 h2 h3=>?_⟩,fun y c h=>⟨_,x.cell y c h⟩,e0.hok.fresh (aKe _),fun y c h=>?_,fun p hp=>absurd (show p∈([]:List (Addr × Obj)) from hp) (by simp),e0.hok.kept hk,?_⟩
 ·exact name_of_addr x.apart (PySem.mem_of_lookup h1) (PySem.mem_of_lookup h2)
 ·have hy:scope.names.lookup y=some .cell\/scope.names.lookup y=some .free:=hy
  rcases hy with hy | hy
  ·exact GX hy
  ·exact absurd rfl (S.nofree _ (PySem.mem_of_lookup hy))
 ·exact aKd (x.above y c (PySem.mem_of_lookup h))
 ·have hi:i<vs.length:=by
   unfold start at h2
   by_cases hi:i<vs.length
   ·exact hi
   ·rw[List.getElem?_append_right (by simpa using hi)] at h2
    rw[List.getElem?_replicate] at h2;split at h2<;>cases h2
  have ha:vs[i]?=some v:=by
   unfold start at h2;rw[List.getElem?_append_left (by simpa using hi),aJk] at h2;cases e:vs[i]? with
   | none=>rw[e] at h2;cases h2
   | some a=>rw[e] at h2;cases h2;rfl
  obtain⟨u,hu,rv⟩:=r.get ha;have hp:ps[i]?=some y:=by
   rw[<- S.pre,List.getElem?_take_of_lt (by lia)];exact h1
  have ndP:ps.Nodup:=by rw[<- S.pre];exact S.nd.sublist (List.take_sublist _ _)
  refine⟨u,rv,?_⟩;rcases S.par y (List.mem_of_getElem? hp) with k | k
  ·exact .inl ⟨k,GP ndP hp hu k⟩
  ·obtain⟨c,e⟩:=GX (n:=s.heap.objs.size+1) k
   refine .inr ⟨.inl k,c,e,?_⟩;have q:=x.cell y c e;rw[GL ndP hp hu (by show scope.names.lookup y≠_;rw[k];decide)] at q;exact q
 ·exact e0.hok.fresh (aKd (x.above y c (PySem.mem_of_lookup h)))
 ·unfold start
  show _=N.length;rw[aJn,aJq,aJt];lia
theorem VB {CX:CXT}{P:Program}{w:World}{K:PySem.W.Frag}{mg:Str->Option Value}{base:Heap}{k:Nat}{f:Addr}{name qual:Str}{params:Arguments}{body:List Stmt}{scope:Scope}{dV kV doc pm cdv ct oc:Value}{an od:Option Addr}
  {osl:Array (Option Value)} {N ps:List Str} {sp:Sp} (lk:K.lookup f=some ⟨oc,od,.func (PySem.W.fnOf name qual params body scope dV kV doc pm an cdv ct),osl⟩) (hcd:PySem.W.codeIn K cdv qual=true) (S:FnScope N ps scope)
  (len:∀ vs H Q E,sp vs H Q E->vs.length=ps.length)
  (hbody:∀ (A:Around) (outer:List Env) (s:Shared) (H:Hp) (vs:List V) (Q:VK) (E:XK),Room k (A.deeper (envOfC qual scope s.heap.objs.size f cdv))->sp vs H Q E ->
   ∃ t,PSs (bB CX P w K mg base N qual scope f cdv A outer s H E) body t/\t { nx:=fun _ H'=>Q .non H',rt:=Q } (start N vs) H):
  FnOk P w K mg base CX (k+1) f (PySem.W.fnOf name qual params body scope dV kV doc pm an cdv ct) ps sp:=by
 refine⟨len,fun A outer s H args us vs Q E hr e0 hb r hsp=>?_⟩;have hl:=len _ _ _ _ hsp;have KX:K.In s.heap:=e0.mod.kin.keeps fun b o e=>(e0.bs b o e).1;have lim:s.heap.NoLimit:=e0.mod.nolimit.keeps fun b o e=>(e0.bs b o e).1;have hkind:∀ y∈ps.zip us,scope.names.lookup y.1=some .local\/(scope.names.lookup y.1=some .cell/\((cellsFrom (s.heap.objs.size+1) scope.names []).lookup y.1).isSome=true):=fun ⟨n,v⟩ hy=>by
  rcases S.par n (List.of_mem_zip hy).1 with q | q
  ·exact .inl q
  ·exact .inr ⟨q,PySem.W.cellsFrom_some _ _ _ (.inl q)⟩
 refine codeAny_call_function hr.depth (KX _ _ lk) rfl S.co S.gen rfl (PySem.W.codeRec_of KX hcd) (hb _ _ _ _ ?_);refine wpAny_newFunctionEnv_cells S.kind hkind fun env he s1 x=>?_;subst he;refine⟨lim.keeps x.toInCall.keep,codeAny_func ?_⟩;obtain⟨t,ht,hq⟩:=hbody A outer s H vs Q E (hr.deeper _) hsp;have I:Inv (bB CX P w K mg base N qual scope f cdv A outer s H E) [] (start N vs) H s1:=YA S hr.hd e0 hl r x;refine wpAny_mono (ht [] s1 (start N vs) H _ I hq) (fun fl s' hs=>?_) fun e s' hs=>hs;have fin:∀ {σ':St} {H':Hp} {v:V} {u:Value},Inv (bB CX P w K mg base N qual scope f cdv A outer s H E) [] σ' H' s'->aX v u->Q v H'->CE outer P w H s Q u s':=
  fun {σ' H' v u} J rv q=>⟨v,H',J.os,J.bare,J.base,J.hok,rv,q⟩
 cases fl with
 | ret u=>
  obtain⟨v,σ',H',J,rv,q⟩:=hs;exact fin J rv q
 | next=>
  obtain⟨σ',H',J,q⟩:=hs;exact fin (v:=V.non) (u:=Value.none) J rfl q
 | brk=>
  obtain⟨_,_,_,q⟩:=hs;exact False.elim q
 | cont=>
  obtain⟨_,_,_,q⟩:=hs;exact False.elim q
section
variable {X:Cx}{x:Str}{p pos:Pos}{e:Expr}{es:List Expr}{t:TA}{id T:String}{r:List V->Hp->VK->Prop}
def tCB (r:List V->Hp->VK->Prop) (t:TA):TE:=fun σ H Q=>t σ H fun vs H1=>r vs H1 Q
theorem gQ (hc:eY X (.builtin id) r) (hg:Gl X x) (hm:X.mg x=none) (hv:bootBuiltins x=some (.builtin id)) (ha:PA X (e::es) t) (hn:x ≠ "__name__" := by decide) (hdb:(x == ("__debug__" : Str))=false:=by decide)
  (he:starEach (e::es) X.env=(false,eval e X.env)::starEach es X.env:=by rfl) (hpl:(backTo pos (starEach es X.env)).any (·.1)=false:=by rfl):PE X (.Call (.Name x p) (e::es) [] pos) (tCB r t):=by
 intro pins s σ H Q I h;refine wpAny_Call_Name_kw (mI I hg hm hv ?_ hn hdb);exact PyProof.Rows.callWith_builtin1 (thn (ha pos pins s σ H _ I h) fun us s1 ⟨vs,H1,I1,r1,q1⟩=>hc pins s1 σ H1 vs us Q I1 r1 q1) he hpl
theorem xW (hc:eY X (.type T) r) (hg:Gl X x) (hm:X.mg x=none) (hv:bootBuiltins x=some (.type T)) (ha:PA X (e::es) t) (hn:x ≠ "__name__" := by decide) (hdb:(x == ("__debug__" : Str))=false:=by decide)
  (he:starEach (e::es) X.env=(false,eval e X.env)::starEach es X.env:=by rfl) (hpl:(backTo pos (starEach es X.env)).any (·.1)=false:=by rfl):PE X (.Call (.Name x p) (e::es) [] pos) (tCB r t):=by
 intro pins s σ H Q I h;refine wpAny_Call_Name_kw (mI I hg hm hv ?_ hn hdb);exact PyProof.Rows.callWith_type1 (thn (ha pos pins s σ H _ I h) fun us s1 ⟨vs,H1,I1,r1,q1⟩=>hc pins s1 σ H1 vs us Q I1 r1 q1) he hpl
end
end L2
namespace HT
open PySem PyProof.Rows
section
open PySem.SeqAt
open PySem.AutoSeq1 (wpAny_loadPart')
open PySem.MeetsSeq PySem.MeetsSeq2 PySem.MeetsSeq3
end
section
variable {prog:Program}{w:World}{A:Around}{E:Value->Shared->Prop}{s:Shared}
def sIx (n d:Nat):Option Int->Nat
 | none=>d
 | some v=>if v<0 then (v+(n:Int)).toNat else min v.toNat n
end
end HT
namespace L2
open PySem PySem.Spec PyProof.Rows
abbrev TO:=St->Hp->(Option Int->Hp->Prop)->Prop
def PO (X:Cx) (e:Option Expr) (t:TO):Prop:=
 ∀ (pins:List (Addr × Obj)) (s:Shared) (σ:St) (H:Hp) (Q:Option Int->Hp->Prop),Inv X pins σ H s->t σ H Q ->
  wpAny (model X.prog X.w) X.A (evalPart e X.env) (fun u s'=>∃ o H',Inv X pins σ H' s'/\IsPart u o/\Q o H') X.xe s
def aFj:TO:=fun _ H Q=>Q none H
def aFn (t:TE):TO:=fun σ H Q=>t σ H fun x H1=>∃ i,x=.int i/\Q (some i) H1
section
variable {X:Cx}{e:Expr}{te:TE}{lo hi:Option Expr}{tl th:TO}{pos p2:Pos}
theorem LV:PO X none aFj:=by
 intro pins s σ H Q I h;rw[evalPart_none];exact wpAny_pure ⟨none,H,I,.none,h⟩
theorem LW (h:PE X e te):PO X (some e) (aFn te):=by
 intro pins s σ H Q I hw;rw[evalPart_some];refine thn (h pins s σ H _ I hw) fun u s1 ⟨x,H1,I1,r1,q1⟩=>?_;obtain⟨i,rfl,q⟩:=q1;obtain⟨t,rfl⟩:=r1;exact⟨some i,H1,I1,.int i t,q⟩
def SlR (X:Cx) (r:V->Option Int->Option Int->Hp->VK->Prop):Prop:=
 ∀ (pins:List (Addr × Obj)) (s:Shared) (σ:St) (H:Hp) (x:V) (v vl vu:Value) (lo hi:Option Int) (sl:Addr) (Q:VK),Inv X pins σ H s->aX x v->s.heap.IsSliceOf sl vl vu .none->IsPart vl lo->IsPart vu hi->r x lo hi H Q ->
  ∃ T id,typeLookup (.type T) "__getitem__" = pure (some (.builtin id))/\s.TypeIs v T/\wpAny (model X.prog X.w) X.A (getItem v (.ref sl)) (EP X pins σ Q) X.xe s
def tSl (r:V->Option Int->Option Int->Hp->VK->Prop) (te:TE) (tl th:TO):TE:=fun σ H Q=>te σ H fun x H1=>tl σ H1 fun l H2=>th σ H2 fun u H3=>r x l u H3 Q
theorem aCg {r:V->Option Int->Option Int->Hp->VK->Prop}(hr:SlR X r) (he:PE X e te) (hl:PO X lo tl) (hu:PO X hi th):PE X (.Subscript e (.Slice lo hi none p2) pos) (tSl r te tl th):=by
 intro pins s σ H Q I h;refine Subscript_ (thn (he pins s σ H _ I h) fun v s1 ⟨x,H1,I1,r1,q1⟩=>?_);refine wpAny_Slice (thn (hl pins s1 σ H1 _ I1 q1) fun vl s2 ⟨l,H2,I2,pl,q2⟩=>thn (hu pins s2 σ H2 _ I2 q2) fun vu s3 ⟨u,H3,I3,pu,q3⟩=>?_);rw[evalPart_none];refine wpAny_pure ?_;have I4:Inv X pins σ H3 { s3 with heap:=s3.heap.push { cls:=.type "slice",data:=.fields #[vl,vu,.none] } }:=I3.kept (t':=s3.toks) fun b ob q=>aIt _ q;obtain⟨T,id,hT,ht,hg⟩:=hr pins { s3 with heap:=s3.heap.push { cls:=.type "slice",data:=.fields #[vl,vu,.none] } } σ H3 x v vl vu l u s3.heap.objs.size Q I4 r1 (Heap.IsSliceOf.new ..) pl pu q3;show wpAny (model X.prog X.w) X.A (subscriptTail e (.Slice lo hi none p2) v (.ref s3.heap.objs.size)) (EP X pins σ Q) X.xe { s3 with heap:=s3.heap.push { cls:=.type "slice",data:=.fields #[vl,vu,.none] } };exact tail_any (ops:=[.ref s3.heap.objs.size,v]) ht hT hg (by with_unfolding_all rfl)
def rZ (xs:List V) (lo hi:Option Int):List V:=(xs.drop (HT.sIx xs.length 0 lo)).take (HT.sIx xs.length xs.length hi-HT.sIx xs.length 0 lo)
theorem TD (xs:List V) (lo hi:Option Int):(rZ xs lo hi).length<=xs.length:=by
 unfold rZ;rw[List.length_take,List.length_drop];lia
end
def ixN (n:Nat) (i:Int):Option Nat:=if 0<=i then (if i<n then some i.toNat else none) else if -(n:Int)<=i then some (i+n).toNat else none
def atI {α:Type} (xs:List α) (i:Int):Option α:=(ixN xs.length i).bind fun j=>xs[j]?
theorem JY {n:Nat}{i:Int}{j:Nat}(h:ixN n i=some j):seqIndex? i n=some j/\j<n /\ -(n:Int)<=i/\i<n:=by
 unfold ixN at h
 by_cases h0:0<=i
 ·rw[if_pos h0] at h
  by_cases h1:i<n
  ·rw[if_pos h1] at h
   have e:i.toNat=j:=aIi h;exact⟨by rw[seqIndex_of h0 h1,e],by lia,by lia,h1⟩
  ·rw[if_neg h1] at h;cases h
 ·rw[if_neg h0] at h
  by_cases h1 : -(n:Int)<=i
  ·rw[if_pos h1] at h
   have e:(i+n).toNat=j:=aIi h;exact⟨by rw[seqIndex_neg (by lia) h1,e],by lia,h1,by lia⟩
  ·rw[if_neg h1] at h;cases h
theorem AC {α:Type}{xs:List α}{i:Int}{v:α}(h:atI xs i=some v):∃ j,seqIndex? i xs.length=some j/\xs[j]?=some v/\j<xs.length /\ -(xs.length:Int)<=i/\i<xs.length:=by
 unfold atI at h;cases e:ixN xs.length i with
 | none=>rw[e] at h;cases h
 | some j=>
  rw[e] at h;obtain⟨h1,h2,h3,h4⟩:=JY e;exact⟨j,h1,h,h2,h3,h4⟩
theorem atI_nat {α:Type}{xs:List α}{j:Nat}{v:α}(h:xs[j]?=some v):atI xs (j:Int)=some v:=by
 have hj:j<xs.length:=(aIn.mp h).1;have e:ixN xs.length (j:Int)=some j:=by
  unfold ixN;rw[if_pos (by lia),if_pos (by lia)];simp
 unfold atI;rw[e];exact h
def FS (b:Expr):Prop:=∀ o i,subscripted b false o i=operate [o,i] (getItem o i)
def IxR (X:Cx) (r:R2):Prop:=
 ∀ (value slice:Expr) (pins:List (Addr × Obj)) (s:Shared) (σ:St) (H:Hp) (x y:V) (v u:Value) (Q:VK),Inv X pins σ H s->aX x v->aX y u->r x y H Q ->
  subscripted slice false v u=operate [v,u] (getItem v u)->wpAny (model X.prog X.w) X.A (subscriptTail value slice v u) (EP X pins σ Q) X.xe s
def MtR (X:Cx) (id:String) (r:V->List V->Hp->VK->Prop):Prop:=
 ∀ (pins:List (Addr × Obj)) (s:Shared) (σ:St) (H:Hp) (x:V) (xs:List V) (v:Value) (us:List Value) (Q:VK),Inv X pins σ H s->aX x v->aL xs us->r x xs H Q ->
  wpAny (model X.prog X.w) X.A (call (.builtin id) (v::us)) (EP X pins σ Q) X.xe s
section
variable {X:Cx}{a b:Expr}{ta tb:TE}{pos:Pos}
theorem IxR.or {r r':R2}(h:IxR X r) (h':IxR X r'):IxR X (fun x y H Q=>r x y H Q\/r' x y H Q):=by
 intro value slice pins s σ H x y v u Q I rx ry q hs;rcases q with q | q
 ·exact h value slice pins s σ H x y v u Q I rx ry q hs
 ·exact h' value slice pins s σ H x y v u Q I rx ry q hs
theorem kL {r:R2}(hr:IxR X r) (ha:PE X a ta) (hb:PE X b tb) (hs:FS b):PE X (.Subscript a b pos) (tOp r ta tb):=by
 intro pins s σ H Q I h;exact Subscript_ (wC ha hb I h fun v u s2 x y H2 I2 rx ry q=>hr a b pins s2 σ H2 x y v u Q I2 rx ry q (hs _ _))
def MC (K:PySem.W.Frag):R2:=fun x y H Q=>∃ p xs i v,x=.ref p/\y=.int i/\SqL K H p xs/\atI xs i=some v/\Q v H
def ME (K:PySem.W.Frag):R2:=fun x y H Q=>∃ p xs i v,x=.ref p/\y=.int i/\SqT K H p xs/\atI xs i=some v/\Q v H
def MD:R2:=fun x y H Q=>∃ z i c,x=.str z/\y=.int i/\z.length<=sizeLine/\atI z.cps.toList i=some c/\Q (.str ⟨#[c]⟩) H
theorem nO:IxR X (MC X.K):=by
 intro value slice pins s σ H x y v u Q I rx ry h hs;obtain⟨p,xs,i,z,rfl,rfl,hq,he,q⟩:=h;cases rx;obtain⟨t,rfl⟩:=ry;obtain⟨its,r,pl,hz⟩:=I.list hq;obtain⟨j,h1,h2,h3,h4,h5⟩:=AC he;obtain⟨w,ew,rw'⟩:=r.get h2;have hl:=r.length;have hn:=nP;have fin:EP X pins σ Q w s:=⟨z,H,I,rw',q⟩
 by_cases h0:0<=i
 ·have hj:i.toNat=j:=by
   rw[seqIndex_of h0 h5] at h1;exact aIi h1
  exact item_listR pl.isList h0 (by lia) (by rw[hj];simpa using ew) fin hs
 ·have hj:(i+(its.toArray.size:Int)).toNat=j:=by
   rw[seqIndex_neg (by lia) h4] at h1;rw[aIr,<- hl];exact aIi h1
  exact subscriptTail_builtinR (x:=w) pl.isList.typeIs slot_list_getitem.lookup
   (wpAny_getItem_list_neg (Q:=fun r s'=>r=w/\EP X pins σ Q r s') pl.isList (by lia) (by rw[aIr]<;>lia) (by lia) (by rw[hj];simpa using ew) ⟨rfl,fin⟩) hs
theorem BV:IxR X (ME X.K):=by
 intro value slice pins s σ H x y v u Q I rx ry h hs;obtain⟨p,xs,i,z,rfl,rfl,hq,he,q⟩:=h;cases rx;obtain⟨t,rfl⟩:=ry;obtain⟨its,r,pl,hz⟩:=I.tuple hq;obtain⟨j,h1,h2,h3,h4,h5⟩:=AC he;obtain⟨w,ew,rw'⟩:=r.get h2;have hl:=r.length;have hn:=nP;have fin:EP X pins σ Q w s:=⟨z,H,I,rw',q⟩;exact subscriptTail_builtinR (x:=w) pl.typeIs slot_tuple_getitem.lookup
  (getItem_tuple (j:=j) (Q:=fun r s'=>r=w/\EP X pins σ Q r s') pl (by lia) (by lia) (by rw[aIr,<- hl];exact h1) (by simpa using ew) ⟨rfl,fin⟩) hs
theorem YH:IxR X MD:=by
 intro value slice pins s σ H x y v u Q I rx ry h hs;obtain⟨z,i,c,rfl,rfl,hz,he,q⟩:=h;obtain⟨t,rfl⟩:=rx;obtain⟨t',rfl⟩:=ry;obtain⟨j,h1,h2,h3,h4,h5⟩:=AC he;have hl:z.cps.toList.length=z.length:=by simp[Str.length]
 rw[hl] at h1 h4 h5;have hn:=nP;exact tail_any (typeIs_str s z t) slot_str_getitem.lookup (getItem_str (c:=c) (by
  have e1:decide (i < -(2^63:Int))=false:=decide_eq_false (by lia);have e2:decide (i >= 2^63)=false:=decide_eq_false (by lia);rw[e1,e2,Bool.or_false]) (by rw[h1];simpa using h2) ⟨.str ⟨#[c]⟩,H,I.tok _,⟨_,rfl⟩,q⟩) hs
def rIx (K:PySem.W.Frag):R2:=fun x y H Q=>MC K x y H Q\/ME K x y H Q\/MD x y H Q
theorem YG:IxR X (rIx X.K):=nO.or (BV.or YH)
theorem ZG (its:List Value) (n j:Nat) (u:Value):Obj.mapSeq (·.setIfInBounds j u) { cls:=.type "list",data:=.seq its.toArray n }={ cls:=.type "list",data:=.seq (its.set j u).toArray n }:=by
 simp[Obj.mapSeq]
theorem Inv.lst {pins:List (Addr × Obj)}{σ:St}{H:Hp}{s:Shared}{p:Addr}{xs:List V}(I:Inv X pins σ H s) (h:H p=some (.lst xs)):
  ∃ (its:List Value) (n:Nat),aL xs its/\s.heap.get? p=some { cls:=.type "list",data:=.seq its.toArray n }/\xs.length<=sizeLine:=by
 obtain⟨z,its,n,r,e⟩:=I.hok p _ h;exact⟨its,n,r,e,z⟩
theorem Inv.lstUpd {pins:List (Addr × Obj)}{σ:St}{H:Hp}{s:Shared}{p:Addr}{xs ys:List V}{its its':List Value}{n n':Nat}{f:Obj->Obj}(I:Inv X pins σ H s) (h:H p=some (.lst xs))
  (ho:s.heap.get? p=some { cls:=.type "list",data:=.seq its.toArray n }) (hf:f { cls:=.type "list",data:=.seq its.toArray n }={ cls:=.type "list",data:=.seq its'.toArray n' }) (r:aL ys its') (hz:ys.length<=sizeLine) (t:Nat):
  Inv X pins σ (upd H p (.lst ys)) { s with heap:=s.heap.update p f,toks:=t }:=by
 have e:(s.heap.update p f).get? p=some { cls:=.type "list",data:=.seq its'.toArray n' }:=by
  rw[Heap.get?_update_self f ho (by rw[hf]<;>rfl),hf]
 refine I.write (x:=p) (e:=p) (by rw[h];trivial) (.inl rfl) (fun b u hb q=>(Heap.get?_update_other _ _ (Ne.symm hb)).trans q) ⟨_,e⟩ ?_;exact⟨hz,its',n',r,e⟩
def aD8:V->V->V->Hp->(Hp->Prop)->Prop:=fun o i v H Q=>∃ p xs k j,o=.ref p/\i=.int k/\H p=some (.lst xs)/\ixN xs.length k=some j/\Q (upd H p (.lst (xs.set j v)))
theorem aEc:FR X aD8:=by
 intro pins s σ H o i v ov iv u Q I ro ri rv h;obtain⟨p,xs,k,j,rfl,rfl,hp,hj,q⟩:=h;cases ro;obtain⟨t,rfl⟩:=ri;obtain⟨its,n,r,ho,hz⟩:=I.lst hp;obtain⟨h1,h2,h3,h4⟩:=JY hj;have hl:=r.length;have hn:=nP;have I':Inv X pins σ (upd H p (.lst (xs.set j v))) { s with heap:=s.heap.update p (Obj.mapSeq (·.setIfInBounds j u)) }:=
  I.lstUpd hp ho (ZG its n j u) (r.set rv j) (by rw[List.length_set];exact hz) s.toks
 by_cases h0:0<=k
 ·have hk:k.toNat=j:=by
   rw[seqIndex_of h0 h4] at h1;exact aIi h1
  exact PySem.W.ki_setAt ho h0 (by lia) (by rw[aIr,<- hl];exact h4) (by rw[hk];exact⟨_,I',q⟩)
 ·have hk:(k+(its.toArray.size:Int)).toNat=j:=by
   rw[seqIndex_neg (by lia) h3] at h1;rw[aIr,<- hl];exact aIi h1
  exact PySem.W.ki_setBack ho (by lia) (by rw[aIr,<- hl];exact h3) (by lia) (by rw[hk];exact⟨_,I',q⟩)
theorem aEk (lo hi:Option Int) (n:Nat):(sliceBounds lo hi none n).1=((HT.sIx n 0 lo:Nat):Int)/\(sliceBounds lo hi none n).2.1=((HT.sIx n n hi:Nat):Int)/\(sliceBounds lo hi none n).2.2=1:=by
 refine⟨?_,?_,rfl⟩
 ·cases lo with
  | none=>simp[sliceBounds,HT.sIx]
  | some i=>
   simp only[sliceBounds,HT.sIx,Option.getD_none,show (1:Int) > 0 by decide,if_true]
   by_cases h:i<0
   ·simp only[h,if_true]<;>lia
   ·simp only[h,if_false]<;>lia
 ·cases hi with
  | none=>simp[sliceBounds,HT.sIx]
  | some i=>
   simp only[sliceBounds,HT.sIx,Option.getD_none,show (1:Int) > 0 by decide,if_true]
   by_cases h:i<0
   ·simp only[h,if_true]<;>lia
   ·simp only[h,if_false]<;>lia
theorem aEj (its:List Value) (lo hi:Option Int):slicePick its.toArray lo hi none=((its.drop (HT.sIx its.length 0 lo)).take (HT.sIx its.length its.length hi-HT.sIx its.length 0 lo)).toArray:=by
 obtain⟨h1,h2,h3⟩:=aEk lo hi its.toArray.size;unfold slicePick;rw[h1,h2,h3];simp only[sliceRange_one,pick_run,aIr]<;>rfl
def aD9 (K:PySem.W.Frag):V->Option Int->Option Int->Hp->VK->Prop:=fun x lo hi H Q=>∃ a xs,x=.ref a/\SqL K H a xs/\∀ p,H p=none->Q (.ref p) (upd H p (.lst (rZ xs lo hi)))
theorem aEh:SlR X (aD9 X.K):=by
 intro pins s σ H x v vl vu lo hi sl Q I rx hs pl pu h;obtain⟨a,xs,rfl,hx,q⟩:=h;cases rx;obtain⟨its,r,ht,hz⟩:=I.list hx;have hlen:=r.length;refine⟨"list",_,slot_list_getitem.lookup,ht.isList.typeIs,?_⟩;refine wpAny_getItem_list_slice ht.isList hs pl pu .none (by simp) ?_ (by rw[aIr]<;>lia)
 rw[aEj,<- hlen];refine⟨.ref s.heap.objs.size,_,I.laid (t':=s.toks) (o:=.lst (rZ xs lo hi)) (fun b ob q=>aIt _ q) (aKe _) ?_,rfl,q _ (I.hok.fresh (aKe _))⟩;exact⟨aKf (TD xs lo hi) hz,_,0,(r.drop (HT.sIx xs.length 0 lo)).take (HT.sIx xs.length xs.length hi-HT.sIx xs.length 0 lo),aJ2 _ rfl⟩
def jB:V->Bool
 | .non=>true
 | .bl _=>true
 | .int _=>true
 | .str _=>true
 | _=>false
def eqV:V->V->Bool
 | .non,.non=>true
 | .bl a,.bl b=>a == b
 | .bl a,.int b=>(if a then 1 else 0) == b
 | .int a,.bl b=>a == (if b then 1 else 0)
 | .int a,.int b=>a == b
 | .str a,.str b=>a == b
 | _,_=>false
theorem UX {A:Around}{s:Shared}{y x:V}{u v:Value}(ry:aX y u) (rx:aX x v) (fy:jB y=true) (fx:jB x=true):SeqAt.EqAt A s u v (eqV y x):=by
 cases y with
 | non=>
  cases ry;cases x with
  | non=>cases rx;exact SeqAt.EqAt.same _
  | bl b=>cases rx;exact SeqAt.EqAt.none_bool b
  | int b=>obtain⟨t,rfl⟩:=rx;exact SeqAt.EqAt.none_int b t
  | str b=>obtain⟨t,rfl⟩:=rx;exact SeqAt.EqAt.none_str b t
  | _=>exact absurd (show false=true from fx) aJ1
 | bl a=>
  cases ry;cases x with
  | non=>cases rx;exact SeqAt.EqAt.bool_none a
  | bl b=>cases rx;exact SeqAt.EqAt.bool_bool a b
  | int b=>obtain⟨t,rfl⟩:=rx;exact SeqAt.EqAt.bool_int a b t
  | str b=>obtain⟨t,rfl⟩:=rx;exact SeqAt.EqAt.bool_str a b t
  | _=>exact absurd (show false=true from fx) aJ1
 | int a=>
  obtain⟨t',rfl⟩:=ry;cases x with
  | non=>cases rx;exact SeqAt.EqAt.int_none a t'
  | bl b=>cases rx;exact SeqAt.EqAt.int_bool a t' b
  | int b=>obtain⟨t,rfl⟩:=rx;exact SeqAt.EqAt.int_int a t' b t
  | str b=>obtain⟨t,rfl⟩:=rx;exact SeqAt.EqAt.int_str a t' b t
  | _=>exact absurd (show false=true from fx) aJ1
 | str a=>
  obtain⟨t',rfl⟩:=ry;cases x with
  | non=>cases rx;exact SeqAt.EqAt.str_none a t'
  | bl b=>cases rx;exact SeqAt.EqAt.str_bool a t' b
  | int b=>obtain⟨t,rfl⟩:=rx;exact SeqAt.EqAt.str_int a t' b t
  | str b=>obtain⟨t,rfl⟩:=rx;exact SeqAt.EqAt.str_str a t' b t
  | _=>exact absurd (show false=true from fx) aJ1
 | _=>exact absurd (show false=true from fy) aJ1
def eqU (x:V) (u:Value):Bool:=match u with
 | .none=>eqV .non x
 | .bool b=>eqV (.bl b) x
 | .int i _=>eqV (.int i) x
 | .str z _=>eqV (.str z) x
 | _=>false
theorem IG {x y:V}{u:Value}(r:aX y u) (f:jB y=true):eqU x u=eqV y x:=by
 cases y with
 | non=>cases r;rfl
 | bl b=>cases r;rfl
 | int i=>obtain⟨t,rfl⟩:=r;rfl
 | str z=>obtain⟨t,rfl⟩:=r;rfl
 | _=>exact absurd (show false=true from f) aJ1
theorem AB {x:V}:∀ {xs:List V}{us:List Value},aL xs us->xs.all jB=true->us.any (eqU x)=xs.any fun y=>eqV y x
 | _,_,.nil,_=>rfl
 | y::xs,u::us,.cons r t,f=>by
  rw[List.all_cons,aIw] at f;rw[List.any_cons,List.any_cons,IG r f.1,AB t f.2]
theorem CH {A:Around}{s:Shared}{x:V}{v:Value}(rx:aX x v) (fx:jB x=true):∀ {xs:List V}{us:List Value},aL xs us->xs.all jB=true->∀ u∈us,SeqAt.EqAt A s u v (eqU x u)
 | _,_,.nil,_=>fun u hu=>by cases hu
 | y::xs,u::us,.cons r t,f=>fun u' hu=>by
  rw[List.all_cons,aIw] at f;rcases aIu.mp hu with rfl | hu
  ·rw[IG r f.1];exact UX r rx f.1 fx
  ·exact CH rx fx t f.2 u' hu
def inV (x:V) (xs:List V):Bool:=xs.any fun y=>eqV y x
def rIn (K:PySem.W.Frag) (neg:Bool):R2:=fun x y H Q=>∃ p xs,y=.ref p/\(SqL K H p xs\/SqT K H p xs)/\jB x=true/\xs.all jB=true/\Q (.bl (if neg then !inV x xs else inV x xs)) H
theorem LD:OpR X (compareOp .In) (rIn X.K false):=by
 intro pins s σ H x y v u Q I rx ry h;obtain⟨p,xs,rfl,hq,fx,fs,q⟩:=h;cases ry;rcases hq with hq | hq
 ·obtain⟨its,r,pl,hz⟩:=I.list hq
  refine SeqAt.in_listAt (eqU x) pl.isList (fun w hw=>CH rx fx r fs w (by simpa using hw)) ⟨.bl _,H,I,rfl,?_⟩;rw[show its.toArray.any (eqU x)=its.any (eqU x) by simp,AB r fs];exact q
 ·obtain⟨its,r,pl,hz⟩:=I.tuple hq
  refine SeqAt.in_tupleAt (eqU x) pl (fun w hw=>CH rx fx r fs w (by simpa using hw)) ⟨.bl _,H,I,rfl,?_⟩;rw[show its.toArray.any (eqU x)=its.any (eqU x) by simp,AB r fs];exact q
theorem wD:eY X (.builtin "len") (fun xs H Q=>∃ p ys,xs=[.ref p]/\(SqL X.K H p ys\/SqT X.K H p ys)/\Q (.int ys.length) H):=by
 intro pins s σ H xs us Q I r h;obtain⟨p,ys,rfl,hq,q⟩:=h;obtain⟨u,rfl,rx⟩:=gD r;cases rx;have hn:=nP;rcases hq with hq | hq
 ·obtain⟨its,r',pl,hz⟩:=I.list hq
  have hlen:=r'.length;exact Calls.call_len_list pl.isList (by simp only[aIr]<;>lia) ⟨.int ys.length,H,I.tok _,⟨s.toks+1,by rw[aIr,hlen]⟩,q⟩
 ·obtain⟨its,r',pl,hz⟩:=I.tuple hq
  have hlen:=r'.length;exact len_tuple pl (by simp only[aIr]<;>lia) ⟨.int ys.length,H,I.tok _,⟨s.toks+1,by rw[aIr,hlen]⟩,q⟩
theorem SK:eY X (.builtin "len") (fun xs H Q=>∃ z,xs=[.str z]/\z.length<=sizeLine/\Q (.int z.length) H):=by
 intro pins s σ H xs us Q I r h;obtain⟨z,rfl,hz,q⟩:=h;obtain⟨u,rfl,t,rfl⟩:=gD r;have hn:=nP;exact len_str (by lia) ⟨.int z.length,H,I.tok _,⟨_,rfl⟩,q⟩
def tyV (K : PySem.W.Frag) (T : String) (x : V) (H : Hp) : Prop := match x with
 | .str _ => T = "str"
 | .int _ => T = "int"
 | .ref p => (T = "list" /\ ∃ xs, SqL K H p xs) \/ (T = "tuple" /\ ∃ o, K.lookup p = some o /\ o.cls = .type "tuple" /\ o.dict = none) \/
   (T = "dict" /\ ((∃ kvs, H p = some (.dK kvs)) \/ ∃ kvs, H p = some (.dT kvs))) \/ (T = "set" /\ ∃ S n, H p = some (.set S n))
 | _ => False
theorem OO {pins:List (Addr × Obj)}{σ:St}{H:Hp}{s:Shared}{T:String}{x:V}{v:Value}(I:Inv X pins σ H s) (r:aX x v) (ty:tyV X.K T x H):
  s.TypeIs v T/\∀ a,v=.ref a->∃ ob,s.heap.get? a=some ob/\ob.dict=none:=by
 cases x with
 | str z=>
  obtain⟨t,rfl⟩:=r;cases (show T = "str" from ty);exact⟨typeIs_str s z t,fun _ e=>nomatch e⟩
 | int i=>
  obtain⟨t,rfl⟩:=r;cases (show T = "int" from ty);exact⟨typeIs_int s i t,fun _ e=>nomatch e⟩
 | ref p=>
  cases r;rcases ty with ⟨rfl,xs,hq⟩ | ⟨rfl,o,hk,hc,hd⟩ | ⟨rfl,hk⟩ | ⟨rfl,S,n,hk⟩
  ·obtain⟨its,_,pl,_⟩:=I.list hq
   refine⟨pl.isList.typeIs,fun a e=>?_⟩;cases e;obtain⟨o,n,e,c,hd,_⟩:=pl;exact⟨o,e,hd⟩
  ·refine⟨⟨o,I.kIn p o hk,hc⟩,fun a e=>?_⟩
   cases e;exact⟨o,I.kIn _ o hk,hd⟩
  ·have z:∃ o,s.heap.get? p=some o/\o.ExactDict:=by
    rcases hk with ⟨kvs,hk⟩ | ⟨kvs,hk⟩
    ·obtain⟨_,_,_,_,o,_,_,e,ex,_⟩:=I.hok p _ hk
     exact⟨o,e,ex⟩
    ·obtain⟨_,_,_,_,o,_,_,e,ex,_⟩:=I.hok p _ hk
     exact⟨o,e,ex⟩
   obtain⟨o,e,ex⟩:=z;refine⟨⟨o,e,ex.1⟩,fun a e2=>?_⟩;cases e2;exact⟨o,e,ex.2.1⟩
  ·obtain⟨o,_,_,_,e,ex,_⟩:=I.hok p _ hk
   refine⟨⟨o,e,ex.1⟩,fun a e2=>?_⟩;cases e2;exact⟨o,e,ex.2.1⟩
 | _=>exact False.elim ty
def aF5 (K:PySem.W.Frag) (T:String) (r:V->List V->Hp->VK->Prop) (to:TE):TE:=fun σ H Q=>to σ H fun x H1=>tyV K T x H1/\r x [] H1 Q
def tBM (K:PySem.W.Frag) (T:String) (r:V->List V->Hp->VK->Prop) (to:TE) (t:TA):TE:=fun σ H Q=>to σ H fun x H1=>tyV K T x H1/\t σ H1 fun xs H2=>r x xs H2 Q
variable {o e:Expr}{es:List Expr}{to:TE}{t:TA}{name:Str}{apos cpos:Pos}{T id:String}{r:V->List V->Hp->VK->Prop}
theorem aCb (pa:PlainAttrs T) (slot:Slot T name id) (hty:typeOf (.builtin id)=pure (.type "method_descriptor")) (hm:MtR X id r) (ho:PE X o to)
  (hbase:attributeBase o name X.env (eval o X.env)=eval o X.env:=by rfl) (hline:(apos.endLine == cpos.line)=true:=by rfl):PE X (.Call (.Attribute o name apos) [] [] cpos) (aF5 X.K T r to):=by
 intro pins s σ H Q I h;refine wpAny_Call_method0_late hbase hline (thn (ho pins s σ H _ I h) fun v s1 ⟨x,H1,I1,r1,ty,q1⟩=>?_);obtain⟨h1,h2⟩:=OO I1 r1 ty;exact⟨T,id,pa,slot,hty,h1,h2,Calls.callWith_builtin rfl (PySem.evalArgs_none (hm pins s1 σ H1 x [] v [] Q I1 r1 .nil q1))⟩
theorem nS (pa:PlainAttrs T) (slot:Slot T name id) (hty:typeOf (.builtin id)=pure (.type "method_descriptor")) (hm:MtR X id r) (ho:PE X o to) (ha:PA X (e::es) t)
  (hbase:attributeBase o name X.env (eval o X.env)=eval o X.env:=by rfl)
  (hfew:((backTo cpos (starEach (e::es) X.env)).all (fun x=>!x.1)&&(backToKw cpos (keywordEach [] X.env)).all (fun x=>x.1.isSome)
   && decide ((e::es).length+([]:List Keyword).length+(if ([]:List Keyword).isEmpty then 0 else 1)<30))=true:=by rfl)
  (hline:(apos.endLine == cpos.line)=true:=by rfl) (hs:starEach (e::es) X.env=(false,eval e X.env)::starEach es X.env:=by rfl) (hplain:(backTo cpos (starEach es X.env)).any (·.1)=false:=by rfl):
  PE X (.Call (.Attribute o name apos) (e::es) [] cpos) (tBM X.K T r to t):=by
 intro pins s σ H Q I h;refine wpAny_Call_method_late hbase hfew hline rfl (thn (ho pins s σ H _ I h) fun v s1 ⟨x,H1,I1,r1,ty,q1⟩=>?_);obtain⟨h1,h2⟩:=OO I1 r1 ty;refine⟨T,id,pa,slot,hty,h1,h2,?_⟩;have hA:=ha cpos pins s1 σ H1 _ I1 q1;rw[hs] at hA ⊢;refine Calls.callWith_builtin (by show (false||(backTo cpos (starEach es X.env)).any (·.1))=false;rw[hplain]<;>rfl) (Calls.evalArgs_plain ?_)
 exact thn hA fun us s2 ⟨vs,H2,I2,r2,q2⟩=>hm pins s2 σ H2 x vs v us Q I2 r1 r2 q2
end
def MtM (X:Cx) (id:String) (r:V->List V->Hp->VK->Prop):Prop:=
 ∀ (pins:List (Addr × Obj)) (s:Shared) (σ:St) (H:Hp) (x:V) (xs:List V) (v:Value) (us:List Value) (Q:VK),Inv X pins σ H s->aX x v->aL xs us->r x xs H Q ->
  wpAny (model X.prog X.w) X.A (call (.builtin id) (v::us)) (EP X pins σ Q) X.xe s
theorem aL.one:∀ {x:V}{us:List Value},aL [x] us->∃ u,us=[u]/\aX x u
 | _,_,.cons r .nil=>⟨_,rfl,r⟩
theorem aL.two:∀ {x y:V}{us:List Value},aL [x,y] us->∃ u v,us=[u,v]/\aX x u/\aX y v
 | _,_,_,.cons r (.cons q .nil)=>⟨_,_,rfl,r,q⟩
theorem aL.rep {xs:List V}{us:List Value}(h:aL xs us):∀ k:Nat,aL (List.replicate k xs).flatten (List.replicate k us).flatten
 | 0=>.nil
 | k+1=>by
  rw[aK9,aK9,List.flatten_cons,List.flatten_cons];exact aL.append h (aL.rep h k)
theorem IT (its:List Value):∀ (k:Nat) (acc:List Value),
  List.foldl (fun x1 x2=>x1++x2) acc.toArray (List.replicate k its.toArray)=(acc++(List.replicate k its).flatten).toArray
 | 0,acc=>by simp
 | k+1,acc=>by
  have e:acc.toArray++its.toArray=(acc++its).toArray:=by simp
  have e2:(acc++its)++(List.replicate k its).flatten=acc++(List.replicate (k+1) its).flatten:=by
   rw[aK9,List.flatten_cons,aJ8]
  rw[<- e2,<- IT its k (acc++its),<- e,aK9,List.foldl_cons]
section
variable {X:Cx}{pins:List (Addr × Obj)}{σ:St}{H:Hp}{s:Shared}{l b:Addr}{xs ys zs:List V}
theorem Inv.lset {its its':List Value}{n:Nat}{f:Array Value->Array Value}{t':Nat}(I:Inv X pins σ H s) (hH:H l=some (.lst xs))
  (e:s.heap.get? l=some { cls:=.type "list",data:=.seq its.toArray n }) (hf:f its.toArray=its'.toArray) (hv:aL ys its') (hz:ys.length<=sizeLine):
  Inv X pins σ (upd H l (.lst ys)) { s with heap:=s.heap.update l (Obj.mapSeq f),toks:=t' }:=by
 have q:=PySem.IsL.update e f;rw[hf] at q;refine I.write (x:=l) (e:=l) (by rw[hH];exact trivial) (.inl rfl) (fun b' u hb hu=>(Heap.get?_update_other s.heap (Obj.mapSeq f) (Ne.symm hb)).trans hu) ⟨_,q⟩ ?_;exact⟨hz,its',_,hv,q⟩
theorem Inv.lnew {its:List Value}{t':Nat}(I:Inv X pins σ H s) (hv:aL ys its) (hz:ys.length<=sizeLine):
  Inv X pins σ (upd H s.heap.objs.size (.lst ys)) { s with heap:=s.heap.push { cls:=.type "list",data:=.seq its.toArray },toks:=t' }:=
 I.laid (fun _ _ q=>aIt _ q) (aKe _) ⟨hz,its,0,hv,aJ2 _ rfl⟩
theorem Inv.fresh (I:Inv X pins σ H s):H s.heap.objs.size=none:=I.hok.fresh (aKe _)
theorem Inv.lstM (I:Inv X pins σ H s) (hH:H l=some (.lst xs)):xs.length<=sizeLine/\∃ (its:List Value) (n:Nat),aL xs its/\xs.length=its.length/\s.heap.get? l=some { cls:=.type "list",data:=.seq its.toArray n }:=by
 obtain⟨z,its,n,r,e⟩:=I.hok l _ hH;exact⟨z,its,n,r,r.length,e⟩
theorem aA2 {n:Nat}(h:n<=sizeLine):Builtin.List.listTooLong n=false:=by
 unfold Builtin.List.listTooLong;exact decide_eq_false (by lia)
end
section
variable {X:Cx}
def aD3:V->List V->Hp->VK->Prop:=fun x vs H Q=>∃ l xs y,x=.ref l/\vs=[y]/\H l=some (.lst xs)/\xs.length<sizeLine/\Q .non (upd H l (.lst (xs++[y])))
theorem CK:MtM X "list.append" aD3:=by
 intro pins s σ H x vs v us Q I rx rv h;obtain⟨l,xs,y,rfl,rfl,hH,hz,q⟩:=h;cases rx;obtain⟨u,rfl,ru⟩:=rv.one;obtain⟨z,its,n,r,hl,e⟩:=I.lstM hH;refine call_meets F.slot_list_append ⟨_,e,rfl⟩ F.entry_list_append (F.args_list_append_2 _ _) (PySem.list_append l its.toArray n u (by rw[aIr];lia)) ⟨e,?_⟩;refine⟨.non,_,I.lset (its':=its++[u]) hH e (by simp) (r.append (.cons ru .nil)) ?_,rfl,q⟩;rw[aJn,aJu];lia
def aD6:R2:=fun x y H Q=>∃ l k xs,x=.ref l/\y=.int k/\H l=some (.lst xs) /\ -(2^63)<=k/\k<2^63/\xs.length*k.toNat<=sizeLine /\
 ∀ p,H p=none->Q (.ref p) (upd H p (.lst (List.replicate k.toNat xs).flatten))
theorem YT {α:Type}(xs:List α) (k:Nat):(List.replicate k xs).flatten.length=k*xs.length:=by
 induction k with
 | zero=>simp
 | succ k ih=>rw[aK9,List.flatten_cons,aJn,ih,Nat.succ_mul,Nat.add_comm]
theorem aC2:OpR X (binaryOp .Mult) aD6:=by
 intro pins s σ H x y v u Q I rx ry h;obtain⟨l,k,xs,rfl,rfl,hH,h1,h2,hz,q⟩:=h;cases rx;obtain⟨t,rfl⟩:=ry;obtain⟨z,its,n,r,hl,e⟩:=I.lstM hH;have hlen:its.toArray.size*k.toNat<=sizeLine:=by rw[aIr,<- hl];exact hz
 have hcap:¬ its.toArray.size*k.toNat > (2^63-1) / 8:=by
  have:(sizeLine:Nat)<=(2^63-1) / 8:=by decide
  lia
 have hfit:¬ (!Builtin.List.listFitsIndex k)=true:=by
  rw[fitsIndex_both h1 h2];exact aJ1
 have hlong:¬ Builtin.List.listTooLong (its.toArray.size*k.toNat)=true:=by
  rw[aA2 hlen];exact aJ1
 have hnew:List.foldl (fun x1 x2=>x1++x2) #[] (List.replicate (if its.toArray.isEmpty=true then 0 else k.toNat) its.toArray)=(List.replicate k.toNat its).flatten.toArray:=by
  have f0:∀ m:Nat,List.foldl (fun x1 x2=>x1++x2) #[] (List.replicate m its.toArray)=(List.replicate m its).flatten.toArray:=fun m=>by
   have:=IT its m [];rw[List.nil_append] at this;exact this
  rw[f0];cases its with
  | nil=>simp
  | cons a r'=>rw[if_neg (by simp)]
 refine wpAny_binaryOp_repeat_ref (T := "list") (U := "int") (by decide) ⟨_,e,rfl⟩ (fun s'=>typeIs_int s' k t) noFill_list_mul F.fills_int_mul F.slot_int_rmul repeat_list F.slot_int_index.lookup
  (call_meets F.slot_int_rmul (typeIs_int s k t) F.entry_int_rmul (F.args_int_rmul_2 _ _) (int___rmul___int_list k t l its.toArray n)
   ⟨e,rfl,⟨_,e,rfl⟩,call_meets F.slot_list_mul ⟨_,e,rfl⟩ F.entry_list_mul (F.args_list_mul_2 _ _) (AutoListH.list___mul___list_int_3 l its.toArray n k t hfit hcap hlong) ⟨e,?_⟩⟩)
 rw[hnew];exact⟨.ref _,_,I.lnew (t':=s.toks) (r.rep k.toNat) (by rw[YT,Nat.mul_comm];exact hz),rfl,q _ I.fresh⟩
end
section
variable {prog:Program}{w:World}{A:Around}{E:Value->Shared->Prop}{s:Shared}
set_option maxRecDepth 100000 in
end
section
variable {X:Cx}
end
end L2
namespace Att
open PySem PySem.W PySem.Calls PyProof.Rows
theorem XY {P:Params}{h:Heap}:∀ (ns:List Int) (vs:List Value),WellAll P h vs (ns.map WData.int)->IntsAre vs ns:=by
 intro ns
 induction ns with
 | nil=>
  intro vs w;rw[aK0] at w;cases w;exact .nil
 | cons n ns ih=>
  intro vs w;rw[aJy] at w;cases w with
  | cons a b=>
   cases a;exact .cons _ _ (ih _ b)
theorem aEb {l:OpenLaw}{n:Nat}(hn:l.most=some n) {P:Params}{h:Heap}{args:List WData}{vals:List Value}
  (hpre:l.row.toRowW.claim.pre args=true) (hwl:WellAll P h vals args):
  ∃ a vs ns,vals=[Value.ref a]/\args=[WData.list (ns.map WData.int)]/\h.get? a=some { cls:=.type "list",data:=.seq vs.toArray }/\IntsAre vs ns/\ns.length<=n:=by
 have hsh:WShape.hasAll [] args [.list .int]=true:=(pre_splitW hpre).1;have hc:l.pre.holds [] { args:=args }=true:=(pre_splitW hpre).2;obtain⟨d,r,rfl,h1,h2⟩:=hasAllW_cons hsh;obtain rfl:=hasAllW_nil h2;obtain⟨xs,rfl,h3⟩:=hasW_list h1;obtain⟨ns,rfl⟩:=items_int h3;have hlen:ns.length<=n:=by
  unfold OpenLaw.pre at hc;have h4:(WTm.not (.lt (.lit (.int (n:Int))) (.len (.arg 0)))).holds [] { args:=[.list (ns.map .int)] }=true:=by
   have h4:=(holds_andW hc).1;rw[hn] at h4;exact h4
  have h5:=condW_of h4 (w_not (w_lt w_lit (w_len_list (w_arg rfl))));rw[aJq] at h5;refine Nat.le_of_not_lt fun q=>?_;have q':(n:Int)<((ns.length:Nat):Int):=by lia
  first
   | (rw[decide_eq_true q'] at h5;exact absurd h5 (by decide))
   | (simp at h5;lia)
 cases hwl with
 | cons w1 w2=>
  cases w2;cases w1 with
  | list ho hall=>exact⟨_,_,ns,rfl,rfl,ho,XY ns _ hall,hlen⟩
theorem aCu (l:OpenLaw) (args:List WData):l.row.toRowW.claim.post args (.bool true) args=true:=
 postW_of (r:=l.row.toRowW) (X:=(true == true))
  (show WShape.has [] (.bool true) .bool=true by first | rfl | decide | simp[WShape.has,WShape.arms,WShape.armsAll])
  (show (WTm.eq .res (.lit (.bool true))).value [] { args:=args,res:=some (.bool true),after:=args }=some (.bool (true == true)) from w_eq_bool (w_res rfl) w_lit) rfl
theorem attach_call {l:OpenLaw}{n:Nat}{q:Program}{loose:List Str}{XP:(Str->Option Value)->Heap->Prop}{YP:World->Heap->Prop}{d:DefRec}
  (hn:l.most=some n) (hdf:d.params.defaults=[])
  (call:∀ (w:World) (s₀ s₁:Shared) (mg mb:Str->Option Value) (fa:Addr) (o:Obj) (pm cd doc:Value) (a:Addr) (vs:List Value) (ns:List Int),
   Ground q loose [] XP w s₀ mg mb s₁.heap->YP w s₁.heap ->
   s₁.heap.get? fa=some o->o.data=.func (docDef d.name d.params d.body d.scope pm cd doc)->s₁.heap.CodeRec cd d.name->mg d.name=some (.ref fa) ->
   s₁.heap.get? a=some { cls:=.type "list",data:=.seq vs.toArray }->IntsAre vs ns->ns.length<=n->s₁.gens=#[] ->
   codeAny (model l.prog w) callerA (.call (.ref fa) ⟨[.ref a],[]⟩) (fun r s'=>r=.ok (.ret (.bool true))/\OldK s₁.heap s'.heap/\s'.os=s₁.os/\AllBare s'.gens) s₁):
  WalkO q loose XP YP l.row.toRowW d [] (fun f vs=>PySem.call f vs):=by
 intro w s₀ s₁ mg mb G Y fa o pm cd doc dV kV ho hd hcd hD hmg hg args vals as hpre hlay hrd hwl hlo;obtain rfl:dV=.none:=Dflts.none hD hdf;obtain rfl:kV=.none:=Dflts.noKw hD;obtain⟨a,vs,ns,rfl,rfl,hobj,hints,hlen⟩:=aEb hn hpre hwl;refine enter_call (codeAny_mono (call w s₀ s₁ mg mb fa o pm cd doc a vs ns G Y ho (fd_plain hd) hcd hmg hobj hints hlen hg) fun r s' hq=>?_);obtain⟨rfl,h2,h3,h4⟩:=hq;exact⟨.inl ⟨.bool true,.bool true,[],rfl,fun _=>rfl,.bool true,aCu l _,fun _=>⟨List.Pairwise.nil,fun _ hm=>(nomatch hm)⟩⟩,h2,h3,h4⟩
section
variable {prog:Program}{w:World}{A:Around}{E:Value->Shared->Prop}{s:Shared}{K:Frag}
end
end Att
namespace L2
open PySem PySem.Spec PyProof.Rows
theorem OR:∀ {vs:List Value}{ns:List Int},IntsAre vs ns->aL (ns.map V.int) vs
 | _,_,.nil=>.nil
 | _,_,.cons n t h=>.cons ⟨t,rfl⟩ (OR h)
def zW (H:Hp):Prop:=∀ b,H b=none\/∃ o xs,H b=some (.frz o (.lst xs))
theorem YQ {P:Program}{w:World}{K:PySem.W.Frag}{mg mb:Str->Option Value}{CX:CXT}{k:Nat}{fa a:Addr}{fd:FuncData}{x:Str}{sp:Sp}{s₁:Shared}{vs:List Value}{ns:List Int}
  (KX:K.In s₁.heap) (hns:s₁.heap.Ns mainGlobals mg) (hb:s₁.heap.Ns builtinsNs mb) (hbb:∀ x:Str,x ≠ "__name__" -> mb x=bootBuiltins x) (hlim:s₁.heap.NoLimit) (hdig:s₁.heap.NoDigits) (hg:s₁.gens=#[])
  (ha:s₁.heap.get? a=some { cls:=.type "list",data:=.seq vs.toArray }) (hi:IntsAre vs ns) (hl:ns.length<=sizeLine) (hr:Room k callerA)
  (F:∀ base:Heap,K.In base->base.Ns mainGlobals mg->FnOk P w K mg base CX k fa fd [x] sp) (hbind:∀ (s:Shared) (u:Value),BindsTo s fd ⟨[u],[]⟩ [(x,u)])
  (hsp:∀ H:Hp,zW H->SqL K H a (ns.map V.int)->sp [.ref a] H (fun v _=>v=.bl true) fun _ _ _=>False)
  (hCX:∀ H e s',CX [] H s₁ (fun _ _ _=>False) e s'->False):
  codeAny (model P w) callerA (.call (.ref fa) ⟨[.ref a],[]⟩) (fun r s'=>r=.ok (.ret (.bool true))/\OldK s₁.heap s'.heap/\s'.os=s₁.os/\AllBare s'.gens) s₁:=by
 have rv:=OR hi;have lenV:=hi.length;have core:∀ H:Hp,zW H->SqL K H a (ns.map V.int)->HOk P w H s₁.heap->(∀ b,H b≠none->b=a)->(H a≠none->K.lookup a=none) ->
   codeAny (model P w) callerA (.call (.ref fa) ⟨[.ref a],[]⟩) (fun r s'=>r=.ok (.ret (.bool true))/\OldK s₁.heap s'.heap/\s'.os=s₁.os/\AllBare s'.gens) s₁:=by
  intro H hO hS hok hA hK;have base_of:∀ {b:Addr} {o:Obj},s₁.heap.get? b=some o->H b=none->(kG s₁.heap H).get? b=some o:=fun e n=>XF e n;have noA:∀ {b:Addr} {o:Obj} {es:Array DictEntry} {ep:Nat},s₁.heap.get? b=some o->o.data=.dict es ep->H b=none:=fun {b o es ep} e d=>by
   cases q:H b with
   | none=>rfl
   | some u=>
    have e':b=a:=hA b (by rw[q];simp);subst e';rw[ha] at e;cases e;have d':Data.seq vs.toArray _=Data.dict es ep:=d;cases d'
  have nsK:∀ {b:Addr} {m:Str->Option Value},s₁.heap.Ns b m->(kG s₁.heap H).Ns b m:=fun {b m} ⟨o,es,ep,e,d,r⟩=>⟨o,es,ep,base_of e (noA e d),d,r⟩;have hKb:K.In (kG s₁.heap H):=fun b o e=>base_of (KX b o e) (by
   cases q:H b with
   | none=>rfl
   | some u=>
    have e':b=a:=hA b (by rw[q];simp);subst e';rw[hK (by rw[q];simp)] at e;cases e)
  have hM:Mod K mg (kG s₁.heap H):=⟨hKb,nsK hns,⟨mb,nsK hb,hbb⟩,let ⟨mc,h1,h2⟩:=hlim;⟨mc,nsK h1,h2⟩,let ⟨mc,h1,h2⟩:=hdig;⟨mc,nsK h1,h2⟩⟩;have e0:Env0 P w K mg (kG s₁.heap H) callerA [] s₁ H:=⟨rfl,hM,fun b o e=>aAd e,Nat.le_of_eq (XG _ _),trivial,fun b hb=>absurd (show b∈([]:List Addr) from hb) (by simp),hok,.of_eq hg⟩;refine codeAny_mono ((F _ hKb (nsK hns)).run callerA [] s₁ H ⟨[.ref a],[]⟩ [.ref a] [.ref a] _ _ hr e0 (hbind s₁ (.ref a)) (.cons rfl .nil) (hsp H hO hS)) fun r s' h=>?_;cases r with
  | error e=>exact (hCX H e s' h).elim
  | ok fl=>
   cases fl with
   | next=>exact False.elim h
   | brk=>exact False.elim h
   | cont=>exact False.elim h
   | ret u=>
    obtain⟨v,H',os,bare,un,hok',r',q⟩:=h;have q':v=.bl true:=q;subst q';obtain rfl:u=Value.bool true:=r';refine⟨rfl,OldK.of_keep fun b o e=>?_,os,bare⟩;cases q:H b with
    | none=>exact un.keep b o e q (by intro z;exact absurd (show b∈([]:List Addr) from z) (by simp)) (by simp)
    | some u=>
     rcases hO b with z | ⟨ob,xs,z⟩
     ·rw[q] at z;cases z
     ·have z2:=un.frzs b ob _ z
      obtain⟨e1,_⟩:=hok b _ z;obtain⟨e2,_⟩:=hok' b _ z2;rw[e] at e1;cases e1;exact e2
 cases hk:K.lookup a with
 | some o=>
  have e:=KX a o hk;rw[ha] at e;cases e;refine core (fun _=>none) (fun _=>.inl rfl) (.inr ⟨_,vs.toArray,_,hk,rfl,rfl,rfl,by rw[aIr,lenV];exact hl,by simpa using rv⟩) (fun b u z=>by have z':(none:Option HO)=some u:=z;cases z') (fun b z=>absurd rfl z) fun z=>absurd rfl z
 | none=>
  refine core (fun b=>if b=a then some (.frz { cls:=.type "list",data:=.seq vs.toArray } (.lst (ns.map V.int))) else none) (fun b=>?_) (.inl (.inr ⟨{ cls:=.type "list",data:=.seq vs.toArray },if_pos rfl⟩)) (fun b u z=>?_) (fun b z=>?_) fun _=>hk
  ·by_cases hb:b=a
   ·exact .inr ⟨_,_,if_pos hb⟩
   ·exact .inl (if_neg hb)
  ·by_cases hb:b=a
   ·have z':=(if_pos hb).symm.trans z
    cases z';subst hb;exact⟨ha,by rw[aJq];exact hl,vs,_,rv,ha⟩
   ·have z':=(if_neg hb).symm.trans z
    cases z'
  ·by_cases hb:b=a
   ·exact hb
   ·exact absurd (if_neg hb) z
theorem walk_of {l:PySem.W.OpenLaw}{n k:Nat}{q:Program}{loose:List Str}{XP:(Str->Option Value)->Heap->Prop}{YP:World->Heap->Prop}{d:DefRec}{K:Params->PySem.W.Frag}{CX:World->CXT}{sp:World->Sp}{x:Str}
  (hn:l.most=some n) (hn2:n<=sizeLine) (hdf:d.params.defaults=[]) (hr:Room k callerA)
  (hY:∀ (w:World) (h:Heap),YP w h->(K w.params).In h)
  (F:∀ (w:World) (mg:Str->Option Value) (fa:Addr) (h:Heap),(K w.params).In h->h.Ns mainGlobals mg->mg d.name=some (.ref fa) ->
   ∃ fd:FuncData,(∀ (s:Shared) (u:Value),BindsTo s fd ⟨[u],[]⟩ [(x,u)]) /\
    ∀ base:Heap,(K w.params).In base->base.Ns mainGlobals mg->FnOk l.prog w (K w.params) mg base (CX w) k fa fd [x] (sp w))
  (hsp:∀ (w:World) (H:Hp) (a:Addr) (ns:List Int),ns.length<=n->zW H->SqL (K w.params) H a (ns.map V.int)->sp w [.ref a] H (fun v _=>v=.bl true) fun _ _ _=>False)
  (hCX:∀ (w:World) (H:Hp) (s:Shared) (e:Value) (s':Shared),CX w [] H s (fun _ _ _=>False) e s'->False):
  PySem.W.WalkO q loose XP YP l.row.toRowW d [] (fun f vs=>PySem.call f vs):=by
 refine Att.attach_call hn hdf fun w s₀ s₁ mg mb fa o pm cd doc a vs ns G Y ho hd hcd hmg hobj hints hlen hg=>?_;have KX:=hY w _ Y;obtain⟨fd,hb,hF⟩:=F w mg fa _ KX G.T.g hmg;exact YQ KX G.T.g G.T.b G.T.builtins G.T.nolimit G.T.nodigits hg hobj hints (aKf hlen hn2) hr hF hb (fun H hO hS=>hsp w H a ns hlen hO hS) fun H e s'=>hCX w H s₁ e s'
def inClass (s:Stmt) (j:Nat):Stmt:=match s with
 | .ClassDef _ _ _ body _ _ _ _ _ _ _=>body.getD j (.Pass ⟨0,0,0,0⟩)
 | _=>.Pass ⟨0,0,0,0⟩
def defArgs (s:Stmt):Arguments:=match s with
 | .FunctionDef _ a _ _ _ _ _ _ _ _=>a
 | _=>{ posonlyargs:=[],args:=[],vararg:=none,kwonlyargs:=[],kw_defaults:=[],kwarg:=none,defaults:=[] }
def defBody (s:Stmt):List Stmt:=match s with
 | .FunctionDef _ _ b _ _ _ _ _ _ _=>b
 | _=>[]
def defScope (s:Stmt):Scope:=match s with
 | .FunctionDef _ _ _ _ _ _ sc _ _ _=>sc
 | _=>{ kind:=.function,names:=[],isGenerator:=false,isCoroutine:=false }
abbrev CX0:CXT:=fun _ _ _ _ _ _=>False
abbrev E0:XK:=fun _ _ _=>False
theorem fX {X:Cx}:rS CX0 X E0:=fun _ _ _ _ _ _ _ h=>h.elim
structure Fun (K:PySem.W.Frag) (x qual:Str) (st:Stmt) (f:Addr) (fd:FuncData):Prop where
 ex:∃ (oc:Value) (od:Option Addr) (kV doc pm:Value) (an:Option Addr) (cdv ct:Value) (osl:Array (Option Value)),
  fd=PySem.W.fnOf x qual (defArgs st) (defBody st) (defScope st) .none kV doc pm an cdv ct/\K.lookup f=some ⟨oc,od,.func fd,osl⟩/\PySem.W.codeIn K cdv qual=true
 kp:PySem.W.keepIn K (.ref f)=true
section
variable {P:Program}{w:World}{K:PySem.W.Frag}{mg:Str->Option Value}{base:Heap}
theorem Fun.ok {x qual:Str}{st:Stmt}{f:Addr}{fd:FuncData}{N ps:List Str}{k:Nat}{sp:Sp}(F:Fun K x qual st f fd) (S:FnScope N ps (defScope st)) (len:∀ vs H Q E,sp vs H Q E->vs.length=ps.length)
  (hbody:∀ (cdv:Value) (A:Around) (outer:List Env) (s:Shared) (H:Hp) (vs:List V) (Q:VK) (E:XK),Room k (A.deeper (envOfC qual (defScope st) s.heap.objs.size f cdv))->sp vs H Q E ->
   ∃ t,PSs (bB CX0 P w K mg base N qual (defScope st) f cdv A outer s H E).nox (defBody st) t/\t { nx:=fun _ H'=>Q .non H',rt:=Q } (start N vs) H):FnOk P w K mg base CX0 (k+1) f fd ps sp:=by
 obtain⟨oc,od,kV,doc,pm,an,cdv,ct,osl,rfl,lk,hcd⟩:=F.ex;refine VB lk hcd S len fun A outer s H vs Q E hr hsp=>?_;obtain⟨t,h,q⟩:=hbody cdv A outer s H vs Q E hr hsp;exact⟨t,h.nox,q⟩
theorem Fun.binds {x qual:Str}{st:Stmt}{f:Addr}{fd:FuncData}{ps:List Str}(F:Fun K x qual st f fd)
  (h:∀ (kV doc pm:Value) (an:Option Addr) (cdv ct:Value) (us:List Value),us.length=ps.length->bindArgs (PySem.W.fnOf x qual (defArgs st) (defBody st) (defScope st) .none kV doc pm an cdv ct) ⟨us,[]⟩=pure (ps.zip us)):eF K fd ps []:=by
 obtain⟨oc,od,kV,doc,pm,an,cdv,ct,osl,rfl,lk,hcd⟩:=F.ex;exact .all (h kV doc pm an cdv ct)
theorem bF {x qual:Str}{st:Stmt}{f:Addr}{oc:Value}{od an:Option Addr}{osl:Array (Option Value)}{kV doc pm cdv ct:Value}(l:K.lookup f=some ⟨oc,od,.func (PySem.W.fnOf x qual (defArgs st) (defBody st) (defScope st) .none kV doc pm an cdv ct),osl⟩)
  (c:PySem.W.codeIn K cdv qual=true) (k:PySem.W.keepIn K (.ref f)=true):Fun K x qual st f (PySem.W.fnOf x qual (defArgs st) (defBody st) (defScope st) .none kV doc pm an cdv ct):=⟨⟨oc,od,kV,doc,pm,an,cdv,ct,osl,rfl,l,c⟩,k⟩
end
section
variable {X:Cx}
theorem pv (i:Nat) {x:Str}{pos:Pos}(hN:X.N[i]?=some x:=by rfl) (hv:Vis X.env.scope x:=by first | exact Or.inl rfl | exact Or.inr (Or.inl rfl) | exact Or.inr (Or.inr rfl)) (hd:(x == ("__debug__" : Str))=false:=by decide)
  (hcd:(x == ("__classdict__" : Str))=false:=by decide):PE X (.Name x pos) (OF i):=aCi hN hv hd hcd
end
theorem cY {A B:Prop}(h:B):if false=true then A else B:=by
 rw[if_neg aJ1];exact h
theorem fS {A B:Prop}(h:A):if true=true then A else B:=by
 rw[if_pos rfl];exact h
def aK (H H':Hp):Prop:=∀ b o,H b=some o->H' b=some o
theorem aK.refl (H:Hp):aK H H:=fun _ _ h=>h
theorem aK.trans {H H1 H2:Hp}(a:aK H H1) (b:aK H1 H2):aK H H2:=fun c o h=>b c o (a c o h)
theorem aK.free {H H':Hp}(e:aK H H') {l:Addr}(h:H' l=Option.none):H l=Option.none:=by
 cases q:H l with
 | none=>rfl
 | some o=>
  rw[e l o q] at h;cases h
section
variable {κ:Type} [DecidableEq κ]
end
abbrev KT (H:Hp):List (List Key × V)->List (List Key × Addr × Value)->Prop:=Paired fun p q=>p.1=q.1/\H q.2.1=some (.tup (p.1.map kV))/\aX p.2 q.2.2
section
variable {P:Program}{w:World}{H:Hp}{h:Heap}{a:Addr}
end
section
variable {X:Cx}{pins:List (Addr × Obj)}{σ:St}{H:Hp}{s:Shared}{a:Addr}{y v:V}{u r:Value}{o:Option V}{A:Around}{E:Value->Shared->Prop}
end
section
variable {X:Cx}{pins:List (Addr × Obj)}{σ:St}{H:Hp}{s:Shared}{a:Addr}{kvs:List (Key × V)}{k:Key}{u:Value}{A:Around}{E:Value->Shared->Prop}
end
section
variable {X:Cx}{o i e value:Expr}{pos pos' tpos:Pos}{td ty tv:TE}
end
section
variable {X:Cx}{pos:Pos}
end
structure M1 (X:Cx) (o:Expr) (m:Str) (apos:Pos) (e:Expr) (cpos:Pos):Prop where
 base:attributeBase o m X.env (eval o X.env)=eval o X.env
 few:((backTo cpos (starEach [e] X.env)).all (fun x=>!x.1)&&(backToKw cpos (keywordEach [] X.env)).all (fun x=>x.1.isSome)
  && decide (([e]:List Expr).length+([]:List Keyword).length+(if ([]:List Keyword).isEmpty then 0 else 1)<30))=true
 line:(apos.endLine == cpos.line)=true
 trees:backTo cpos (starEach [e] X.env)=[(false,eval e X.env)]
structure M2 (X:Cx) (o:Expr) (m:Str) (apos:Pos) (e f:Expr) (cpos:Pos):Prop where
 base:attributeBase o m X.env (eval o X.env)=eval o X.env
 few:((backTo cpos (starEach [e,f] X.env)).all (fun x=>!x.1)&&(backToKw cpos (keywordEach [] X.env)).all (fun x=>x.1.isSome)
  && decide (([e,f]:List Expr).length+([]:List Keyword).length+(if ([]:List Keyword).isEmpty then 0 else 1)<30))=true
 line:(apos.endLine == cpos.line)=true
 trees:backTo cpos (starEach [e,f] X.env)=[(false,eval e X.env),(false,eval f X.env)]
section
variable {X:Cx}{pins:List (Addr × Obj)}{σ:St}{H:Hp}{s:Shared}{a:Addr}{y d:V}{u r:Value}{o:Option V}{A:Around}{E:Value->Shared->Prop}
end
section
variable {X:Cx}{o e f:Expr}{apos cpos:Pos}{td ty tx:TE}
end
section
variable {X:Cx}{pins:List (Addr × Obj)}{σ:St}{H:Hp}{s:Shared}{a:Addr}{kvs:List (Key × V)}{A:Around}{E:Value->Shared->Prop}
end
section
variable {X:Cx}{pins:List (Addr × Obj)}{σ:St}{H:Hp}{s:Shared}{a:Addr}{y:V}{u:Value}{A:Around}{E:Value->Shared->Prop}
end
end L2
set_option maxHeartbeats 4000000
namespace L2
open PySem PySem.Spec PyProof.Rows
def AQ (a:Addr) (cls:Value):HO:=.ext fun h=>∃ oe vs,h.get? a=some oe/\oe.cls=cls/\oe.data=.fields vs
end L2
namespace G
open PySem PySem.Spec PyProof.Rows L2
abbrev St:=L2.St
inductive T where
 | non | bl (b : Bool) | int (i : Int) | str (x : Str) | lst (xs : List T) | tup (xs : List T)
 /-- an exception, by its class's name -/
 | exc (nm : Str)
 /-- a dict of ints, all of them to True -/
 | dct (ks : List Int)
 /-- a list that one name alone has, with all that lies in it (only in a slot that changes) -/
 | own (ts : List T)
abbrev Rho:=List (Option T)
def KL (K:PySem.W.Frag) (a:Addr) (xs:List V):Prop:=
 ∃ (o:Obj) (its:Array Value) (n:Nat),K.lookup a=some o/\o.cls=.type "list" /\ o.dict=none/\o.data=.seq its n/\its.size<=sizeLine/\aL xs its.toList
def KT (K:PySem.W.Frag) (a:Addr) (xs:List V):Prop:=
 ∃ (o:Obj) (its:Array Value) (n:Nat),K.lookup a=some o/\o.cls=.type "tuple" /\ o.data=.seq its n/\its.size<=sizeLine/\aL xs its.toList
def OV (K:PySem.W.Frag) (nm:Str) (C:Addr):Prop:=
 PySem.W.nsIn K mainGlobals nm=some (some (.ref C))/\(∀ a:Addr,PySem.W.KitX K (.ref a) (.ref C) (fun h=>∃ oe,h.get? a=some oe/\oe.cls=.ref C)) /\
 ∀ c∈(["int","bool","list","tuple","str"]:List String),PySem.W.kitOne K (.ref C) (.type c)=some false
def dkv (ks:List Int):List (Key × V):=ks.map fun k=>(.inl k,.bl true)
mutual
def Rep (K:PySem.W.Frag) (H:Hp) (A:Addr->Prop):T->V->Prop
 | .non,v=>v=.non
 | .bl b,v=>v=.bl b
 | .int i,v=>v=.int i
 | .str x,v=>v=.str x
 | .lst ts,v=>∃ a xs,v=.ref a/\((A a/\Rd H a (.lst xs))\/KL K a xs)/\RepL K H A ts xs
 | .tup ts,v=>∃ a xs,v=.ref a/\(Rd H a (.tup xs)\/KT K a xs)/\RepL K H A ts xs
 | .exc nm,v=>∃ (a C:Addr),v=.ref a/\OV K nm C/\Rd H a (AQ a (.ref C))
 | .dct ks,v=>∃ a,v=.ref a/\A a/\H a=some (.dK (dkv ks))
 | .own ts,v=>∃ a xs,v=.ref a/\A a/\H a=some (.lst xs)/\RepL K H A ts xs
def RepL (K:PySem.W.Frag) (H:Hp) (A:Addr->Prop):List T->List V->Prop
 | [],xs=>xs=[]
 | t::ts,xs=>∃ x r,xs=x::r/\Rep K H A t x/\RepL K H A ts r
end
theorem eX {H H':Hp}{a:Addr}{u:HO}(k:∀ o,H a=some o->H' a=some o) (h:Rd H a u):Rd H' a u:=by
 rcases h with h | ⟨o,h⟩
 ·exact .inl (k _ h)
 ·exact .inr ⟨o,k _ h⟩
abbrev Fix:={ u:HO // (∀ ys,u≠.lst ys)/\∀ ys,u≠.dK ys }
theorem fY {H:Hp}{a b:Addr}{xs ys:List V}{u:Fix}(ha:H a=some (.lst xs)) (h:Rd H b u.1):Rd (upd H a (.lst ys)) b u.1:=
 eX (fun o q=>by
  have:b≠a:=fun z=>by
   subst z;rcases h with h | ⟨o',h⟩<;>rw[ha] at h
   ·exact u.2.1 xs (aIi h).symm
   ·cases h
  rw[aU this];exact q) h
theorem aDf {H:Hp}{a:Addr}{u:HO}(h:Rd H a u):H a≠none:=by
 rcases h with h | ⟨o,h⟩<;>rw[h]<;>simp
section
variable {K:PySem.W.Frag}{H H':Hp}{A A':Addr->Prop}
mutual
theorem Rep.keep (kt:∀ b (u:Fix),Rd H b u.1->Rd H' b u.1) (k:∀ b o,A b->H b=some o->H' b=some o) (hA:∀ b,A b->H b≠none->A' b):∀ (t:T) {v:V},Rep K H A t v->Rep K H' A' t v
 | .non,_,h=>h
 | .bl _,_,h=>h
 | .int _,_,h=>h
 | .str _,_,h=>h
 | .lst ts,_,h=>by
  obtain⟨a,xs,e,c,r⟩:=h;refine⟨a,xs,e,?_,RepL.keep kt k hA ts r⟩;rcases c with ⟨c1,c2⟩ | c
  ·exact .inl ⟨hA a c1 (aDf c2),eX (fun o e=>k a o c1 e) c2⟩
  ·exact .inr c
 | .tup ts,_,h=>by
  obtain⟨a,xs,e,c,r⟩:=h;refine⟨a,xs,e,?_,RepL.keep kt k hA ts r⟩;rcases c with c | c
  ·exact .inl (kt a ⟨.tup xs,(fun _ z=>by cases z),fun _ z=>by cases z⟩ c)
  ·exact .inr c
 | .exc _,_,h=>by
  obtain⟨a,C,e,c,r⟩:=h;exact⟨a,C,e,c,kt a ⟨AQ a (.ref C),(fun _ z=>by cases z),fun _ z=>by cases z⟩ r⟩
 | .dct _,_,h=>by
  obtain⟨a,e,c,r⟩:=h;exact⟨a,e,hA a c (by rw[r];simp),k a _ c r⟩
 | .own ts,_,h=>by
  obtain⟨a,xs,e,c,r,q⟩:=h;exact⟨a,xs,e,hA a c (by rw[r];simp),k a _ c r,RepL.keep kt k hA ts q⟩
theorem RepL.keep (kt:∀ b (u:Fix),Rd H b u.1->Rd H' b u.1) (k:∀ b o,A b->H b=some o->H' b=some o) (hA:∀ b,A b->H b≠none->A' b):∀ (ts:List T) {xs:List V},RepL K H A ts xs->RepL K H' A' ts xs
 | [],_,h=>h
 | t::ts,_,h=>by
  obtain⟨x,r,e,h1,h2⟩:=h;exact⟨x,r,e,Rep.keep kt k hA t h1,RepL.keep kt k hA ts h2⟩
end
theorem Rep.grow {t:T}{v:V}(s:aK H H') (h:Rep K H A t v):Rep K H' A t v:=Rep.keep (fun b _ e=>eX (fun o q=>s b o q) e) (fun b o _ e=>s b o e) (fun _ x _=>x) t h
theorem RepL.grow {ts:List T}{xs:List V}(s:aK H H') (h:RepL K H A ts xs):RepL K H' A ts xs:=RepL.keep (fun b _ e=>eX (fun o q=>s b o q) e) (fun b o _ e=>s b o e) (fun _ x _=>x) ts h
theorem Rep.weak {t:T}{v:V}(f:∀ b,A b->A' b) (h:Rep K H A t v):Rep K H A' t v:=Rep.keep (fun _ _ e=>e) (fun _ _ _ e=>e) (fun b x _=>f b x) t h
theorem RepL.weak {ts:List T}{xs:List V}(f:∀ b,A b->A' b) (h:RepL K H A ts xs):RepL K H A' ts xs:=RepL.keep (fun _ _ e=>e) (fun _ _ _ e=>e) (fun b x _=>f b x) ts h
theorem RepL.avoid {ts:List T}{xs:List V}{a:Addr}(n:H a=none) (h:RepL K H A ts xs):RepL K H (fun b=>A b/\b≠a) ts xs:=
 RepL.keep (fun _ _ e=>e) (fun _ _ _ e=>e) (fun b x y=>⟨x,fun z=>y (z ▸ n)⟩) ts h
theorem RepL.length:∀ {ts:List T}{xs:List V},RepL K H A ts xs->ts.length=xs.length
 | [],_,h=>by cases (show _=[] from h);rfl
 | _::ts,_,h=>by
  obtain⟨x,r,e,_,h2⟩:=h;subst e;simp[RepL.length h2]
theorem RepL.get:∀ {ts:List T}{xs:List V}{i:Nat}{t:T},RepL K H A ts xs->ts[i]?=some t->∃ x,xs[i]?=some x/\Rep K H A t x
 | [],_,_,_,_,e=>by simp at e
 | _::ts,_,0,_,h,e=>by
  obtain⟨x,r,e1,h1,_⟩:=h;subst e1;simp at e;subst e;exact⟨x,rfl,h1⟩
 | _::ts,_,i+1,_,h,e=>by
  obtain⟨x,r,e1,_,h2⟩:=h;subst e1;obtain⟨y,q,h3⟩:=RepL.get (i:=i) h2 (by simpa using e);exact⟨y,by simpa using q,h3⟩
theorem RepL.app:∀ {ts us:List T}{xs ys:List V},RepL K H A ts xs->RepL K H A us ys->RepL K H A (ts++us) (xs++ys)
 | [],_,_,_,h,q=>by cases (show _=[] from h);exact q
 | _::ts,_,_,_,h,q=>by
  obtain⟨x,r,e,h1,h2⟩:=h;subst e;exact⟨x,r++_,rfl,h1,RepL.app h2 q⟩
theorem RepL.one {t:T}{x:V}(h:Rep K H A t x):RepL K H A [t] [x]:=⟨x,[],rfl,h,rfl⟩
theorem RepL.take:∀ {ts:List T}{xs:List V}(n:Nat),RepL K H A ts xs->RepL K H A (ts.take n) (xs.take n)
 | _,_,0,_=>by simp[RepL]
 | [],_,_+1,h=>by cases (show _=[] from h);simp[RepL]
 | _::ts,_,n+1,h=>by
  obtain⟨x,r,e,h1,h2⟩:=h;subst e;exact⟨x,r.take n,rfl,h1,RepL.take n h2⟩
theorem RepL.drop:∀ {ts:List T}{xs:List V}(n:Nat),RepL K H A ts xs->RepL K H A (ts.drop n) (xs.drop n)
 | _,_,0,h=>by simpa using h
 | [],_,_+1,h=>by cases (show _=[] from h);simp[RepL]
 | _::ts,_,n+1,h=>by
  obtain⟨x,r,e,h1,h2⟩:=h;subst e
  simpa using RepL.drop n h2
theorem Rep.sqL {ts:List T}{v:V}(h:Rep K H A (.lst ts) v):∃ a xs,v=.ref a/\SqL K H a xs/\RepL K H A ts xs:=by
 obtain⟨a,xs,e,c,r⟩:=h;refine⟨a,xs,e,?_,r⟩;rcases c with ⟨_,c⟩ | c
 ·exact .inl c
 ·exact .inr c
theorem Rep.sqT {ts:List T}{v:V}(h:Rep K H A (.tup ts) v):∃ a xs,v=.ref a/\SqT K H a xs/\RepL K H A ts xs:=by
 obtain⟨a,xs,e,c,r⟩:=h;exact⟨a,xs,e,c,r⟩
end
def scal:T->Bool
 | .lst _=>false
 | .tup _=>false
 | .exc _=>false
 | .dct _=>false
 | .own _=>false
 | _=>true
def tv:T->V
 | .non=>.non
 | .bl b=>.bl b
 | .int i=>.int i
 | .str x=>.str x
 | _=>.non
theorem MV {K:PySem.W.Frag}{H:Hp}{A:Addr->Prop}{t:T}{v:V}(h:scal t=true):Rep K H A t v ↔ v=tv t:=by
 cases t<;>first | exact Iff.rfl | (simp[scal] at h)
mutual
def im:T->Bool
 | .lst _=>false
 | .dct _=>false
 | .own _=>false
 | .tup ts=>imL ts
 | _=>true
def imL:List T->Bool
 | []=>true
 | t::ts=>im t&&imL ts
end
section
variable {K:PySem.W.Frag}{H H':Hp}{A A':Addr->Prop}
mutual
theorem yI (kt:∀ b (u:Fix),Rd H b u.1->Rd H' b u.1):∀ (t:T) {v:V},im t=true->Rep K H A t v->Rep K H' A' t v
 | .non,_,_,h=>h
 | .bl _,_,_,h=>h
 | .int _,_,_,h=>h
 | .str _,_,_,h=>h
 | .lst _,_,e,_=>by simp[im] at e
 | .tup ts,_,e,h=>by
  obtain⟨a,xs,e1,c,r⟩:=h;refine⟨a,xs,e1,?_,repL_imk kt ts (by simpa [im] using e) r⟩;rcases c with c | c
  ·exact .inl (kt a ⟨.tup xs,(fun _ z=>by cases z),fun _ z=>by cases z⟩ c)
  ·exact .inr c
 | .exc _,_,_,h=>by
  obtain⟨a,C,e,c,r⟩:=h;exact⟨a,C,e,c,kt a ⟨AQ a (.ref C),(fun _ z=>by cases z),fun _ z=>by cases z⟩ r⟩
 | .dct _,_,e,_=>by simp[im] at e
 | .own _,_,e,_=>by simp[im] at e
theorem repL_imk (kt:∀ b (u:Fix),Rd H b u.1->Rd H' b u.1):∀ (ts:List T) {xs:List V},imL ts=true->RepL K H A ts xs->RepL K H' A' ts xs
 | [],_,_,h=>h
 | t::ts,_,e,h=>by
  obtain⟨x,r,e1,h1,h2⟩:=h;have e':im t=true/\imL ts=true:=by simpa [imL] using e
  exact⟨x,r,e1,yI kt t e'.1 h1,repL_imk kt ts e'.2 h2⟩
end
theorem rC (t:T) {v:V}(h:im t=true) (r:Rep K H A t v):Rep K H A' t v:=yI (fun _ _ e=>e) t h r
end
def cC (ts:List T):Bool:=ts.all im
theorem yH {K:PySem.W.Frag}{H:Hp}{A A':Addr->Prop}:∀ {ts:List T}{xs:List V},cC ts=true->RepL K H A ts xs->RepL K H A' ts xs
 | [],_,_,h=>h
 | t::ts,_,f,h=>by
  obtain⟨x,r,e,h1,h2⟩:=h;have f':im t=true/\cC ts=true:=by simpa [cC] using f
  exact⟨x,r,e,rC t f'.1 h1,yH f'.2 h2⟩
theorem IP:∀ {ts:List T},cC ts=true->imL ts=true
 | [],_=>rfl
 | t::ts,f=>by
  have f':im t=true/\cC ts=true:=by simpa [cC] using f
  simp[imL,f'.1,IP f'.2]
def Ad (B H:Hp) (M:List Addr) (l:Nat) (a:Addr):Prop:=(1<=l->a ∉ M)/\(2<=l->B a=none)/\(3<=l->H a=none)
theorem Ad.le {B H:Hp}{M:List Addr}{l l':Nat}{a:Addr}(h:Ad B H M l a) (k:l'<=l):Ad B H M l' a:=
 ⟨fun z=>h.1 (by lia),fun z=>h.2.1 (by lia),fun z=>h.2.2 (by lia)⟩
theorem Ad.zero {B H:Hp}{M:List Addr}{a:Addr}:Ad B H M 0 a:=⟨fun z=>by lia,fun z=>by lia,fun z=>by lia⟩
def aM (K:PySem.W.Frag) (B H:Hp) (M:List Addr) (H':Hp):Bool->Nat->T->V->Prop
 | true,l,.lst ts,v=>∃ a xs,v=.ref a/\H a=none/\H' a=some (.lst xs)/\RepL K H' (fun b=>Ad B H M l b/\b≠a) ts xs
 | _,l,t,v=>Rep K H' (Ad B H M l) t v
def eA:T->Nat->List T->Prop
 | .lst ts,c,us=>c=0/\us=ts
 | .tup ts,c,us=>ts[c]?=some (.lst us)
 | .dct _,c,us=>c=0/\us=[]
 | .own ts,c,us=>us=[]/\c<=ts.length
 | _,_,_=>False
def mH:T->Bool
 | .own _=>true
 | _=>false
def hX (H:Hp):T->Addr->List V->Prop
 | .dct ks,a,_=>H a=some (.dK (dkv ks))
 | .own _,a,_=>H a≠none
 | _,a,xs=>H a=some (.lst xs)
theorem hX.keep {H H':Hp}{t:T}{a:Addr}{xs:List V}(k:∀ o,H a=some o->H' a=some o) (h:hX H t a xs):hX H' t a xs:=by
 cases t with
 | own ts=>
  cases e:H a with
  | none=>exact absurd e h
  | some o=>show H' a≠none;rw[k o e];simp
 | _=>exact k _ h
theorem hX.some {H:Hp}{t:T}{a:Addr}{xs:List V}(h:hX H t a xs):H a≠none:=by
 cases t with
 | own ts=>exact h
 | dct ks=>rw[show H a=Option.some (.dK (dkv ks)) from h];simp
 | _=>rw[show H a=Option.some (.lst xs) from h];simp
def fR (K:PySem.W.Frag) (H:Hp):T->V->(Nat->Addr)->Prop
 | .lst _,v,ga=>v=.ref (ga 0)
 | .dct _,v,ga=>v=.ref (ga 0)
 | .own ts,v,ga=>v=.ref (ga 0)/\∃ xs,H (ga 0)=some (.lst xs)/\ts.length=xs.length/\∀ (d:Nat) (t:T),ts[d]?=some t->ga (d+1)≠ga 0/\xs[d]?=some (.ref (ga (d+1)))/\∃ us ys,t=.lst us/\cC us=true/\H (ga (d+1))=some (.lst ys)/\RepL K H (fun _=>True) us ys
 | .tup ts,v,ga=>∃ p vs,v=.ref p/\Rd H p (.tup vs)/\ts.length=vs.length/\∀ (c:Nat) (t:T),ts[c]?=some t->(∃ us,t=.lst us/\vs[c]?=some (.ref (ga c)))\/(im t=true/\∃ w,vs[c]?=some w/\Rep K H (fun _=>True) t w)
 | _,_,_=>False
theorem fR.keep {K:PySem.W.Frag}{H H':Hp}{t:T}{v:V}{ga:Nat->Addr}(kt:∀ b (u:Fix),Rd H b u.1->Rd H' b u.1) (ko:mH t=true->∀ c o,eA t c []->H (ga c)=some o->H' (ga c)=some o) (h:fR K H t v ga):fR K H' t v ga:=by
 cases t with
 | tup ts=>
  obtain⟨p,vs,h1,h2,h3,h4⟩:=h;refine⟨p,vs,h1,kt p ⟨.tup _,(fun _ z=>by cases z),fun _ z=>by cases z⟩ h2,h3,fun c u e=>?_⟩;rcases h4 c u e with h | ⟨hi,w,e1,r⟩
  ·exact .inl h
  ·exact .inr ⟨hi,w,e1,yI kt u hi r⟩
 | own ts=>
  obtain⟨h1,xs,h2,h3,h4⟩:=h;refine⟨h1,xs,ko rfl 0 _ ⟨rfl,aKo _⟩ h2,h3,fun d t e=>?_⟩;obtain⟨k1,k2,us,ys,k3,k4,k5,k6⟩:=h4 d t e;refine⟨k1,k2,us,ys,k3,k4,ko rfl (d+1) _ ⟨rfl,(aIn.mp e).1⟩ k5,repL_imk kt us ?_ k6⟩;exact IP k4
 | _=>exact h
theorem fR.grow {K:PySem.W.Frag}{H H':Hp}{t:T}{v:V}{ga:Nat->Addr}(s:aK H H') (h:fR K H t v ga):fR K H' t v ga:=h.keep (fun b _ e=>eX (fun o q=>s b o q) e) fun _ c o _ e=>s _ o e
theorem DR {K:PySem.W.Frag}{H:Hp}{A:Addr->Prop}:∀ {ts:List T}{vs:List V},ts.length=vs.length->(∀ (c:Nat) (t:T) (w:V),ts[c]?=some t->vs[c]?=some w->Rep K H A t w)->RepL K H A ts vs
 | [],[],_,_=>rfl
 | [],_::_,h,_=>by cases h
 | _::_,[],h,_=>by cases h
 | t::ts,v::vs,h,k=>⟨v,vs,rfl,k 0 t v rfl rfl,DR (by simpa using h) fun c u w e e'=>k (c+1) u w (by simpa using e) (by simpa using e')⟩
theorem fR.rep {K:PySem.W.Frag}{H:Hp}{A:Addr->Prop}{t:T}{v:V}{ga:Nat->Addr}(hA:∀ b,A b) (h:fR K H t v ga) (r:∀ c us,eA t c us->∃ xs,hX H t (ga c) xs/\RepL K H A us xs):Rep K H A t v:=by
 cases t with
 | lst ts=>
  obtain⟨xs,e,r⟩:=r 0 ts ⟨rfl,rfl⟩;exact⟨ga 0,xs,h,.inl ⟨hA _,.inl e⟩,r⟩
 | tup ts=>
  obtain⟨p,vs,h1,h2,h3,h4⟩:=h;refine⟨p,vs,h1,.inl h2,DR h3 fun c u w e e'=>?_⟩;rcases h4 c u e with ⟨us,rfl,e1⟩ | ⟨hi,w',e1,q⟩
  ·obtain⟨xs,e2,r⟩:=r c us e
   rw[e'] at e1;exact⟨ga c,xs,aIi e1,.inl ⟨hA _,.inl e2⟩,r⟩
  ·rw[e'] at e1
   cases (aIi e1);exact rC u hi q
 | non=>exact h.elim
 | bl _=>exact h.elim
 | int _=>exact h.elim
 | str _=>exact h.elim
 | exc _=>exact h.elim
 | dct ks=>
  obtain⟨xs,e,_⟩:=r 0 [] ⟨rfl,rfl⟩;exact⟨ga 0,h,hA _,e⟩
 | own ts=>
  obtain⟨h1,xs,h2,h3,h4⟩:=h;refine⟨ga 0,xs,h1,hA _,h2,DR h3 fun d t w e e'=>?_⟩;obtain⟨_,k2,us,ys,rfl,k4,k5,k6⟩:=h4 d t e;rw[k2] at e';exact⟨ga (d+1),ys,(aIi e').symm,.inl ⟨hA _,.inl k5⟩,k6.weak fun b _=>hA b⟩
def lc (fl:List Nat):Nat:=if fl.contains 3 then 1 else 2
theorem qX (fl:List Nat):lc fl<=2:=by unfold lc;split<;>decide
theorem sW (fl:List Nat):1<=lc fl:=by unfold lc;split<;>decide
def FQ (K:PySem.W.Frag) (B:Hp) (lv:Nat) (M:List Addr) (H:Hp) (t:T) (v:V) (ga:Nat->Addr):Prop:=
 fR K H t v ga/\∀ c us,eA t c us->∃ xs,hX H t (ga c) xs/\RepL K H (Ad B H M lv) us xs/\ga c∈M
theorem sS {t:T}{c:Nat}{us:List T}(h:eA t c us):im t=false:=by
 cases t with
 | lst _=>rfl
 | dct _=>rfl
 | own _=>rfl
 | tup ts=>
  show imL ts=false;have:ts[c]?=some (.lst us):=h
  clear h
  induction ts generalizing c with
  | nil=>cases this
  | cons a r ih=>
   cases c with
   | zero=>cases (aIi (show some a=some (T.lst us) from this));simp[imL,im]
   | succ c=>simp[imL,ih (show r[c]?=some (T.lst us) from this)]
 | _=>exact h.elim
structure Sl (K:PySem.W.Frag) (B:Hp) (fl:List Nat) (Ex:List (T × V)) (σ:St) (ρ:Rho) (M:List Addr) (H:Hp):Prop where
 same:aK B H
 slot:∀ i t,ρ[i]?=some (some t)->(1<=fl.getD i 1\/im t=true)->∃ v,σ[i]?=some (some v)/\Rep K H (Ad B H M (min (fl.getD i 1) 2)) t v
 mu:∃ g:Nat->Nat->Addr,(∀ i t,ρ[i]?=some (some t)->fl.getD i 1=0->im t=false->∃ v,σ[i]?=some (some v)/\FQ K B (lc fl) M H t v (g i)) /\
  ∀ i j c d t u us ws,(i≠j\/c≠d/\mH t=false)->ρ[i]?=some (some t)->ρ[j]?=some (some u)->fl.getD i 1=0->fl.getD j 1=0->eA t c us->eA u d ws->g i c≠g j d
 ex:∀ p∈Ex,Rep K H (Ad B H M 1) p.1 p.2
 mB:∀ a∈M,B a=none/\H a≠none
 len:fl.length<=σ.length
section
variable {K:PySem.W.Frag}{B H H' H1:Hp}{fl:List Nat}{Ex:List (T × V)}{σ:St}{ρ:Rho}{M:List Addr}{n:Bool}{l l':Nat}{t:T}{v:V}
theorem Ad.any {a:Addr}(h:Ad B H M l a) (k:l<=2):Ad B H1 M l a:=⟨h.1,h.2.1,fun z=>by lia⟩
theorem Sl.grow (S:Sl K B fl Ex σ ρ M H) (s:aK H H'):Sl K B fl Ex σ ρ M H' where
 same:=S.same.trans s
 slot:=fun i t e k=>by
  obtain⟨v,e1,r⟩:=S.slot i t e k;exact⟨v,e1,(r.grow s).weak fun b x=>x.any (by lia)⟩
 mu:=by
  obtain⟨g,hg,ap⟩:=S.mu;refine⟨g,fun i t e k hm=>?_,ap⟩;obtain⟨v,e1,e2,e3⟩:=hg i t e k hm;refine⟨v,e1,e2.grow s,fun c us h=>?_⟩;obtain⟨xs,q1,q2,q3⟩:=e3 c us h;exact⟨xs,q1.keep (s _),(q2.grow s).weak fun b x=>x.any (qX fl),q3⟩
 ex:=fun p hp=>((S.ex p hp).grow s).weak fun b x=>x.any (by lia)
 mB:=fun a ha=>⟨(S.mB a ha).1,fun z=>(S.mB a ha).2 (s.free z)⟩
 len:=S.len
theorem Sl.muL (S:Sl K B fl Ex σ ρ M H) (i:Nat) (us:List T) (e:ρ[i]?=some (some (.lst us))) (k:fl.getD i 1=0):∃ a ts xs,T.lst us=.lst ts/\σ[i]?=some (some (.ref a))/\H a=some (.lst xs)/\RepL K H (Ad B H M (lc fl)) ts xs/\a∈M:=by
 obtain⟨g,hg,_⟩:=S.mu;obtain⟨v,e1,e2,e3⟩:=hg i _ e k rfl;obtain⟨xs,q1,q2,q3⟩:=e3 0 us ⟨rfl,rfl⟩;cases (show v=.ref (g i 0) from e2);exact⟨g i 0,us,xs,rfl,e1,q1,q2,q3⟩
theorem aM.rep (S:Sl K B fl Ex σ ρ M H) (h:aM K B H M H' n l t v):Rep K H' (Ad B H M l) t v:=by
 cases n with
 | false=>cases t<;>exact h
 | true=>
  cases t with
  | lst ts=>
   obtain⟨a,xs,e,h1,h2,r⟩:=h;exact⟨a,xs,e,.inl ⟨⟨fun _ z=>(S.mB a z).2 h1,fun _=>S.same.free h1,fun _=>h1⟩,.inl h2⟩,r.weak fun b x=>x.1⟩
  | non=>exact h
  | bl _=>exact h
  | int _=>exact h
  | str _=>exact h
  | tup _=>exact h
  | exc _=>exact h
  | dct _=>exact h
  | own _=>exact h
theorem Ad.since {a:Addr}(s:aK H H1) (h:Ad B H1 M l a):Ad B H M l a:=⟨h.1,h.2.1,fun z=>s.free (h.2.2 z)⟩
theorem aM.since (s:aK H H1) (h:aM K B H1 M H' n l t v):aM K B H M H' n l t v:=by
 cases n with
 | false=>cases t<;>exact Rep.weak (fun b x=>Ad.since s x) h
 | true=>
  cases t with
  | lst ts=>
   obtain⟨a,xs,e,h1,h2,r⟩:=h;exact⟨a,xs,e,s.free h1,h2,r.weak fun b x=>⟨x.1.since s,x.2⟩⟩
  | non=>exact h
  | bl _=>exact h
  | int _=>exact h
  | str _=>exact h
  | tup _=>exact Rep.weak (fun b x=>Ad.since s x) h
  | exc _=>exact h
  | dct _=>exact Rep.weak (fun b x=>Ad.since s x) h
  | own _=>exact Rep.weak (fun b x=>Ad.since s x) h
theorem aM.scal (h:scal t=true):aM K B H M H' n l t v ↔ v=tv t:=by
 cases n<;>cases t<;>first | exact Iff.rfl | (simp[G.scal] at h)
theorem aM.laid {ts:List T}{xs:List V}{p:Addr}(s:aK H H1) (hp:H1 p=none) (r:RepL K H1 (Ad B H M l) ts xs):aM K B H M (upd H1 p (.lst xs)) true l (.lst ts) (.ref p):=by
 refine⟨p,xs,rfl,s.free hp,bN,?_⟩;exact (r.avoid hp).keep (fun b ys e=>eX (fun o q=>by rw[aU (fun z=>by rw[z,hp] at q;cases q)];exact q) e) (fun b o x e=>by rw[aU x.2];exact e) (fun b x _=>x) ts
end
theorem cK {H:Hp}{p:Addr}(h:H p=none) (o:HO):aK H (upd H p o):=fun b u q=>by rw[aU (cQ q h)];exact q
def tG (K:PySem.W.Frag) (B:Hp) (fl:List Nat) (f:Rho->Option T) (n:Bool) (l:Nat):TE:=fun σ H Q=>
 ∃ Ex ρ M t,Sl K B fl Ex σ ρ M H/\f ρ=some t/\∀ v H',aK H H'->aM K B H M H' n l t v->Q v H'
def GE (X:Cx) (B:Hp) (fl:List Nat) (e:Expr) (f:Rho->Option T) (n:Bool) (l:Nat):Prop:=PE X e (tG X.K B fl f n l)
def tGT (K:PySem.W.Frag) (B:Hp) (fl:List Nat) (f:Rho->Option Bool):TT:=fun σ H Q=>
 ∃ Ex ρ M b,Sl K B fl Ex σ ρ M H/\f ρ=some b/\∀ H',aK H H'->Q b H'
def GT (X:Cx) (B:Hp) (fl:List Nat) (e:Expr) (f:Rho->Option Bool):Prop:=PT X e (tGT X.K B fl f)
def GW (X:Cx) (B:Hp) (fl:List Nat) (e:Expr) (f:Rho->Option Bool):Prop:=PW X e (tGT X.K B fl f)
def tGA (K:PySem.W.Frag) (B:Hp) (fl:List Nat) (f:Rho->Option (List T)) (l:Nat):TA:=fun σ H Q=>
 ∃ Ex ρ M ts,Sl K B fl Ex σ ρ M H/\f ρ=some ts/\∀ vs H',aK H H'->RepL K H' (Ad B H M l) ts vs->Q vs H'
def GA (X:Cx) (B:Hp) (fl:List Nat) (es:List Expr) (f:Rho->Option (List T)) (l:Nat):Prop:=PA X es (tGA X.K B fl f l)
theorem bD {X:Cx}{e:Expr}{t t':TE}(h:PE X e t) (k:∀ σ H Q,t' σ H Q->t σ H Q):PE X e t':=fun pins s σ H Q I q=>h pins s σ H Q I (k σ H Q q)
theorem DL {X:Cx}{e:Expr}{t t':TT}(h:PT X e t) (k:∀ σ H Q,t' σ H Q->t σ H Q):PT X e t':=fun pins s σ H Q I q=>h pins s σ H Q I (k σ H Q q)
theorem MB {X:Cx}{e:Expr}{t t':TT}(h:PW X e t) (k:∀ σ H Q,t' σ H Q->t σ H Q):PW X e t':=fun wh pins s σ H Q I q=>h wh pins s σ H Q I (k σ H Q q)
theorem xV {X:Cx}{es:List Expr}{t t':TA}(h:PA X es t) (k:∀ σ H Q,t' σ H Q->t σ H Q):PA X es t':=fun pos pins s σ H Q I q=>h pos pins s σ H Q I (k σ H Q q)
theorem gT {X:Cx}{st:Stmt}{t t':TS}(h:PS X st t) (k:∀ D σ H,t' D σ H->t D σ H):PS X st t':=fun pins s σ H D I q=>h pins s σ H D I (k D σ H q)
theorem MA {X:Cx}{st:List Stmt}{t t':TS}(h:PSs X st t) (k:∀ D σ H,t' D σ H->t D σ H):PSs X st t':=fun pins s σ H D I q=>h pins s σ H D I (k D σ H q)
def aA (i:Nat):Rho->Option T:=fun ρ=>(ρ[i]?).join
def fC (t:T):Rho->Option T:=fun _=>some t
def f1 (f:Rho->Option T) (F:T->Option T):Rho->Option T:=fun ρ=>(f ρ).bind F
def f2 (f g:Rho->Option T) (F:T->T->Option T):Rho->Option T:=fun ρ=>(f ρ).bind fun x=>(g ρ).bind fun y=>F x y
def aE:Rho->Option (List T):=fun _=>some []
def aD (f:Rho->Option T) (g:Rho->Option (List T)):Rho->Option (List T):=fun ρ=>(f ρ).bind fun x=>(g ρ).bind fun y=>some (x::y)
def aV:T->Option T:=fun t=>if im t then some t else none
def mD:T->Option T
 | .lst ts=>if cC ts then some (.lst ts) else none
 | .tup _=>none
 | .dct _=>none
 | .own _=>none
 | t=>some t
theorem bind_some {α β:Type}{o:Option α}{f:α->Option β}{y:β}(h:o.bind f=some y):∃ x,o=some x/\f x=some y:=by
 cases o with
 | none=>cases h
 | some x=>exact⟨x,rfl,h⟩
section
variable {X:Cx}{B:Hp}{fl:List Nat}{a b e:Expr}{f g:Rho->Option T}{n n':Bool}{l l':Nat}{pos:Pos}
theorem GE.sc (h:GE X B fl e f n l):GE X B fl e (f1 f aV) true 3:=by
 refine bD h ?_;rintro σ H Q ⟨Ex,ρ,M,t,S,hf,q⟩;obtain⟨x,hx,hg⟩:=bind_some hf;unfold aV at hg;split at hg
 ·rename_i hs
  have e:=aIi hg;subst e;refine⟨Ex,ρ,M,x,S,hx,fun v H' s r=>q v H' s ?_⟩;have r':=rC (A':=Ad B H M 3) x hs (r.rep S);cases x<;>first | exact r' | (simp[im] at hs)
 ·cases hg
theorem GE.flt (h:GE X B fl e f true l):GE X B fl e (f1 f mD) true 3:=by
 refine bD h ?_;rintro σ H Q ⟨Ex,ρ,M,t,S,hf,q⟩;obtain⟨x,hx,hg⟩:=bind_some hf;refine⟨Ex,ρ,M,x,S,hx,fun v H' s r=>q v H' s ?_⟩;cases x with
 | lst ts=>
  unfold mD at hg;dsimp only at hg;split at hg
  ·rename_i hs
   cases hg;obtain⟨a,xs,e,h1,h2,r⟩:=r;exact⟨a,xs,e,h1,h2,yH hs r⟩
  ·cases hg
 | tup ts=>cases hg
 | non=>cases hg;exact r
 | bl _=>cases hg;exact r
 | int _=>cases hg;exact r
 | str _=>cases hg;exact r
 | exc _=>cases hg;exact r
 | dct _=>cases hg
 | own _=>cases hg
theorem aB (i:Nat) {x:Str}(hN:X.N[i]?=some x:=by rfl) (hv:Vis X.env.scope x:=by first | exact Or.inl rfl | exact Or.inr (Or.inl rfl) | exact Or.inr (Or.inr rfl)) (hd:(x == ("__debug__" : Str))=false:=by decide)
  (hcd:(x == ("__classdict__" : Str))=false:=by decide):GE X B fl (.Name x pos) (aA i) false (min (fl.getD i 1) 2):=by
 refine bD (pv (X:=X) i hN hv hd hcd) ?_;rintro σ H Q ⟨Ex,ρ,M,t,S,hf,q⟩;have e:ρ[i]?=some (some t):=by
  unfold aA at hf;cases h:ρ[i]? with
  | none=>rw[h] at hf;cases hf
  | some o=>rw[h] at hf;cases (show o=some t from hf);rfl
 by_cases k:1<=fl.getD i 1\/im t=true
 ·obtain⟨v,e1,r⟩:=S.slot i t e k
  exact⟨v,e1,q v H (aK.refl H) (by cases t<;>exact r)⟩
 ·have k0:fl.getD i 1=0:=by lia
  have ki:im t=false:=by
   cases h:im t with
   | false=>rfl
   | true=>exact absurd (.inr h) k
  obtain⟨g,hg,_⟩:=S.mu;obtain⟨v,e1,e2,e3⟩:=hg i t e k0 ki;rw[k0] at q;exact⟨_,e1,q _ H (aK.refl H) (by
   have:=e2.rep (A:=Ad B H M 0) (fun _=>Ad.zero) fun c us h=>(by
    obtain⟨xs,q1,q2,_⟩:=e3 c us h;exact⟨xs,q1,q2.weak fun b _=>Ad.zero⟩)
   cases t<;>exact this)⟩
theorem ge_int {i:Int}{j:Nat}:GE X B fl (.Constant (.int i) j pos) (fC (.int i)) true 3:=
 bD eN fun _ H _ ⟨_,_,_,_,_,hf,q⟩=>q _ H (aK.refl H) (by cases (aIi hf);rfl)
theorem AZ {i:Bool}{j:Nat}:GE X B fl (.Constant (.bool i) j pos) (fC (.bl i)) true 3:=
 bD tT fun _ H _ ⟨_,_,_,_,_,hf,q⟩=>q _ H (aK.refl H) (by cases (aIi hf);rfl)
theorem dW {j:Nat}:GE X B fl (.Constant .none j pos) (fC .non) true 3:=
 bD DG fun _ H _ ⟨_,_,_,_,_,hf,q⟩=>q _ H (aK.refl H) (by cases (aIi hf);rfl)
theorem bL {i:Str}{j:Nat}:GE X B fl (.Constant (.str i) j pos) (fC (.str i)) true 3:=
 bD nU fun _ H _ ⟨_,_,_,_,_,hf,q⟩=>q _ H (aK.refl H) (by cases (aIi hf);rfl)
def SOp (r:R2) (F:T->T->Option T):Prop:=∀ x y t,F x y=some t->scal x=true/\scal y=true/\scal t=true/\∀ (H:Hp) (Q:VK),Q (tv t) H->r (tv x) (tv y) H Q
theorem fH {op:Operator}{r:R2}{F:T->T->Option T}(ho:OpR X (binaryOp op) r) (hF:SOp r F) (ha:GE X B fl a f n l) (hb:GE X B fl b g n' l'):GE X B fl (.BinOp a op b pos) (f2 f g F) true 3:=by
 refine bD (tU ho ha hb) ?_;rintro σ H Q ⟨Ex,ρ,M,t,S,hf,q⟩;obtain⟨x,hx,hf⟩:=bind_some hf;obtain⟨y,hy,hf⟩:=bind_some hf;obtain⟨sx,sy,st,k⟩:=hF x y t hf;refine⟨Ex,ρ,M,x,S,hx,fun vx H1 s1 rx=>⟨Ex,ρ,M,y,S.grow s1,hy,fun vy H2 s2 ry=>?_⟩⟩;rw[aM.scal sx] at rx;rw[aM.scal sy] at ry;subst rx ry;exact k H2 Q (q _ H2 (s1.trans s2) ((aM.scal st).mpr rfl))
theorem wP {op:CmpOp}{r:R2}{F:T->T->Option T}(ho:OpR X (compareOp op) r) (hF:SOp r F) (ha:GE X B fl a f n l) (hb:GE X B fl b g n' l') (hm:behindInMarks op b=false:=by first | exact eE _ | rfl):GE X B fl (.Compare a [op] [b] pos) (f2 f g F) true 3:=by
 refine bD (LL ho ha hb hm) ?_;rintro σ H Q ⟨Ex,ρ,M,t,S,hf,q⟩;obtain⟨x,hx,hf⟩:=bind_some hf;obtain⟨y,hy,hf⟩:=bind_some hf;obtain⟨sx,sy,st,k⟩:=hF x y t hf;refine⟨Ex,ρ,M,x,S,hx,fun vx H1 s1 rx=>⟨Ex,ρ,M,y,S.grow s1,hy,fun vy H2 s2 ry=>?_⟩⟩;rw[aM.scal sx] at rx;rw[aM.scal sy] at ry;subst rx ry;exact k H2 Q (q _ H2 (s1.trans s2) ((aM.scal st).mpr rfl))
def oI (C:Int->Int->Bool) (h:Int->Int->T):T->T->Option T
 | .int i,.int j=>if C i j then some (h i j) else none
 | _,_=>none
theorem rN {C:Int->Int->Prop}{c:Int->Int->Bool}{gv:Int->Int->V}{h:Int->Int->T}(hc:∀ i j,c i j=true->C i j) (hs:∀ i j,scal (h i j)=true) (he:∀ i j,tv (h i j)=gv i j):SOp (rI C gv) (oI c h):=by
 intro x y t e;cases x<;>first | (cases e;done) | skip
 cases y<;>first | (cases e;done) | skip
 rename_i i j;unfold oI at e;dsimp only at e;split at e
 ·rename_i k
  cases e;exact⟨rfl,rfl,hs i j,fun H Q q=>⟨i,j,rfl,rfl,hc i j k,by rw[<- he i j];exact q⟩⟩
 ·cases e
theorem gY {gv:Int->Int->V}{h:Int->Int->T}(hs:∀ i j,scal (h i j)=true) (he:∀ i j,tv (h i j)=gv i j):SOp (rI0 gv) (oI (fun _ _=>true) h):=by
 intro x y t e;cases x<;>first | (cases e;done) | skip
 cases y<;>first | (cases e;done) | skip
 rename_i i j;cases (show some (h i j)=some t from e);exact⟨rfl,rfl,hs i j,fun H Q q=>⟨i,j,rfl,rfl,by rw[<- he i j];exact q⟩⟩
abbrev cT:Int->Int->Bool:=fun _ _=>true
def cA:T->T->Option T:=oI cT fun i j=>.int (i+j)
def kK:T->T->Option T:=oI cT fun i j=>.int (i-j)
def gO (i j:Int):Bool:=decide (i.natAbs<2^64)||decide (j.natAbs<2^64)||(decide (Builtin.Int.intBits i<=2^20)&&decide (Builtin.Int.intBits j<=2^20))
def eM:T->T->Option T:=oI gO fun i j=>.int (i*j)
def bG:T->T->Option T:=oI (fun _ j=>decide (0<j)&&decide (j<2^200)) fun i j=>.int (i / j)
def aR:T->T->Option T:=oI (fun _ j=>decide (0<j)) fun i j=>.int (i%j)
def LA:T->T->Option T:=oI (fun _ j=>decide (0<=j)) fun i j=>.int (i / 2^j.toNat)
def dQ:T->T->Option T:=oI (fun i j=>decide (0<=j)&&decide (j<=1000000)&&decide (i.natAbs<2^64)) fun i j=>.int (i*2^j.toNat)
def dP:T->T->Option T:=oI (fun i j=>decide (0<=j)&&decide ((Builtin.Int.intBits i:Int)*j<=2^27)) fun i j=>.int (i^j.toNat)
def qY:T->T->Option T:=oI cT fun i j=>.int (Builtin.bitAnd i j)
def oOr:T->T->Option T:=oI cT fun i j=>.int (Builtin.bitOr i j)
def DA:T->T->Option T:=oI cT fun i j=>.int (Builtin.bitXor i j)
def oLt:T->T->Option T:=oI cT fun i j=>.bl (decide (i<j))
def oLe:T->T->Option T:=oI cT fun i j=>.bl (decide (i<=j))
def oGt:T->T->Option T:=oI cT fun i j=>.bl (decide (j<i))
def oGe:T->T->Option T:=oI cT fun i j=>.bl (decide (j<=i))
theorem ZO {i j:Int}(h:gO i j=true):IntMulOk i j:=by
 unfold gO at h;rcases Bool.or_eq_true_iff.mp h with h | h
 ·rcases Bool.or_eq_true_iff.mp h with h | h
  ·have h:=of_decide_eq_true h
   exact .of_left (intBits_le_64 (by lia) (by lia))
  ·have h:=of_decide_eq_true h
   exact .of_right (intBits_le_64 (by lia) (by lia))
 ·have h:=aIx.mp h
  exact .of_bits (of_decide_eq_true h.1) (of_decide_eq_true h.2)
theorem aBm:OpR X (binaryOp .Mult) (rI (fun i j=>gO i j=true) fun i j=>.int (i*j)):=opI fun _ _ _ _ _ _ _ hc q=>mul_int q (ZO hc)
theorem aBn:OpR X (binaryOp .Pow) (rI (fun i j=>0<=j/\(Builtin.Int.intBits i:Int)*j<=2^27) fun i j=>.int (i^j.toNat)):=opI fun _ _ _ _ _ _ _ hc q=>pow_int hc.1 hc.2 q
theorem eC (ha:GE X B fl a f n l) (hb:GE X B fl b g n' l'):GE X B fl (.BinOp a .Add b pos) (f2 f g cA) true 3:=fH aBo (gY (fun _ _=>rfl) fun _ _=>rfl) ha hb
theorem wV (ha:GE X B fl a f n l) (hb:GE X B fl b g n' l'):GE X B fl (.BinOp a .Sub b pos) (f2 f g kK) true 3:=fH aC4 (gY (fun _ _=>rfl) fun _ _=>rfl) ha hb
theorem wS (ha:GE X B fl a f n l) (hb:GE X B fl b g n' l'):GE X B fl (.BinOp a .Mult b pos) (f2 f g eM) true 3:=fH aBm (rN (fun _ _ k=>k) (fun _ _=>rfl) fun _ _=>rfl) ha hb
theorem qR (ha:GE X B fl a f n l) (hb:GE X B fl b g n' l'):GE X B fl (.BinOp a .Pow b pos) (f2 f g dP) true 3:=fH aBn (rN (fun _ _ k=>by simpa using k) (fun _ _=>rfl) fun _ _=>rfl) ha hb
theorem cM (ha:GE X B fl a f n l) (hb:GE X B fl b g n' l'):GE X B fl (.BinOp a .Mod b pos) (f2 f g aR) true 3:=fH aBw (rN (fun _ _ k=>of_decide_eq_true k) (fun _ _=>rfl) fun _ _=>rfl) ha hb
theorem VX (ha:GE X B fl a f n l) (hb:GE X B fl b g n' l'):GE X B fl (.BinOp a .RShift b pos) (f2 f g LA) true 3:=fH aC3 (rN (fun _ _ k=>of_decide_eq_true k) (fun _ _=>rfl) fun _ _=>rfl) ha hb
theorem fI (ha:GE X B fl a f n l) (hb:GE X B fl b g n' l'):GE X B fl (.BinOp a .LShift b pos) (f2 f g dQ) true 3:=fH LH (rN (fun _ _ k=>by simpa [ES,and_assoc] using k) (fun _ _=>rfl) fun _ _=>rfl) ha hb
theorem wO (ha:GE X B fl a f n l) (hb:GE X B fl b g n' l'):GE X B fl (.BinOp a .BitAnd b pos) (f2 f g qY) true 3:=fH aBq (gY (fun _ _=>rfl) fun _ _=>rfl) ha hb
theorem wT (ha:GE X B fl a f n l) (hb:GE X B fl b g n' l'):GE X B fl (.BinOp a .BitOr b pos) (f2 f g oOr) true 3:=fH aC1 (gY (fun _ _=>rfl) fun _ _=>rfl) ha hb
theorem WD (ha:GE X B fl a f n l) (hb:GE X B fl b g n' l'):GE X B fl (.BinOp a .BitXor b pos) (f2 f g DA) true 3:=fH aC5 (gY (fun _ _=>rfl) fun _ _=>rfl) ha hb
theorem VS (ha:GE X B fl a f n l) (hb:GE X B fl b g n' l'):GE X B fl (.Compare a [.Lt] [b] pos) (f2 f g oLt) true 3:=wP LF (gY (fun _ _=>rfl) fun _ _=>rfl) ha hb
theorem VR (ha:GE X B fl a f n l) (hb:GE X B fl b g n' l'):GE X B fl (.Compare a [.LtE] [b] pos) (f2 f g oLe) true 3:=wP aBv (gY (fun _ _=>rfl) fun _ _=>rfl) ha hb
theorem VM (ha:GE X B fl a f n l) (hb:GE X B fl b g n' l'):GE X B fl (.Compare a [.GtE] [b] pos) (f2 f g oGe) true 3:=wP LC (gY (fun _ _=>rfl) fun _ _=>rfl) ha hb
end
end G
namespace L2
open PySem PySem.Spec PyProof.Rows
def eR (cells:List (Str × Addr)):List (Str × NameKind)->List (Str × Addr)->Option (List (Str × Addr))
 | [],cs=>some cs
 | (n,k)::r,cs=>if k == .free then (match cells.lookup n with | some a=>eR cells r ((n,a)::cs) | none=>none) else eR cells r cs
theorem HC {scope:Scope}{env:Env}{cl:List (Str × Addr)}(h:eR env.cells scope.names []=some cl):closureFor scope env=pure cl:=by
 have key:∀ (ns:List (Str × NameKind)) (cs:List (Str × Addr)),eR env.cells ns cs=some cl ->
   (forIn ns cs (fun (x:Str × NameKind) (cs:List (Str × Addr))=>if x.2 == .free then (do let a <- cellOf env x.1;pure (ForInStep.yield ((x.1,a)::cs))) else pure (ForInStep.yield cs)):Sem (List (Str × Addr)))=pure cl:=by
  intro ns
  induction ns with
  | nil=>intro cs h;cases (aIi h);rfl
  | cons x r ih=>
   intro cs h;obtain⟨n,k⟩:=x;rw[List.forIn_cons];unfold eR at h;dsimp only at h ⊢
   by_cases hk:(k == NameKind.free)=true
   ·rw[if_pos hk] at h ⊢
    cases hl:env.cells.lookup n with
    | none=>rw[hl] at h;cases h
    | some a=>
     rw[hl] at h;have e:cellOf env n=pure a:=by unfold cellOf;rw[hl]
     rw[e];simp only[pure_bind];exact ih _ h
   ·rw[if_neg hk] at h ⊢
    simp only[pure_bind];exact ih _ h
 have q:=key scope.names [] h;unfold closureFor
 simpa using q
theorem AF {cells:List (Str × Addr)}:∀ {ns:List (Str × NameKind)}{cs cl:List (Str × Addr)},eR cells ns cs=some cl->(∀ x c,cs.lookup x=some c->cells.lookup x=some c)->∀ x c,cl.lookup x=some c->cells.lookup x=some c
 | [],cs,cl,h,k=>by cases (aIi h);exact k
 | (n,kd)::r,cs,cl,h,k=>by
  unfold eR at h
  by_cases hk:(kd == NameKind.free)=true
  ·rw[if_pos hk] at h
   cases hl:cells.lookup n with
   | none=>rw[hl] at h;cases h
   | some a=>
    rw[hl] at h;refine AF h fun x c e=>?_;rw[aJw] at e
    by_cases hx:(x == n)=true
    ·rw[hx] at e
     cases (aIi e);rw[eq_of_beq hx];exact hl
    ·have hx':(x == n)=false:=by simpa using hx
     rw[hx'] at e;exact k x c e
  ·rw[if_neg hk] at h
   exact AF h k
theorem wF {cells:List (Str × Addr)}{x:Str}:∀ {ns:List (Str × NameKind)}{cs cl:List (Str × Addr)},eR cells ns cs=some cl->((x,NameKind.free)∈ns\/∃ c,cs.lookup x=some c)->∃ c,cl.lookup x=some c
 | [],cs,cl,h,k=>by
  cases (aIi h);rcases k with k | k
  ·cases k
  ·exact k
 | (n,kd)::r,cs,cl,h,k=>by
  unfold eR at h;have old:∀ a,(∃ c,cs.lookup x=some c)->∃ c,((n,a)::cs).lookup x=some c:=fun a ⟨c,e⟩=>by
   rw[aJw]
   by_cases hx:(x == n)=true
   ·rw[hx];exact⟨_,rfl⟩
   ·have hx':(x == n)=false:=by simpa using hx
    rw[hx'];exact⟨c,e⟩
  by_cases hk:(kd == NameKind.free)=true
  ·rw[if_pos hk] at h
   cases hl:cells.lookup n with
   | none=>rw[hl] at h;cases h
   | some a=>
    rw[hl] at h;refine wF h ?_;rcases k with k | k
    ·rcases aIu.mp k with e | k
     ·cases e
      exact .inr ⟨a,by rw[aJw];simp⟩
     ·exact .inl k
    ·exact .inr (old a k)
  ·rw[if_neg hk] at h
   refine wF h ?_;rcases k with k | k
   ·rcases aIu.mp k with e | k
    ·cases e
     exact absurd rfl hk
    ·exact .inl k
   ·exact .inr k
theorem wG {cells:List (Str × Addr)}:∀ {ns:List (Str × NameKind)}{cs:List (Str × Addr)},(∀ n,(n,NameKind.free)∈ns->∃ c,cells.lookup n=some c)->∃ cl,eR cells ns cs=some cl
 | [],cs,_=>⟨cs,rfl⟩
 | (n,kd)::r,cs,k=>by
  unfold eR
  by_cases hk:(kd == NameKind.free)=true
  ·rw[if_pos hk]
   obtain⟨c,e⟩:=k n (by rw[eq_of_beq hk];exact aIm);rw[e];exact wG fun m hm=>k m (aIl _ hm)
  ·rw[if_neg hk]
   exact wG fun m hm=>k m (aIl _ hm)
def qV:Option NameKind->Bool
 | some .cell=>true
 | _=>false
theorem JT {o:Option NameKind}(h:qV o=true):o=some .cell:=by
 cases o with
 | none=>cases h
 | some k=>cases k<;>first | rfl | cases h
theorem mJ {x y:Str}{n:Addr}{cs:List (Str × Addr)}:((y,n)::cs).lookup x=if (x == y)=true then some n else cs.lookup x:=by
 rw[aJw]
 by_cases h:(x == y)=true
 ·rw[h];rfl
 ·have h':(x == y)=false:=by simpa using h
  rw[h'];rfl
theorem xT {x:Str}:∀ {ns:List (Str × NameKind)}{n n0:Nat}{cs:List (Str × Addr)},n0<=n->(ns.lookup x=some .cell\/∃ c,cs.lookup x=some c/\n0<=c)->∃ c,(cellsFrom n ns cs).lookup x=some c/\n0<=c
 | [],n,n0,cs,_,h=>by
  rcases h with h | h
  ·cases h
  ·exact h
 | (y,k)::r,n,n0,cs,hn,h=>by
  unfold cellsFrom
  by_cases hk:(k == NameKind.cell)=true
  ·rw[if_pos hk]
   refine xT (Nat.le_succ_of_le hn) ?_
   by_cases hx:(x == y)=true
   ·exact .inr ⟨n,by rw[mJ,if_pos hx],hn⟩
   ·rcases h with h | ⟨c,e,hc⟩
    ·have hx':(x == y)=false:=by simpa using hx
     rw[aJw,hx'] at h;exact .inl h
    ·exact .inr ⟨c,by rw[mJ,if_neg hx];exact e,hc⟩
  ·rw[if_neg hk]
   refine xT hn ?_;rcases h with h | h
   ·rw[aJw] at h
    by_cases hx:(x == y)=true
    ·rw[hx] at h
     have h':k=NameKind.cell:=aIi h;rw[h'] at hk;exact absurd rfl hk
    ·have hx':(x == y)=false:=by simpa using hx
     rw[hx'] at h;exact .inl h
   ·exact .inr h
theorem DC {x:Str}{c:Addr}:∀ {ns:List (Str × NameKind)}{n:Nat}{cs:List (Str × Addr)},(x,NameKind.cell) ∉ ns->cs.lookup x=some c->(cellsFrom n ns cs).lookup x=some c
 | [],_,_,_,h=>h
 | (y,k)::r,n,cs,hx,h=>by
  unfold cellsFrom;have hr:(x,NameKind.cell) ∉ r:=fun z=>hx (aIl _ z)
  by_cases hk:(k == NameKind.cell)=true
  ·rw[if_pos hk]
   refine DC hr ?_;have:¬ (x == y)=true:=fun z=>hx (by rw[eq_of_beq z,eq_of_beq hk];exact aIm);rw[mJ,if_neg this];exact h
  ·rw[if_neg hk]
   exact DC hr h
theorem xU {x:Str}{c:Addr}:∀ {ns:List (Str × NameKind)}{n:Nat}{cs:List (Str × Addr)},cs.lookup x=some c->∃ c',(cellsFrom n ns cs).lookup x=some c'
 | [],_,_,h=>⟨c,h⟩
 | (y,k)::r,n,cs,h=>by
  unfold cellsFrom
  by_cases hk:(k == NameKind.cell)=true
  ·rw[if_pos hk]
   by_cases hx:(x == y)=true
   ·exact xU (c:=n) (by rw[mJ,if_pos hx])
   ·exact xU (c:=c) (by rw[mJ,if_neg hx];exact h)
  ·rw[if_neg hk]
   exact xU h
theorem DD {x:Str}{c:Addr}:∀ {ns:List (Str × NameKind)}{h:Heap}{cs:List (Str × Addr)},(cellsFrom h.objs.size ns cs).lookup x=some c->cs.lookup x=some c\/(h.objs.size<=c/\(pushCells h ns).IsCell c none)
 | [],_,_,e=>.inl e
 | (y,k)::r,h,cs,e=>by
  unfold cellsFrom at e;unfold pushCells
  by_cases hk:(k == NameKind.cell)=true
  ·rw[if_pos hk] at e
   rw[if_pos hk];have e':(cellsFrom (h.push { cls:=.type "cell",data:=.cell none }).objs.size r ((y,h.objs.size)::cs)).lookup x=some c:=by rw[aJ4];exact e
   rcases DD e' with q | ⟨q1,q2⟩
   ·rw[mJ] at q
    by_cases hx:(x == y)=true
    ·rw[if_pos hx] at q
     cases q;exact .inr ⟨aKe _,_,pushCells_keeps r _ _ _ (aJ2 _ rfl),rfl⟩
    ·rw[if_neg hx] at q
     exact .inl q
   ·rw[aJ4] at q1
    exact .inr ⟨Nat.le_of_succ_le q1,q2⟩
  ·rw[if_neg hk] at e
   rw[if_neg hk];exact DD e
theorem DB:∀ {ns:List (Str × NameKind)}{n:Nat}{cs:List (Str × Addr)},(∀ x c,cs.lookup x=some c->c<n)->(∀ x y c,cs.lookup x=some c->cs.lookup y=some c->x=y) ->
  ∀ x y c,(cellsFrom n ns cs).lookup x=some c->(cellsFrom n ns cs).lookup y=some c->x=y
 | [],_,_,_,h=>h
 | (z,k)::r,n,cs,hb,h=>by
  unfold cellsFrom
  by_cases hk:(k == NameKind.cell)=true
  ·rw[if_pos hk]
   refine DB (fun x c e=>?_) fun x y c e1 e2=>?_
   ·rw[mJ] at e
    split at e
    ·cases e;exact aKj _
    ·exact Nat.lt_succ_of_lt (hb x c e)
   ·rw[mJ] at e1 e2
    split at e1
    ·rename_i hx
     cases e1;split at e2
     ·rename_i hy
      rw[eq_of_beq hx,eq_of_beq hy]
     ·exact absurd (hb y _ e2) (aKg _)
    ·split at e2
     ·cases e2
      exact absurd (hb x _ e1) (aKg _)
     ·exact h x y c e1 e2
  ·rw[if_neg hk]
   exact DB hb h
theorem ZR {M:Model}{A:Around}{E:Value->Shared->Prop}{s:Shared}{scope:Scope}{globals:Addr}{closure:List (Str × Addr)}{qual:Str}{outer:Env}{builtins:Addr}{Q:Env->Shared->Prop}
  (hQ:Q (newEnv scope s.heap.objs.size globals (cellsFrom (s.heap.objs.size+1) scope.names closure) qual none .none (some outer) builtins) { s with heap:=pushCells (s.heap.push { cls:=.type "dict",data:=.dict #[] }) scope.names }):
  wpAny M A (newFunctionEnv scope globals closure [] qual none .none (some outer) builtins) Q E s:=by
 simp only[newFunctionEnv,Option.isSome_some,if_true];simp only[newEnv] at hQ;refine wpAny_bind (wpAny_alloc ?_);refine wpAny_bind (wpAny_layCells _ (fun name kind cells=>by cases hkc:kind == NameKind.cell<;>simp[hkc]) _ _ _ _ ?_)
 rw[show ({ s with heap:=s.heap.push { cls:=.type "dict",data:=.dict #[] } }:Shared).heap.objs.size=s.heap.objs.size+1 from aJ4 ..];refine wpAny_bind ?_;rw[List.forIn_nil];exact wpAny_pure (wpAny_pure hQ)
def cxB (X:Cx) (scope:Scope) (N':List Str) (cl:List (Str × Addr)) (C:Addr) (s:Shared) (H:Hp) (ex:List Addr):Cx where
 prog:=X.prog
 w:=X.w
 K:=X.K
 mg:=X.mg
 base:=X.base
 A:=X.A
 N:=N'
 s₀:=s
 H₀:=H
 env:=compEnvC scope cl C X.env
 outer:=X.stack
 stack:=X.stack
 ex:=ex
 fn:=fun x=>qV (scope.names.lookup x)
 calm:=X.calm
 pn:=[]
 xe:=fun _ _=>False
def dG (src:List (Option Nat)) (σ:St):St:=src.map fun o=>o.bind fun i=>(σ[i]?).join
structure BlkOk (X:Cx) (scope:Scope) (N':List Str) (src:List (Option Nat)):Prop where
 kind:scope.kind=.function
 cells:∀ y∈scope.names,y.2=.cell->scope.names.lookup y.1=some .cell
 names:∀ y∈scope.names,y.2=.local->scope.names.lookup y.1=some .local
 frees:∀ y∈scope.names,y.2=.free->X.env.kindOf y.1=some .cell\/X.env.kindOf y.1=some .free
 srcN:∀ (j i:Nat),src[j]?=some (some i)->∃ x,N'[j]?=some x/\X.N[i]?=some x/\scope.names.lookup x≠some .local/\scope.names.lookup x≠some .cell
 len:src.length=N'.length
theorem xF {env:Env}:∀ {names:List (Str × NameKind)}{x:Str}{k:NameKind},
  (names.map fun (n,k)=>if (k == NameKind.free&&env.scope.kind == .function&&env.kindOf n == some .cell) then (n,NameKind.cell) else (n,k)).lookup x=some k->∃ k0,names.lookup x=some k0/\(x,k0)∈names/\(k0=k\/(k0=.free/\k=.cell))
 | [],_,_,h=>by simp at h
 | (n,kd)::r,x,k,h=>by
  have ih:=@xF env r x k
  by_cases hc:(kd == NameKind.free&&env.scope.kind == .function&&env.kindOf n == some .cell)=true
  ·have e:((n,kd)::r).map (fun (n,k)=>if (k == NameKind.free&&env.scope.kind == .function&&env.kindOf n == some .cell) then (n,NameKind.cell) else (n,k))=(n,NameKind.cell)::r.map (fun (n,k)=>if (k == NameKind.free&&env.scope.kind == .function&&env.kindOf n == some .cell) then (n,NameKind.cell) else (n,k)):=by
    rw[aJy];dsimp only;rw[if_pos hc]
   rw[e,aJw] at h;have hf:kd=.free:=by
    have:=(aIx.mp (aIx.mp hc).1).1;exact eq_of_beq this
   by_cases hx:(x == n)=true
   ·rw[hx] at h
    have h':NameKind.cell=k:=aIi h;refine⟨kd,by rw[aJw,hx],by rw[eq_of_beq hx];exact aIm,.inr ⟨hf,h'.symm⟩⟩
   ·have hx':(x == n)=false:=by simpa using hx
    rw[hx'] at h;obtain⟨k0,a,b,c⟩:=ih h;exact⟨k0,by rw[aJw,hx'];exact a,aIl _ b,c⟩
  ·have e:((n,kd)::r).map (fun (n,k)=>if (k == NameKind.free&&env.scope.kind == .function&&env.kindOf n == some .cell) then (n,NameKind.cell) else (n,k))=(n,kd)::r.map (fun (n,k)=>if (k == NameKind.free&&env.scope.kind == .function&&env.kindOf n == some .cell) then (n,NameKind.cell) else (n,k)):=by
    rw[aJy];dsimp only;rw[if_neg hc]
   rw[e,aJw] at h
   by_cases hx:(x == n)=true
   ·rw[hx] at h
    have h':kd=k:=aIi h;exact⟨kd,by rw[aJw,hx],by rw[eq_of_beq hx];exact aIm,.inl h'⟩
   ·have hx':(x == n)=false:=by simpa using hx
    rw[hx'] at h;obtain⟨k0,a,b,c⟩:=ih h;exact⟨k0,by rw[aJw,hx'];exact a,aIl _ b,c⟩
section
variable {X:Cx}{pins:List (Addr × Obj)}{σ:St}{H:Hp}{s2:Shared}
theorem XZ {scope : Scope} {N' : List Str} {src : List (Option Nat)} {cl : List (Str × Addr)} {fp : List Addr} {h4 : Heap} {t4 : Nat} {C : Addr} {m : Str -> Option Value} (S : BlkOk X scope N' src) (I : Inv X pins σ H s2)
  (hcl : eR X.env.cells scope.names [] = some cl) (hf : ∀ b ∈ fp, fE X pins H b) (ho : ∀ b ∈ fp, ∃ o, s2.heap.get? b = some o) (hC : s2.heap.objs.size < C)
  (hk : ∀ b o, s2.heap.get? b = some o -> h4.get? b = some o) (hD : h4.get? s2.heap.objs.size = some { cls := .type "list", data := .seq ([] : List Value).toArray 0 }) (hns : h4.Ns C m)
  (hown : ∀ x c, (cellsFrom (C + 1) scope.names cl).lookup x = some c -> cl.lookup x = some c \/ (C < c /\ h4.IsCell c none)) :
  Inv (cxB X scope N' (cellsFrom (C + 1) scope.names cl) C s2 H fp) [] (dG src σ) (upd H s2.heap.objs.size (.lst [])) { s2 with heap := h4, toks := t4 } := by
 have hH : H s2.heap.objs.size = none := I.hok.fresh (aKe _);have hHC : H C = none := I.hok.fresh (aKd hC);have sub := AF hcl (fun x c e => by simp at e);have clt : ∀ x c, cl.lookup x = some c -> c < s2.heap.objs.size := fun x c e => by
  obtain ⟨v, q⟩ := I.cell x c (sub x c e);exact q.lt
 have frKind : ∀ x, ((relabel scope X.env).names.lookup x = some .cell \/ (relabel scope X.env).names.lookup x = some .free) -> (x, NameKind.free) ∈ scope.names \/ scope.names.lookup x = some .cell := fun x hx => by
  rcases hx with hx | hx
  ·obtain ⟨k0, a, b, c⟩ := xF hx
   rcases c with rfl | ⟨rfl, _⟩
   ·exact .inr a
   ·exact .inl b
  ·obtain ⟨k0, _, b, c⟩ := xF hx
   rcases c with rfl | ⟨rfl, _⟩
   ·exact .inl b
   ·exact .inl b
 have noex : ∀ b o, X.base.get? b = some o -> b ∉ fp := fun b o e hb => by
  rcases (hf b hb).2.2.2.1 with z | z
  ·exact I.ok.noex b o e z
  ·exact absurd (aIq (aIq (aJ3 e) I.ok.bsz) z) (aKg _)
 have hasC : ∀ x, ((relabel scope X.env).names.lookup x = some .cell \/ (relabel scope X.env).names.lookup x = some .free) -> ∃ c, (cellsFrom (C + 1) scope.names cl).lookup x = some c := fun x hx => by
  rcases frKind x hx with q | q
  ·obtain ⟨c, e⟩ := wF hcl (.inl q)
   exact xU e
  ·obtain ⟨c, e, _⟩ := xT (n0 := C + 1) (cs := cl) (aKe (C + 1)) (.inl q)
   exact ⟨c, e⟩
 have cabC : ∀ x c, qV (scope.names.lookup x) = true -> (cellsFrom (C + 1) scope.names cl).lookup x = some c -> s2.heap.objs.size <= c := fun x c z e => by
  obtain ⟨c', e', h'⟩ := xT (n0 := C + 1) (cs := cl) (aKe (C + 1)) (.inl (JT z));rw [e] at e';cases e';exact aKd (aKk hC h')
 have exC : ∀ b ∈ fp, ∀ x c, (cellsFrom (C + 1) scope.names cl).lookup x = some c -> c ≠ b := fun b hb x c e => by
  rcases hown x c e with q | ⟨q, _⟩
  ·exact (hf b hb).2.2.2.2.1 x c (sub x c q)
  ·rintro rfl
   obtain ⟨o, eo⟩ := ho c hb;exact absurd (aKk (aJ3 eo) (aKk hC q)) (aKg _)
 refine ⟨⟨I.ok.mod, S.kind, I.ok.glob, I.ok.blt, aKd hC, DB (fun x c e => Nat.lt_succ_of_lt (aKk (clt x c e) hC)) (fun x y c e1 e2 => I.ok.inj x y c (sub x c e1) (sub y c e2)), fun x hx => hasC x hx, fun x c z e => cabC x c z e, I.ok.hd, I.ok.frames, .inl rfl, fun b hb => ⟨fun z => ?_, fun x c e => exC b hb x c e⟩,
   I.bs, aKf I.ok.bsz I.sz, noex, fun b hb z => ?_, I.stack, I.stkFree⟩,
  rfl, I.bare, Un.laid hk (aKe _) hH, ⟨m, hns, fun i x v e1 e2 e3 => ?_⟩, fun x c e => ?_, ?_, fun x c e => ?_, fun p hp => absurd (show p ∈ ([] : List (Addr × Obj)) from hp) (by simp), I.hok.laid hk (aKe _) ?_, ?_⟩
 ·obtain ⟨o, e⟩ := ho b hb
  have z' : b = C := z;subst z';exact absurd (aKk (aJ3 e) hC) (aKg _)
 ·rcases aIu.mp (I.stkSub b z) with e | z
  ·exact (hf b hb).2.1 e
  ·exact (hf b hb).2.2.1 z
 ·-- a captured name
  have e2' : (src.map fun o => o.bind fun i => (σ[i]?).join)[i]? = some (some v) := e2;rw [aJk] at e2';cases es : src[i]? with
  | none => rw [es] at e2'; cases e2'
  | some o =>
   rw [es] at e2';have e2'' : (o.bind fun i => (σ[i]?).join) = some v := aIi e2';cases o with
   | none => cases e2''
   | some j =>
    have ej : σ[j]? = some (some v) := by
     have z : (σ[j]?).join = some v := e2'';cases q : σ[j]? with
     | none => rw [q] at z; cases z
     | some w => rw [q] at z; cases (show w = some v from z); rfl
    obtain ⟨x', n1, n2, n3⟩ := S.srcN i j es;have ex : x' = x := by
     have z : N'[i]? = some x := e1;rw [n1] at z; exact aIi z
    subst ex;have hkd : (relabel scope X.env).names.lookup x' = some .cell \/ (relabel scope X.env).names.lookup x' = some .free := by
     have e3' : Vis (relabel scope X.env) x' := e3;rcases e3' with z | z | z
     ·obtain ⟨k0, a, _, c⟩ := xF z
      rcases c with rfl | ⟨_, q⟩
      ·exact absurd a n3.1
      ·cases q
     ·exact .inl z
     ·exact .inr z
    have hfr := (frKind x' hkd).resolve_right n3.2;have nown : (x', NameKind.cell) ∉ scope.names := fun z => n3.2 (S.cells _ z rfl);have ok := S.frees _ hfr rfl;obtain ⟨m0, hn0, hl0⟩ := I.loc;obtain ⟨u, ru, lu⟩ := hl0 j x' v n2 ej (ok.elim (fun z => .inr (.inl z)) (fun z => .inr (.inr z)));refine ⟨u, ru, .inr ⟨hkd, ?_⟩⟩;rcases lu with ⟨z, _⟩ | ⟨_, c, ec, ic⟩
    ·exfalso
     have z' : X.env.kindOf x' = some .local := z;rcases ok with w | w <;> (rw [z'] at w; cases w)
    ·obtain ⟨c', ec'⟩ := wF hcl (.inl hfr)
     have : c' = c := by
      have := sub x' c' ec';rw [ec] at this;exact (aIi this).symm
     subst this;obtain ⟨oc, g1, g2⟩ := ic;exact ⟨c', DC nown ec', oc, hk _ _ g1, g2⟩
 ·rcases hown x c e with q | ⟨_, q⟩
  ·obtain ⟨v, oc, g1, g2⟩ := I.cell x c (sub x c q)
   exact ⟨v, oc, hk _ _ g1, g2⟩
  ·exact ⟨none, q⟩
 ·show upd H s2.heap.objs.size (.lst []) C = none
  rw [aU (aKl hC)];exact hHC
 ·show upd H s2.heap.objs.size (.lst []) c = none
  rcases hown x c e with q | ⟨q, _⟩
  ·rw [aU (aKm (clt x c q))]
   exact I.freeC x c (sub x c q)
  ·rw [aU (aKl (aKk hC q))]
   exact I.hok.fresh (aKd (aKk hC q))
 ·exact ⟨aKo _, [], 0, .nil, hD⟩
 ·show (dG src σ).length = N'.length
  unfold dG;rw [aJq];exact S.len
end
section
variable {prog:Program}{w:World}{A:Around}{E:Value->Shared->Prop}{R:Result->Shared->Prop}{s:Shared}
theorem SX {elt target iter : Expr} {ifs : List Expr} {scope : Scope} {pos : Pos} {it acc : Value} {env : Env} (I : Nat -> Shared -> Prop)
  (turn : ∀ n s, I n s -> wpAny (model prog w) A (pyNext it) (fun r s₁ => match r with
   | none => R (.ok .next) s₁
   | some v => wpAny (model prog w) A (letOwnedTupleGo target it v) (fun _ s₁' => wpAny (model prog w) A (assign target env v) (fun _ s₂ =>
     wpAny (model prog w) A (forIn ifs true fun c r => if r = true then do let ok <- isTrue c env (eval c env); pure (ForInStep.yield ok) else pure (ForInStep.yield r)) (fun ok s₃ =>
      if ok = true then wpAny (model prog w) A (eval elt env) (fun x s₄ =>
       wpAny (model prog w) A (call (.builtin "list.append") [acc, x]) (fun _ s₅ => ∃ m, m < n /\ I m s₅) (fun _ _ => False) s₄) (fun _ _ => False) s₃
      else ∃ m, m < n /\ I m s₃) (fun _ _ => False) s₂) (fun _ _ => False) s₁') (fun _ _ => False) s₁) (fun _ _ => False) s)
  (n : Nat) (h : I n s) :
  codeAny (model prog w) A (.compLoop (.ListComp elt [⟨target, iter, ifs, 0⟩] scope pos) 0 it acc env) R s := by
 refine codeAny_loop rfl I (fun n s hI => ?_) n h;show wpAny _ A ((compTurn (.ListComp elt [⟨target, iter, ifs, 0⟩] scope pos) 0 it acc env).onRaise (fun x => do noteFrame x env; theTreesLotGoes x)) _ _ s;refine wpAny_noted ?_;rw [compTurn_list];refine wpAny_bind (wpAny_standAt (wpAny_bind (wpAny_mono (turn n s hI) (fun r s₁ h₁ => ?_) fun _ _ h' => h'.elim)));cases r with
 | none => exact wpAny_pure h₁
 | some v =>
  refine wpAny_bind (wpAny_mono h₁ (fun _ s₁' h₁' => ?_) fun _ _ h' => h'.elim);refine wpAny_bind (wpAny_mono h₁' (fun _ s₂ h₂ => wpAny_bind (wpAny_mono h₂ (fun ok s₃ h₃ => ?_) fun _ _ h' => h'.elim)) fun _ _ h' => h'.elim);cases ok with
  | false => exact wpAny_pure ⟨rfl, h₃⟩
  | true =>
   exact wpAny_bind (wpAny_bind (wpAny_mono h₃ (fun x s₄ h₄ => wpAny_bind (wpAny_mono h₄ (fun _ s₅ h₅ => wpAny_pure (wpAny_pure ⟨rfl, h₅⟩)) fun _ _ h' => h'.elim)) fun _ _ h' => h'.elim))
end
def PIf (X:Cx) (ifs:List Expr) (t:TT):Prop:=
 ∀ (pins:List (Addr × Obj)) (s:Shared) (σ:St) (H:Hp) (Q:Bool->Hp->Prop),Inv X pins σ H s->t σ H Q ->
  wpAny (model X.prog X.w) X.A (forIn ifs true fun c r=>if r=true then do let ok <- isTrue c X.env (eval c X.env);pure (ForInStep.yield ok) else pure (ForInStep.yield r)) (TP X pins σ Q) X.xe s
def aFt:TT:=fun _ H Q=>Q true H
theorem LT {X:Cx}:PIf X [] aFt:=fun _ _ _ H _ I h=>wpAny_tests_nil ⟨H,I,h⟩
theorem aCr {X:Cx}{c:Expr}{t:TT}(h:PT X c t):PIf X [c] t:=fun pins s σ H Q I hw=>wpAny_tests_one (h pins s σ H Q I hw)
def vV (wi:TI) (mk:St->St) (g:TG) (tc:TT) (te:TE):TE:=fun σ H Q=>wi σ H fun J H1=>∀ D,H1 D=none->∃ W:Nat->Nat->St->Hp->Prop,(∃ m,W 0 m (mk σ) (upd H1 D (.lst []))) /\
 ∀ i m σ1 H2,W i m σ1 H2->(J.stop i H2/\Q (.ref D) H2)\/(J.go i H2/\∀ x H3,J.yld i H2 x H3->g x σ1 H3 fun σ2 H4=>tc σ2 H4 fun b H5=>
  if b=true then te σ2 H5 fun v H6=>∃ xs,H6 D=some (.lst xs)/\xs.length<sizeLine/\∃ m',m'<m/\W (i+1) m' σ2 (upd H6 D (.lst (xs++[v]))) else ∃ m',m'<m/\W (i+1) m' σ2 H5)
section
variable {X:Cx}{elt tg iter:Expr}{ifs:List Expr}{scope:Scope}{pos:Pos}{N':List Str}{src:List (Option Nat)}{wi:TI}{g:TG}{tc:TT}{te:TE}
theorem GU {pins:List (Addr × Obj)}{σ:St}{H2:Hp}{s2:Shared}{E:Value->Shared->Prop}{cl:List (Str × Addr)}{it:Addr}{fp:List Addr}{tn:Nat->Heap->Prop}{J:It}{Q:VK}{RR:Value->Addr->Result->Shared->Prop}
  (S:BlkOk X scope N' src) (hc:X.calm=true) (hcl:eR X.env.cells scope.names []=some cl)
  (hb:∀ cl C s H ex,PG (cxB X scope N' cl C s H ex) tg g/\PIf (cxB X scope N' cl C s H ex) ifs tc/\PE (cxB X scope N' cl C s H ex) elt te)
  (I2:Inv X pins σ H2 s2) (Tn:Turn X.prog X.w X.K tg J fp it tn) (st2:tn 0 s2.heap) (f2:∀ b∈fp,fE X pins H2 b)
  (hw:∀ D,H2 D=none->∃ W:Nat->Nat->St->Hp->Prop,(∃ m,W 0 m (dG src σ) (upd H2 D (.lst []))) /\
   ∀ i m σ1 H2,W i m σ1 H2->(J.stop i H2/\Q (.ref D) H2)\/(J.go i H2/\∀ x H3,J.yld i H2 x H3->g x σ1 H3 fun σ2 H4=>tc σ2 H4 fun b H5=>
    if b=true then te σ2 H5 fun v H6=>∃ xs,H6 D=some (.lst xs)/\xs.length<sizeLine/\∃ m',m'<m/\W (i+1) m' σ2 (upd H6 D (.lst (xs++[v]))) else ∃ m',m'<m/\W (i+1) m' σ2 H5))
  (hR:∀ D C H' s' m,s2.heap.objs.size<=D->s2.heap.objs.size<=C->s'.heap.Ns C m->H' C=none->Inv X pins σ H' s'->Q (.ref D) H'->RR (.ref D) C (.ok .next) s'):
  wpAny (model X.prog X.w) X.A (newList []) (fun acc s₃=>wpAny (model X.prog X.w) X.A (newFunctionEnv scope X.env.globals cl [] X.env.qual none .none (some X.env)) (fun cenv s₄=>
   codeAny (model X.prog X.w) X.A (.compStart (.ListComp elt [⟨tg,iter,ifs,0⟩] scope pos) 0 (.ref it) acc { cenv with scope:=relabel scope X.env }) (RR acc cenv.locals) s₄) E s₃) E s2:=by
 refine wpAny_newObj_type (ZR ?_);dsimp only;generalize hH2:s2.heap.push { cls:=.type "list",dict:=none,data:=.seq ([]:List Value).toArray }=Hq;have hC:Hq.objs.size=s2.heap.objs.size+1:=by rw[<- hH2,aJ4]
 have hCl:s2.heap.objs.size<Hq.objs.size:=by rw[hC];exact aKj _
 have hns₁:(pushCells (Hq.push { cls:=.type "dict",data:=.dict #[] }) scope.names).Ns Hq.objs.size (fun _=>none):=(Heap.Ns.new Hq (.type "dict")).keeps (pushCells_keeps _ _);have old:∀ b o,s2.heap.get? b=some o->(pushCells (Hq.push { cls:=.type "dict",data:=.dict #[] }) scope.names).get? b=some o:=fun b o e=>pushCells_keeps _ _ b o (aIt _ (hH2 ▸ aIt _ e));have hacc:(pushCells (Hq.push { cls:=.type "dict",data:=.dict #[] }) scope.names).get? s2.heap.objs.size=some { cls:=.type "list",data:=.seq ([]:List Value).toArray 0 }:=pushCells_keeps _ _ _ _ (aIt _ (hH2 ▸ aJ2 _ rfl));have hown:∀ x c,(cellsFrom (Hq.objs.size+1) scope.names cl).lookup x=some c->cl.lookup x=some c\/(Hq.objs.size<c/\(pushCells (Hq.push { cls:=.type "dict",data:=.dict #[] }) scope.names).IsCell c none):=fun x c e=>by
  have e':(cellsFrom (Hq.push { cls:=.type "dict",data:=.dict #[] }).objs.size scope.names cl).lookup x=some c:=by rw[aJ4];exact e
  rcases DD e' with q | ⟨q1,q2⟩
  ·exact .inl q
  ·rw[aJ4] at q1
   exact .inr ⟨q1,q2⟩
 generalize pushCells (Hq.push { cls:=.type "dict",data:=.dict #[] }) scope.names=h₁ at hns₁ old hacc hown ⊢;have ho:∀ b∈fp,∃ o,s2.heap.get? b=some o:=fun b hb=>let ⟨o,e,_⟩:=Tn.obj 0 _ st2 b hb;⟨o,e⟩;obtain⟨W,⟨m0,w0⟩,turn⟩:=hw s2.heap.objs.size (I2.hok.fresh (aKe _));obtain⟨bg,bi,be⟩:=hb (cellsFrom (Hq.objs.size+1) scope.names cl) Hq.objs.size s2 H2 fp;have loop:∀ s₃:Shared,s₃={ s2 with heap:=h₁ } ->
   codeAny (model X.prog X.w) X.A (.compLoop (.ListComp elt [⟨tg,iter,ifs,0⟩] scope pos) 0 (.ref it) (.ref s2.heap.objs.size) (compEnvC scope (cellsFrom (Hq.objs.size+1) scope.names cl) Hq.objs.size X.env)) (RR (.ref s2.heap.objs.size) Hq.objs.size) s₃:=by
  rintro s₃ rfl;have I0:Inv (cxB X scope N' (cellsFrom (Hq.objs.size+1) scope.names cl) Hq.objs.size s2 H2 fp) [] (dG src σ) (upd H2 s2.heap.objs.size (.lst [])) { s2 with heap:=h₁ }:=XZ (t4:=s2.toks) S I2 hcl f2 ho hCl old hacc hns₁ hown;have fpOk:∀ {H':Hp},(∀ b∈fp,H' b=none)->∀ b∈fp,fE (cxB X scope N' (cellsFrom (Hq.objs.size+1) scope.names cl) Hq.objs.size s2 H2 fp) [] H' b:=fun hn b hb=>
   ⟨hn b hb,(I0.ok.exf b hb).1,I0.ok.exfs b hb,.inl hb,(I0.ok.exf b hb).2,fun p hp=>absurd (show p∈([]:List (Addr × Obj)) from hp) (by simp)⟩
  have fpOkP:∀ {H':Hp} ,(∀ b∈fp,H' b=none)->∀ b∈fp,fE (cxB X scope N' (cellsFrom (Hq.objs.size+1) scope.names cl) Hq.objs.size s2 H2 fp) [] H' b:=fun hn=>fpOk hn;refine SX (fun n s'=>∃ i σ' H',Inv (cxB X scope N' (cellsFrom (Hq.objs.size+1) scope.names cl) Hq.objs.size s2 H2 fp) [] σ' H' s'/\tn i s'.heap/\(∀ b∈fp,H' b=none)/\W i n σ' H') ?_ m0
   ⟨0,dG src σ,_,I0,Tn.keep _ _ _ st2 (fun b _ o e=>old b o e),fun b hb=>?_,w0⟩
  rotate_left
  ·obtain⟨o,e⟩:=ho b hb
   rw[aU (aKm (aJ3 e))];exact (f2 b hb).1
  rintro n s3 ⟨i,σ3,H3,I3,st3,fr3,w3⟩;rcases turn i n σ3 H3 w3 with ⟨stop,qn⟩ | ⟨go,step⟩
  ·refine thn (Tn.done (cxB X scope N' (cellsFrom (Hq.objs.size+1) scope.names cl) Hq.objs.size s2 H2 fp) rfl rfl rfl hc i [] s3 σ3 H3 _ I3 (fpOk fr3) st3 stop) fun r s4 ⟨hr,I4⟩=>?_
   subst hr;obtain⟨m,hm,_⟩:=I4.loc;refine hR _ _ H3 s4 m (aKe _) (aKd hCl) hm I4.free ?_ qn;exact I2.call' (ch:=fp) I4.os I4.base I4.hok I4.bare fun b hb=>⟨(f2 b hb).2.2.2.1,(f2 b hb).2.1,(f2 b hb).2.2.2.2.1,(f2 b hb).2.2.2.2.2⟩
  ·refine thn (Tn.item (cxB X scope N' (cellsFrom (Hq.objs.size+1) scope.names cl) Hq.objs.size s2 H2 fp) rfl rfl rfl hc i [] s3 σ3 H3 _ I3 (fpOk fr3) st3 go) fun r s4 ⟨u,hr,h4⟩=>?_
   subst hr;refine thn h4 fun _ s5 ⟨x,H5,I5,r5,y5,st5,fr5⟩=>?_;have I5':=I5.pinned (fpOk fr5) (Tn.obj _ _ st5);refine thn (bg _ s5 σ3 H5 x u _ I5' r5 (step x H5 y5)) fun _ s6 ⟨σ6,H6,I6,q6⟩=>?_;refine thn (bi _ s6 σ6 H6 _ I6 q6) fun ok s7 ⟨H7,I7,q7⟩=>?_;have again:∀ {σ8:St} {H8:Hp} {s8:Shared} {m':Nat},Inv (cxB X scope N' (cellsFrom (Hq.objs.size+1) scope.names cl) Hq.objs.size s2 H2 fp) ([]++tY fp s5.heap) σ8 H8 s8->m'<n->W (i+1) m' σ8 H8 ->
     ∃ m,m<n/\∃ i σ' H',Inv (cxB X scope N' (cellsFrom (Hq.objs.size+1) scope.names cl) Hq.objs.size s2 H2 fp) [] σ' H' s8/\tn i s8.heap/\(∀ b∈fp,H' b=none)/\W i m σ' H':=fun {σ8 H8 s8 m'} I8 hm w8=>by
    refine⟨m',hm,i+1,σ8,H8,I8.unpinned,Tn.keep _ _ _ st5 fun b hb o e=>(I8.pin (b,o) (aK3 _ (aK3 _ (xG hb e)))).1,fun b hb=>?_,w8⟩;obtain⟨o,e,d⟩:=Tn.obj _ _ st5 b hb;exact (I8.pin (b,o) (aK3 _ (aK3 _ (xG hb e)))).2.1
   cases ok with
   | false=>
    rw[if_neg aJ1] at q7;rw[if_neg aJ1];obtain⟨m',hm,w8⟩:=q7;exact again I7 hm w8
   | true=>
    rw[if_pos rfl] at q7;rw[if_pos rfl];refine thn (be _ s7 σ6 H7 _ I7 q7) fun xv s8 ⟨v,H8,I8,r8,q8⟩=>?_;obtain⟨xs,hx,hz,m',hm,w9⟩:=q8;refine thn (CK _ s8 σ6 H8 (.ref s2.heap.objs.size) [v] (.ref s2.heap.objs.size) [xv] (fun _ H9=>H9=upd H8 s2.heap.objs.size (.lst (xs++[v]))) I8 rfl (.cons r8 .nil) ⟨_,xs,v,rfl,rfl,hx,hz,rfl⟩) fun _ s9 ⟨_,H9,I9,_,e9⟩=>?_;subst e9;exact again I9 hm w9
 have hself:=Tn.self X.A 0 { s2 with heap:=h₁ };exact codeAny_compStart_list (loop _ rfl) (hself _ _ (Tn.keep _ _ _ st2 (fun b _ o e=>old b o e)) (loop _ rfl))
theorem DF (S:BlkOk X scope N' src) (hc:X.calm=true) (hi:PI X tg iter wi)
  (hb:∀ cl C s H ex,PG (cxB X scope N' cl C s H ex) tg g/\PIf (cxB X scope N' cl C s H ex) ifs tc/\PE (cxB X scope N' cl C s H ex) elt te)
  (hs:∀ x,foldedSetIterable iter X.env x=pure x:=by intro _;rfl):PE X (.ListComp elt [⟨tg,iter,ifs,0⟩] scope pos) (vV wi (dG src) g tc te):=by
 intro pins s σ H Q I h;obtain⟨cl,hcl⟩:∃ cl,eR X.env.cells scope.names []=some cl:=wG fun n hn=>I.ok.has n (S.frees _ hn rfl);rw[eval_ListComp];refine wpAny_comprehension_free (use:=none) rfl hs (HC hcl) S.kind S.names (thn (hi pins s σ H _ I h) fun v s1 h1=>thn h1 fun itv s2 h2=>?_);obtain⟨it,fp,tn,J,H2,e,I2,Tn,st2,f2,hw⟩:=h2;subst e;refine GU (RR:=fun acc C=>compPost (model X.prog X.w) X.A X.xe none (EP X pins σ Q) acc C) S hc hcl hb I2 Tn st2 f2 hw ?_;intro D C H' s' m hD hC hm hCn I' q;refine⟨m,hm,fun h' hsb=>?_⟩;refine⟨.ref D,H',?_,rfl,q⟩;refine I'.turned (t':=s'.toks) (it:=C) (fun b o hb e=>hsb.extBut b o hb e) hCn (aKl (aIq I2.lt hC)) (.inr (aKf I2.sz hC)) (fun x c e z=>?_) fun p hp z=>?_
 ·obtain⟨v,q⟩:=I2.cell x c e
  exact absurd (aIq q.lt (by rw[z];exact hC)) (aKg _)
 ·exact absurd (aIq (aJ3 (I2.pin p hp).1) (by rw[z];exact hC)) (aKg _)
theorem aCx {i:Nat}{x:Str}{pos' spos:Pos}(hN:X.N.Nodup) (hiN:X.N[i]?=some x) (hx:Loc X.env.scope x) (S:BlkOk X scope N' src) (hc:X.calm=true) (hi:PI X tg iter wi)
  (hb:∀ cl C s H ex,PG (cxB X scope N' cl C s H ex) tg g/\PIf (cxB X scope N' cl C s H ex) ifs tc/\PE (cxB X scope N' cl C s H ex) elt te)
  (hsw:swapsWith (.ListComp elt [⟨tg,iter,ifs,0⟩] scope pos) (some (.Name x pos')) spos.line X.env=pure true:=by rfl)
  (hs:∀ x,foldedSetIterable iter X.env x=pure x:=by intro _;rfl) (hf:X.fn x=true\/X.env.scope.names.lookup x=some .local:=by first | exact .inl rfl | exact .inr rfl | assumption):
  PS X (.Assign [.Name x pos'] (.ListComp elt [⟨tg,iter,ifs,0⟩] scope pos) spos) (zQ (vV wi (dG src) g tc te) (mE i)):=by
 intro pins s σ H D I h;obtain⟨cl,hcl⟩:∃ cl,eR X.env.cells scope.names []=some cl:=wG fun n hn=>I.ok.has n (S.frees _ hn rfl);rw[exec_Assign_Name_used _ _ _ _ hsw];refine wpAny_bind (wpAny_standAt (wpAny_bind ?_));show wpAny _ X.A (do let _ <- comprehension (.ListComp elt [⟨tg,iter,ifs,0⟩] scope pos) scope X.env _ (newList []) false (eval iter X.env) (some (assign (.Name x pos') X.env))) _ _ s;refine wpAny_bind (wpAny_mono (wpAny_comprehension_free (use:=some (assign (.Name x pos') X.env)) (Q:=fun _ s'=>SP X pins D .next s') rfl hs (HC hcl) S.kind S.names
  (thn (hi pins s σ H _ I h) fun v s1 h1=>thn h1 fun itv s2 h2=>?_)) (fun _ s' hq=>wpAny_pure (wpAny_pure hq)) fun _ _ e=>e)
 obtain⟨it,fp,tn,J,H2,e,I2,Tn,st2,f2,hw⟩:=h2;subst e;refine GU (Q:=fun v H'=>D.nx (σ.set i (some v)) H') (RR:=fun acc C=>compPost (model X.prog X.w) X.A X.xe (some (assign (.Name x pos') X.env)) (fun _ s'=>SP X pins D .next s') acc C) S hc hcl hb I2 Tn st2 f2 hw ?_;intro D' C H' s' m hD hC hm hCn I' q;show wpAny _ X.A (assign (.Name x pos') X.env (.ref D')) _ _ _;refine wpAny_assign_Name (OA I' hN hiN hx (v:=.ref D') rfl (fun s'' I'' hsb=>?_) hf);have cl':∀ x c,X.env.cells.lookup x=some c->c≠C:=fun x c e z=>by
  obtain⟨v,q⟩:=I2.cell x c e;exact absurd (aIq q.lt (by rw[z];exact hC)) (aKg _)
 have hLC:X.env.locals≠C:=aKm (aIq I2.lt hC);obtain⟨a,sb,ha⟩:=hsb;have haC:C≠a:=by
  rcases ha with rfl | ha
  ·exact Ne.symm hLC
  ·exact Ne.symm (cl' x a ha)
 refine⟨m,hm.sameBut sb haC,fun h' hsb=>⟨_,H',?_,q⟩⟩;refine I''.turned (t':=s''.toks) (it:=C) (fun b o hb e=>hsb.extBut b o hb e) hCn (Ne.symm hLC) (.inr (aKf I2.sz hC)) cl' fun p hp z=>?_;exact absurd (aIq (aJ3 (I2.pin p hp).1) (by rw[z];exact hC)) (aKg _)
end
end L2
namespace G
open PySem PySem.Spec PyProof.Rows L2
mutual
def eqT:T->T->Bool
 | .non,.non=>true
 | .bl a,.bl b=>a == b
 | .int a,.int b=>a == b
 | .str a,.str b=>a == b
 | .bl a,.int b=>(if a then 1 else 0) == b
 | .int a,.bl b=>a == (if b then 1 else 0)
 | .lst xs,.lst ys=>eqL xs ys
 | .tup xs,.tup ys=>eqL xs ys
 | .exc _,.exc _=>true
 | .dct _,.dct _=>true
 | .own _,.own _=>true
 | _,_=>false
def eqL:List T->List T->Bool
 | [],[]=>true
 | x::xs,y::ys=>eqT x y&&eqL xs ys
 | _,_=>false
end
mutual
def dep:T->Nat
 | .lst xs=>depL xs+1
 | .tup xs=>depL xs+1
 | .exc _=>61
 | .dct _=>61
 | .own _=>61
 | _=>0
def depL:List T->Nat
 | []=>0
 | x::xs=>max (dep x) (depL xs)
end
mutual
theorem AO:∀ t:T,eqT t t=true
 | .non=>by simp[eqT]
 | .bl _=>by simp[eqT]
 | .int _=>by simp[eqT]
 | .str _=>by simp[eqT]
 | .lst xs=>by simp[eqT,eqL_refl xs]
 | .tup xs=>by simp[eqT,eqL_refl xs]
 | .exc _=>by simp[eqT]
 | .dct _=>by simp[eqT]
 | .own _=>by simp[eqT]
theorem eqL_refl:∀ xs:List T,eqL xs xs=true
 | []=>by simp[eqL]
 | x::xs=>by simp[eqL,AO x,eqL_refl xs]
end
theorem AK:∀ {xs:List T}{t:T}{i:Nat},xs[i]?=some t->dep t<=depL xs
 | [],_,_,e=>by simp at e
 | x::xs,t,0,e=>by simp at e;subst e;simp[depL];lia
 | x::xs,t,i+1,e=>by
  have:=AK (xs:=xs) (i:=i) (t:=t) (by simpa using e);simp[depL];lia
theorem AN:∀ (xs ys:List T),xs.length=ys.length->eqL xs ys=(List.range xs.length).all fun j=>match xs[j]?,ys[j]? with | some a,some b=>eqT a b | _,_=>false
 | [],[],_=>by simp[eqL]
 | x::xs,y::ys,h=>by
  have ih:=AN xs ys (by simpa using h);rw[eqL,ih,aJo,List.range_succ_eq_map,List.all_cons,List.all_map];simp[Function.comp_def]
 | [],_::_,h=>by simp at h
 | _::_,[],h=>by simp at h
theorem AM:∀ (xs ys:List T),xs.length≠ys.length->eqL xs ys=false
 | [],[],h=>by simp at h
 | x::xs,y::ys,h=>by rw[eqL,AM xs ys (by simpa using h),Bool.and_false]
 | [],_::_,_=>by simp[eqL]
 | _::_,[],_=>by simp[eqL]
section
variable {X:Cx}{pins:List (Addr × Obj)}{σ:St}{H:Hp}{s:Shared}
mutual
theorem DT (I:Inv X pins σ H s) {A A':Addr->Prop}:∀ (t u:T) {v:V},dep t<=60->dep u<=60->Rep X.K H A t v->Rep X.K H A' u v->eqT t u=true
 | .non,.non,_,hd,hd2,_,_=>by simp[eqT]
 | .bl _,.bl _,_,hd,hd2,h,q=>by cases (show _=_ from h);cases (show _=_ from q);simp[eqT]
 | .int _,.int _,_,hd,hd2,h,q=>by cases (show _=_ from h);cases (show _=_ from q);simp[eqT]
 | .str _,.str _,_,hd,hd2,h,q=>by cases (show _=_ from h);cases (show _=_ from q);simp[eqT]
 | .lst xs,.lst ys,_,hd,hd2,h,q=>by
  obtain⟨a,us,e,h1,h2⟩:=h.sqL;obtain⟨b,ws,e',q1,q2⟩:=q.sqL;subst e;cases e';have:=I.list_inj h1 q1;subst this;rw[eqT];exact repL_same I xs ys (by simp[dep] at hd;lia) (by simp[dep] at hd2;lia) h2 q2
 | .tup xs,.tup ys,_,hd,hd2,h,q=>by
  obtain⟨a,us,e,h1,h2⟩:=h.sqT;obtain⟨b,ws,e',q1,q2⟩:=q.sqT;subst e;cases e';have:=I.tuple_inj h1 q1;subst this;rw[eqT];exact repL_same I xs ys (by simp[dep] at hd;lia) (by simp[dep] at hd2;lia) h2 q2
 | .lst xs,.tup ys,_,hd,hd2,h,q=>by
  obtain⟨a,us,e,h1,h2⟩:=h.sqL;obtain⟨b,ws,e',q1,q2⟩:=q.sqT;subst e;cases e'
  exfalso
  obtain⟨_,_,p1,_⟩:=I.list h1;obtain⟨_,_,p2,_⟩:=I.tuple q1;exact SeqAt.ne_of_list_tuple p1.isList p2 rfl
 | .tup xs,.lst ys,_,hd,hd2,h,q=>by
  obtain⟨a,us,e,h1,h2⟩:=h.sqT;obtain⟨b,ws,e',q1,q2⟩:=q.sqL;subst e;cases e'
  exfalso
  obtain⟨_,_,p1,_⟩:=I.tuple h1;obtain⟨_,_,p2,_⟩:=I.list q1;exact SeqAt.ne_of_list_tuple p2.isList p1 rfl
 | .non,.bl _,_,hd,hd2,h,q=>by cases (show _=_ from h);cases (show _=_ from q)
 | .non,.int _,_,hd,hd2,h,q=>by cases (show _=_ from h);cases (show _=_ from q)
 | .non,.str _,_,hd,hd2,h,q=>by cases (show _=_ from h);cases (show _=_ from q)
 | .non,.lst _,_,hd,hd2,h,q=>by cases (show _=_ from h);obtain⟨_,_,e,_⟩:=q;cases e
 | .non,.tup _,_,hd,hd2,h,q=>by cases (show _=_ from h);obtain⟨_,_,e,_⟩:=q;cases e
 | .bl _,.non,_,hd,hd2,h,q=>by cases (show _=_ from h);cases (show _=_ from q)
 | .bl _,.int _,_,hd,hd2,h,q=>by cases (show _=_ from h);cases (show _=_ from q)
 | .bl _,.str _,_,hd,hd2,h,q=>by cases (show _=_ from h);cases (show _=_ from q)
 | .bl _,.lst _,_,hd,hd2,h,q=>by cases (show _=_ from h);obtain⟨_,_,e,_⟩:=q;cases e
 | .bl _,.tup _,_,hd,hd2,h,q=>by cases (show _=_ from h);obtain⟨_,_,e,_⟩:=q;cases e
 | .int _,.non,_,hd,hd2,h,q=>by cases (show _=_ from h);cases (show _=_ from q)
 | .int _,.bl _,_,hd,hd2,h,q=>by cases (show _=_ from h);cases (show _=_ from q)
 | .int _,.str _,_,hd,hd2,h,q=>by cases (show _=_ from h);cases (show _=_ from q)
 | .int _,.lst _,_,hd,hd2,h,q=>by cases (show _=_ from h);obtain⟨_,_,e,_⟩:=q;cases e
 | .int _,.tup _,_,hd,hd2,h,q=>by cases (show _=_ from h);obtain⟨_,_,e,_⟩:=q;cases e
 | .str _,.non,_,hd,hd2,h,q=>by cases (show _=_ from h);cases (show _=_ from q)
 | .str _,.bl _,_,hd,hd2,h,q=>by cases (show _=_ from h);cases (show _=_ from q)
 | .str _,.int _,_,hd,hd2,h,q=>by cases (show _=_ from h);cases (show _=_ from q)
 | .str _,.lst _,_,hd,hd2,h,q=>by cases (show _=_ from h);obtain⟨_,_,e,_⟩:=q;cases e
 | .str _,.tup _,_,hd,hd2,h,q=>by cases (show _=_ from h);obtain⟨_,_,e,_⟩:=q;cases e
 | .lst _,.non,_,hd,hd2,h,q=>by cases (show _=_ from q);obtain⟨_,_,e,_⟩:=h;cases e
 | .lst _,.bl _,_,hd,hd2,h,q=>by cases (show _=_ from q);obtain⟨_,_,e,_⟩:=h;cases e
 | .lst _,.int _,_,hd,hd2,h,q=>by cases (show _=_ from q);obtain⟨_,_,e,_⟩:=h;cases e
 | .lst _,.str _,_,hd,hd2,h,q=>by cases (show _=_ from q);obtain⟨_,_,e,_⟩:=h;cases e
 | .tup _,.non,_,hd,hd2,h,q=>by cases (show _=_ from q);obtain⟨_,_,e,_⟩:=h;cases e
 | .tup _,.bl _,_,hd,hd2,h,q=>by cases (show _=_ from q);obtain⟨_,_,e,_⟩:=h;cases e
 | .tup _,.int _,_,hd,hd2,h,q=>by cases (show _=_ from q);obtain⟨_,_,e,_⟩:=h;cases e
 | .tup _,.str _,_,hd,hd2,h,q=>by cases (show _=_ from q);obtain⟨_,_,e,_⟩:=h;cases e
 | .non,.exc _,_,_,hd2,_,_=>by simp[dep] at hd2
 | .non,.dct _,_,_,hd2,_,_=>by simp[dep] at hd2
 | .non,.own _,_,_,hd2,_,_=>by simp[dep] at hd2
 | .bl _,.exc _,_,_,hd2,_,_=>by simp[dep] at hd2
 | .bl _,.dct _,_,_,hd2,_,_=>by simp[dep] at hd2
 | .bl _,.own _,_,_,hd2,_,_=>by simp[dep] at hd2
 | .int _,.exc _,_,_,hd2,_,_=>by simp[dep] at hd2
 | .int _,.dct _,_,_,hd2,_,_=>by simp[dep] at hd2
 | .int _,.own _,_,_,hd2,_,_=>by simp[dep] at hd2
 | .str _,.exc _,_,_,hd2,_,_=>by simp[dep] at hd2
 | .str _,.dct _,_,_,hd2,_,_=>by simp[dep] at hd2
 | .str _,.own _,_,_,hd2,_,_=>by simp[dep] at hd2
 | .lst _,.exc _,_,_,hd2,_,_=>by simp[dep] at hd2
 | .lst _,.dct _,_,_,hd2,_,_=>by simp[dep] at hd2
 | .lst _,.own _,_,_,hd2,_,_=>by simp[dep] at hd2
 | .tup _,.exc _,_,_,hd2,_,_=>by simp[dep] at hd2
 | .tup _,.dct _,_,_,hd2,_,_=>by simp[dep] at hd2
 | .tup _,.own _,_,_,hd2,_,_=>by simp[dep] at hd2
 | .exc _,_,_,hd,_,_,_=>by simp[dep] at hd
 | .dct _,_,_,hd,_,_,_=>by simp[dep] at hd
 | .own _,_,_,hd,_,_,_=>by simp[dep] at hd
theorem repL_same (I:Inv X pins σ H s) {A A':Addr->Prop}:∀ (ts us:List T) {xs:List V},depL ts<=60->depL us<=60->RepL X.K H A ts xs->RepL X.K H A' us xs->eqL ts us=true
 | [],[],_,_,_,_,_=>by simp[eqL]
 | t::ts,u::us,_,hd,hd2,h,q=>by
  simp only[depL] at hd hd2;obtain⟨x,r,e,h1,h2⟩:=h;obtain⟨y,r',e',q1,q2⟩:=q;subst e;cases e';rw[eqL,DT I t u (by lia) (by lia) h1 q1,repL_same I ts us (by lia) (by lia) h2 q2]
  rfl
 | [],_::_,_,_,_,h,q=>by
  cases (show _=_ from h);obtain⟨_,_,e,_⟩:=q;cases e
 | _::_,[],_,_,_,h,q=>by
  cases (show _=_ from q);obtain⟨_,_,e,_⟩:=h;cases e
end
open SeqAt in
theorem IH (I:Inv X pins σ H s) {A A':Addr->Prop}:∀ (n:Nat) (Ar:Around) (t u:T) (v w:V) (x y:Value),n<=60->dep t<=n->dep u<=60->Ar.units+n<cLine->Rep X.K H A t v->Rep X.K H A' u w->aX v x->aX w y->EqAt Ar s x y (eqT t u)/\RcAt Ar s x y (eqT t u)/\RcNeAt Ar s x y (!eqT t u):=by
 intro n
 induction n with
 | zero=>
  intro Ar t u v w x y hn hd hdu hu h q r r';have hu':Ar.units<cLine:=by lia
  cases t with
  | lst _=>simp[dep] at hd
  | tup _=>simp[dep] at hd
  | exc _=>simp[dep] at hd
  | dct _=>simp[dep] at hd
  | own _=>simp[dep] at hd
  | non=>
   cases (show _=_ from h);cases (show _=_ from r);cases u with
   | exc _=>simp[dep] at hdu
   | dct _=>simp[dep] at hdu
   | own _=>simp[dep] at hdu
   | non=>cases (show _=_ from q);cases (show _=_ from r');exact⟨EqAt.same _,RcAt.none_none,RcNeAt.none_none⟩
   | bl b=>cases (show _=_ from q);cases (show _=_ from r');exact⟨EqAt.none_bool _,RcAt.none_bool _,RcNeAt.none_bool _⟩
   | int b=>cases (show _=_ from q);obtain⟨k,rfl⟩:=r';exact⟨EqAt.none_int _ _,RcAt.none_int _ _,RcNeAt.none_int _ _⟩
   | str b=>cases (show _=_ from q);obtain⟨k,rfl⟩:=r';exact⟨EqAt.none_str _ _,RcAt.none_str _ _,RcNeAt.none_str _ _⟩
   | lst b=>
    obtain⟨a,us,rfl,q1,q2⟩:=q.sqL;cases r';obtain⟨_,_,p1,_⟩:=I.list q1;exact⟨EqAt.none_list p1.isList hu',RcAt.none_list p1.isList hu',RcNeAt.none_list p1.isList hu'⟩
   | tup b=>
    obtain⟨a,us,rfl,q1,q2⟩:=q.sqT;cases r';obtain⟨_,_,p1,_⟩:=I.tuple q1;exact⟨EqAt.none_tuple p1 hu',RcAt.none_tuple p1 hu',RcNeAt.none_tuple p1 hu'⟩
  | bl c=>
   cases (show _=_ from h);cases (show _=_ from r);cases u with
   | exc _=>simp[dep] at hdu
   | dct _=>simp[dep] at hdu
   | own _=>simp[dep] at hdu
   | non=>cases (show _=_ from q);cases (show _=_ from r');exact⟨EqAt.bool_none _,RcAt.bool_none _,RcNeAt.bool_none _⟩
   | bl b=>cases (show _=_ from q);cases (show _=_ from r');exact⟨EqAt.bool_bool _ _,RcAt.bool_bool _ _,RcNeAt.bool_bool _ _⟩
   | int b=>cases (show _=_ from q);obtain⟨k,rfl⟩:=r';exact⟨EqAt.bool_int _ _ _,RcAt.bool_int _ _ _,RcNeAt.bool_int _ _ _⟩
   | str b=>cases (show _=_ from q);obtain⟨k,rfl⟩:=r';exact⟨EqAt.bool_str _ _ _,RcAt.bool_str _ _ _,RcNeAt.bool_str _ _ _⟩
   | lst b=>
    obtain⟨a,us,rfl,q1,q2⟩:=q.sqL;cases r';obtain⟨_,_,p1,_⟩:=I.list q1;exact⟨EqAt.bool_list _ p1.isList hu',RcAt.bool_list _ p1.isList hu',RcNeAt.bool_list _ p1.isList hu'⟩
   | tup b=>
    obtain⟨a,us,rfl,q1,q2⟩:=q.sqT;cases r';obtain⟨_,_,p1,_⟩:=I.tuple q1;exact⟨EqAt.bool_tuple _ p1 hu',RcAt.bool_tuple _ p1 hu',RcNeAt.bool_tuple _ p1 hu'⟩
  | int c=>
   cases (show _=_ from h);obtain⟨k',rfl⟩:=r;cases u with
   | exc _=>simp[dep] at hdu
   | dct _=>simp[dep] at hdu
   | own _=>simp[dep] at hdu
   | non=>cases (show _=_ from q);cases (show _=_ from r');exact⟨EqAt.int_none _ _,RcAt.int_none _ _,RcNeAt.int_none _ _⟩
   | bl b=>cases (show _=_ from q);cases (show _=_ from r');exact⟨EqAt.int_bool _ _ _,RcAt.int_bool _ _ _,RcNeAt.int_bool _ _ _⟩
   | int b=>cases (show _=_ from q);obtain⟨k,rfl⟩:=r';exact⟨EqAt.int_int _ _ _ _,RcAt.int_int _ _ _ _,RcNeAt.int_int _ _ _ _⟩
   | str b=>cases (show _=_ from q);obtain⟨k,rfl⟩:=r';exact⟨EqAt.int_str _ _ _ _,RcAt.int_str _ _ _ _,RcNeAt.int_str _ _ _ _⟩
   | lst b=>
    obtain⟨a,us,rfl,q1,q2⟩:=q.sqL;cases r';obtain⟨_,_,p1,_⟩:=I.list q1;exact⟨EqAt.int_list _ _ p1.isList hu',RcAt.int_list _ _ p1.isList hu',RcNeAt.int_list _ _ p1.isList hu'⟩
   | tup b=>
    obtain⟨a,us,rfl,q1,q2⟩:=q.sqT;cases r';obtain⟨_,_,p1,_⟩:=I.tuple q1;exact⟨EqAt.int_tuple _ _ p1 hu',RcAt.int_tuple _ _ p1 hu',RcNeAt.int_tuple _ _ p1 hu'⟩
  | str c=>
   cases (show _=_ from h);obtain⟨k',rfl⟩:=r;cases u with
   | exc _=>simp[dep] at hdu
   | dct _=>simp[dep] at hdu
   | own _=>simp[dep] at hdu
   | non=>cases (show _=_ from q);cases (show _=_ from r');exact⟨EqAt.str_none _ _,RcAt.str_none _ _,RcNeAt.str_none _ _⟩
   | bl b=>cases (show _=_ from q);cases (show _=_ from r');exact⟨EqAt.str_bool _ _ _,RcAt.str_bool _ _ _,RcNeAt.str_bool _ _ _⟩
   | int b=>cases (show _=_ from q);obtain⟨k,rfl⟩:=r';exact⟨EqAt.str_int _ _ _ _,RcAt.str_int _ _ _ _,RcNeAt.str_int _ _ _ _⟩
   | str b=>cases (show _=_ from q);obtain⟨k,rfl⟩:=r';exact⟨EqAt.str_str _ _ _ _,RcAt.str_str _ _ _ _,RcNeAt.str_str _ _ _ _⟩
   | lst b=>
    obtain⟨a,us,rfl,q1,q2⟩:=q.sqL;cases r';obtain⟨_,_,p1,_⟩:=I.list q1;exact⟨EqAt.str_list _ _ p1.isList hu',RcAt.str_list _ _ p1.isList hu',RcNeAt.str_list _ _ p1.isList hu'⟩
   | tup b=>
    obtain⟨a,us,rfl,q1,q2⟩:=q.sqT;cases r';obtain⟨_,_,p1,_⟩:=I.tuple q1;exact⟨EqAt.str_tuple _ _ p1 hu',RcAt.str_tuple _ _ p1 hu',RcNeAt.str_tuple _ _ p1 hu'⟩
 | succ n ih=>
  intro Ar t u v w x y hn hd hdu hu h q r r';have hu':Ar.units<cLine:=by lia
  have sc:G.scal t=true->EqAt Ar s x y (eqT t u)/\RcAt Ar s x y (eqT t u)/\RcNeAt Ar s x y (!eqT t u):=fun sc=>
   ih Ar t u v w x y (by lia) (by cases t<;>first | (simp[dep];done) | (simp[G.scal] at sc)) hdu (by lia) h q r r'
  have parts:∀ {ts us:List T} {xs ys:List V} {its its2:List Value},depL ts<=n->depL us<=60->RepL X.K H A ts xs->RepL X.K H A' us ys->aL xs its->aL ys its2 ->
    ∀ j (h1:j<its.toArray.size) (h2:j<its2.toArray.size),EqAt Ar.in1 s its.toArray[j] its2.toArray[j] (match ts[j]?,us[j]? with | some a,some b=>eqT a b | _,_=>false):=by
   intro ts us xs ys its its2 hdn hdm hr hq hv hv' j h1 h2;have l1:=hr.length;have l2:=hq.length;have l3:=hv.length;have l4:=hv'.length;simp only[aIr] at h1 h2;have e1:ts[j]?=some ts[j]:=aIk (by lia);have e2:us[j]?=some us[j]:=aIk (by lia);obtain⟨a,g1,ra⟩:=hr.get e1;obtain⟨b,g2,rb⟩:=hq.get e2;obtain⟨c,g3,rc⟩:=hv.get g1;obtain⟨d,g4,rd⟩:=hv'.get g2;have i1:its.toArray[j]=c:=by
    have:=(aIn.mp g3).2
    simpa using this
   have i2:its2.toArray[j]=d:=by
    have:=(aIn.mp g4).2
    simpa using this
   rw[i1,i2,e1,e2];exact (ih Ar.in1 _ _ a b c d (by lia) (aKf (AK e1) hdn) (aKf (AK e2) hdm) (by show Ar.units+1+n<cLine;lia) ra rb rc rd).1
  cases t with
  | non=>exact sc rfl
  | bl _=>exact sc rfl
  | int _=>exact sc rfl
  | str _=>exact sc rfl
  | exc _=>exfalso;simp[dep] at hd;lia
  | dct _=>exfalso;simp[dep] at hd;lia
  | own _=>exfalso;simp[dep] at hd;lia
  | lst ts=>
   have hd':depL ts<=n:=by simp[dep] at hd;lia
   obtain⟨a,xs,rfl,h1,h2⟩:=h.sqL;cases r;obtain⟨its,hv,p1,_⟩:=I.list h1;have l1:=h2.length;have l3:=hv.length;cases u with
   | exc _=>simp[dep] at hdu
   | dct _=>simp[dep] at hdu
   | own _=>simp[dep] at hdu
   | non=>cases (show _=_ from q);cases (show _=_ from r');exact⟨EqAt.list_none p1.isList hu',RcAt.list_none p1.isList hu',RcNeAt.list_none p1.isList hu'⟩
   | bl b=>cases (show _=_ from q);cases (show _=_ from r');exact⟨EqAt.list_bool _ p1.isList hu',RcAt.list_bool _ p1.isList hu',RcNeAt.list_bool _ p1.isList hu'⟩
   | int b=>cases (show _=_ from q);obtain⟨k,rfl⟩:=r';exact⟨EqAt.list_int _ _ p1.isList hu',RcAt.list_int _ _ p1.isList hu',RcNeAt.list_int _ _ p1.isList hu'⟩
   | str b=>cases (show _=_ from q);obtain⟨k,rfl⟩:=r';exact⟨EqAt.list_str _ _ p1.isList hu',RcAt.list_str _ _ p1.isList hu',RcNeAt.list_str _ _ p1.isList hu'⟩
   | lst us=>
    obtain⟨b,ys,rfl,q1,q2⟩:=q.sqL;cases r';obtain⟨its2,hv',p2,_⟩:=I.list q1;have l2:=q2.length;have l4:=hv'.length;have rc:RcAt Ar s (.ref a) (.ref b) (eqT (.lst ts) (.lst us))/\RcNeAt Ar s (.ref a) (.ref b) (!eqT (.lst ts) (.lst us)):=by
     rw[eqT]
     by_cases hl:ts.length=us.length
     ·have hz:its.toArray.size=its2.toArray.size:=by simp only[aIr];lia
      have e1:=RcAt.lists p1.isList p2.isList hz hu' (parts hd' (by simp[dep] at hdu;lia) h2 q2 hv hv');have e2:=RcNeAt.lists p1.isList p2.isList hz hu' (parts hd' (by simp[dep] at hdu;lia) h2 q2 hv hv');have el:its.toArray.size=ts.length:=by simp only[aIr];lia
      rw[el,<- AN ts us hl] at e1 e2;exact⟨e1,e2⟩
     ·have hz:(its.toArray.size != its2.toArray.size)=true:=by simp only[aIr];simp;lia
      rw[AM ts us hl];exact⟨RcAt.lists_lengths p1.isList p2.isList hz hu',RcNeAt.lists_lengths p1.isList p2.isList hz hu'⟩
    refine⟨?_,rc⟩
    by_cases hab:a=b
    ·subst hab
     rw[DT I (.lst ts) (.lst us) (by lia) hdu h q];exact EqAt.same _
    ·exact EqAt.of_refs hab rc.1
   | tup us=>
    obtain⟨b,ys,rfl,q1,q2⟩:=q.sqT;cases r';obtain⟨its2,hv',p2,_⟩:=I.tuple q1;exact⟨EqAt.list_tuple p1.isList p2 hu',RcAt.list_tuple p1.isList p2 hu',RcNeAt.list_tuple p1.isList p2 hu'⟩
  | tup ts=>
   have hd':depL ts<=n:=by simp[dep] at hd;lia
   obtain⟨a,xs,rfl,h1,h2⟩:=h.sqT;cases r;obtain⟨its,hv,p1,_⟩:=I.tuple h1;have l1:=h2.length;have l3:=hv.length;cases u with
   | exc _=>simp[dep] at hdu
   | dct _=>simp[dep] at hdu
   | own _=>simp[dep] at hdu
   | non=>cases (show _=_ from q);cases (show _=_ from r');exact⟨EqAt.tuple_none p1 hu',RcAt.tuple_none p1 hu',RcNeAt.tuple_none p1 hu'⟩
   | bl b=>cases (show _=_ from q);cases (show _=_ from r');exact⟨EqAt.tuple_bool _ p1 hu',RcAt.tuple_bool _ p1 hu',RcNeAt.tuple_bool _ p1 hu'⟩
   | int b=>cases (show _=_ from q);obtain⟨k,rfl⟩:=r';exact⟨EqAt.tuple_int _ _ p1 hu',RcAt.tuple_int _ _ p1 hu',RcNeAt.tuple_int _ _ p1 hu'⟩
   | str b=>cases (show _=_ from q);obtain⟨k,rfl⟩:=r';exact⟨EqAt.tuple_str _ _ p1 hu',RcAt.tuple_str _ _ p1 hu',RcNeAt.tuple_str _ _ p1 hu'⟩
   | lst us=>
    obtain⟨b,ys,rfl,q1,q2⟩:=q.sqL;cases r';obtain⟨its2,hv',p2,_⟩:=I.list q1;exact⟨EqAt.tuple_list p1 p2.isList hu',RcAt.tuple_list p1 p2.isList hu',RcNeAt.tuple_list p1 p2.isList hu'⟩
   | tup us=>
    obtain⟨b,ys,rfl,q1,q2⟩:=q.sqT;cases r';obtain⟨its2,hv',p2,_⟩:=I.tuple q1;have l2:=q2.length;have l4:=hv'.length;have el:its.toArray.size=ts.length:=by simp only[aIr];lia
    have el2:its2.toArray.size=us.length:=by simp only[aIr];lia
    have same:((List.range (min its.toArray.size its2.toArray.size)).all (fun j=>match ts[j]?,us[j]? with | some a,some b=>eqT a b | _,_=>false)&&its.toArray.size == its2.toArray.size)=eqL ts us:=by
     by_cases hl:ts.length=us.length
     ·rw[el,el2,<- hl,Nat.min_self,<- AN ts us hl,beq_self_eq_true,Bool.and_true]
     ·rw[AM ts us hl,el,el2,beq_false_of_ne hl,Bool.and_false]
    have e1:=RcAt.tuples p1 p2 hu' (parts hd' (by simp[dep] at hdu;lia) h2 q2 hv hv');have e2:=RcNeAt.tuples p1 p2 hu' (parts hd' (by simp[dep] at hdu;lia) h2 q2 hv hv');rw[same] at e1 e2;have rc:RcAt Ar s (.ref a) (.ref b) (eqT (.tup ts) (.tup us))/\RcNeAt Ar s (.ref a) (.ref b) (!eqT (.tup ts) (.tup us)):=by
     rw[eqT];exact⟨e1,e2⟩
    refine⟨?_,rc⟩
    by_cases hab:a=b
    ·subst hab
     rw[DT I (.tup ts) (.tup us) (by lia) hdu h q];exact EqAt.same _
    ·exact EqAt.of_refs hab rc.1
end
def GOp (K:PySem.W.Frag) (r:R2) (F:T->T->Option T):Prop:=∀ x y t,F x y=some t->scal t=true/\∀ (H:Hp) (A A':Addr->Prop) (vx vy:V),Rep K H A x vx->Rep K H A' y vy->∀ Q:VK,Q (tv t) H->r vx vy H Q
theorem SOp.gop {K:PySem.W.Frag}{r:R2}{F:T->T->Option T}(h:SOp r F):GOp K r F:=fun x y t e=>by
 obtain⟨sx,sy,st,k⟩:=h x y t e;refine⟨st,fun H A A' vx vy rx ry Q q=>?_⟩;rw[MV sx] at rx;rw[MV sy] at ry;subst rx ry;exact k H Q q
def isB:T->Option Bool
 | .bl b=>some b
 | _=>none
def fB (f:Rho->Option T):Rho->Option Bool:=fun ρ=>(f ρ).bind isB
theorem BO {t:T}{b:Bool}(h:isB t=some b):t=.bl b:=by
 cases t<;>first | (cases h;done) | skip
 cases (aIi h);rfl
section
variable {X:Cx}{B:Hp}{fl:List Nat}{a b c e:Expr}{es:List Expr}{f g:Rho->Option T}{fa:Rho->Option (List T)}{p q:Rho->Option Bool}{n n':Bool}{l l':Nat}{pos:Pos}{op:CmpOp}{r:R2}{F:T->T->Option T}
theorem BA (ho:OpR X (compareOp op) r) (hF:GOp X.K r F) (ha:GE X B fl a f n l) (hb:GE X B fl b g n' l') (hm:behindInMarks op b=false):GE X B fl (.Compare a [op] [b] pos) (f2 f g F) true 3:=by
 refine bD (LL ho ha hb hm) ?_;rintro σ H Q ⟨Ex,ρ,M,t,S,hf,q⟩;obtain⟨x,hx,hf⟩:=bind_some hf;obtain⟨y,hy,hf⟩:=bind_some hf;obtain⟨st,k⟩:=hF x y t hf;refine⟨Ex,ρ,M,x,S,hx,fun vx H1 s1 rx=>⟨Ex,ρ,M,y,S.grow s1,hy,fun vy H2 s2 ry=>?_⟩⟩;exact k H2 _ _ vx vy ((rx.rep S).grow s2) (ry.rep (S.grow s1)) Q (q _ H2 (s1.trans s2) ((aM.scal st).mpr rfl))
theorem kD (ho:OpR X (compareOp op) r) (hF:GOp X.K r F) (ha:GE X B fl a f n l) (hb:GE X B fl b g n' l') (hm:behindInMarks op b=false):GT X B fl (.Compare a [op] [b] pos) (fB (f2 f g F)):=by
 refine DL (nW ho ha hb hm) ?_;rintro σ H Q ⟨Ex,ρ,M,c,S,hf,q⟩;obtain⟨t,hf,hc⟩:=bind_some hf;cases BO hc;obtain⟨x,hx,hf⟩:=bind_some hf;obtain⟨y,hy,hf⟩:=bind_some hf;obtain⟨st,k⟩:=hF x y _ hf;refine⟨Ex,ρ,M,x,S,hx,fun vx H1 s1 rx=>⟨Ex,ρ,M,y,S.grow s1,hy,fun vy H2 s2 ry=>?_⟩⟩;exact k H2 _ _ vx vy ((rx.rep S).grow s2) (ry.rep (S.grow s1)) _ ⟨c,rfl,q H2 (s1.trans s2)⟩
def oEq:T->T->Option T:=fun x y=>if max (dep x) (dep y)<=60 then some (.bl (eqT x y)) else none
def oNe:T->T->Option T:=fun x y=>if max (dep x) (dep y)<=60 then some (.bl (!eqT x y)) else none
def yF (K:PySem.W.Frag) (neg:Bool):R2:=fun x y H Q=>∃ t u A A',max (dep t) (dep u)<=60/\Rep K H A t x/\Rep K H A' u y/\Q (.bl (if neg then !eqT t u else eqT t u)) H
theorem LB (hu:X.A.units+64<cLine):OpR X (compareOp .Eq) (yF X.K false):=by
 intro pins s σ H x y v u Q I rx ry h;obtain⟨t,u',A,A',hd,r1,r2,q⟩:=h;exact (IH I 60 X.A t u' x y v u (aKe _) (by lia) (by lia) (by lia) r1 r2 rx ry).2.1 _ _ _ _ ⟨.bl _,H,I,rfl,q⟩
theorem aBz (hu:X.A.units+64<cLine):OpR X (compareOp .NotEq) (yF X.K true):=by
 intro pins s σ H x y v u Q I rx ry h;obtain⟨t,u',A,A',hd,r1,r2,q⟩:=h;exact (IH I 60 X.A t u' x y v u (aKe _) (by lia) (by lia) (by lia) r1 r2 rx ry).2.2 _ _ _ _ ⟨.bl _,H,I,rfl,q⟩
theorem JE {K:PySem.W.Frag}:GOp K (yF K false) oEq:=by
 intro x y t h;unfold oEq at h;split at h
 ·rename_i hd
  cases h;exact⟨rfl,fun H A A' vx vy rx ry Q q=>⟨x,y,A,A',hd,rx,ry,q⟩⟩
 ·cases h
theorem WP {K:PySem.W.Frag}:GOp K (yF K true) oNe:=by
 intro x y t h;unfold oNe at h;split at h
 ·rename_i hd
  cases h;exact⟨rfl,fun H A A' vx vy rx ry Q q=>⟨x,y,A,A',hd,rx,ry,q⟩⟩
 ·cases h
theorem BC (hu:X.A.units+64<cLine) (ha:GE X B fl a f n l) (hb:GE X B fl b g n' l'):GE X B fl (.Compare a [.Eq] [b] pos) (f2 f g oEq) true 3:=BA (LB hu) JE ha hb (eE _)
theorem dO (hu:X.A.units+64<cLine) (ha:GE X B fl a f n l) (hb:GE X B fl b g n' l'):GT X B fl (.Compare a [.Eq] [b] pos) (fB (f2 f g oEq)):=kD (LB hu) JE ha hb (eE _)
theorem mG (hu:X.A.units+64<cLine) (ha:GE X B fl a f n l) (hb:GE X B fl b g n' l'):GT X B fl (.Compare a [.NotEq] [b] pos) (fB (f2 f g oNe)):=kD (aBz hu) WP ha hb (eE _)
theorem kF (ha:GE X B fl a f n l) (hb:GE X B fl b g n' l'):GT X B fl (.Compare a [.Lt] [b] pos) (fB (f2 f g oLt)):=kD LF (SOp.gop (gY (fun _ _=>rfl) fun _ _=>rfl)) ha hb (eE _)
theorem sQ (ha:GE X B fl a f n l) (hb:GE X B fl b g n' l'):GT X B fl (.Compare a [.Gt] [b] pos) (fB (f2 f g oGt)):=kD aBs (SOp.gop (gY (fun _ _=>rfl) fun _ _=>rfl)) ha hb (eE _)
theorem xA (ha:GE X B fl a f n l) (hb:GE X B fl b g n' l'):GT X B fl (.Compare a [.GtE] [b] pos) (fB (f2 f g oGe)):=kD LC (SOp.gop (gY (fun _ _=>rfl) fun _ _=>rfl)) ha hb (eE _)
def qW:T->Bool
 | .non=>true
 | _=>false
theorem MT {K:PySem.W.Frag}{H:Hp}{A:Addr->Prop}{t:T}{v:V}(h:Rep K H A t v):decide (v=.non)=qW t:=by
 cases t with
 | non=>cases (show _=_ from h);rfl
 | bl _=>cases (show _=_ from h);rfl
 | int _=>cases (show _=_ from h);rfl
 | str _=>cases (show _=_ from h);rfl
 | lst _=>obtain⟨a,xs,rfl,_⟩:=h;rfl
 | tup _=>obtain⟨a,xs,rfl,_⟩:=h;rfl
 | exc _=>obtain⟨a,C,rfl,_⟩:=h;rfl
 | dct _=>obtain⟨a,rfl,_⟩:=h;rfl
 | own _=>obtain⟨a,xs,rfl,_⟩:=h;rfl
def oIs:T->T->Option T:=fun x y=>if qW y then some (.bl (qW x)) else none
def xO:T->T->Option T:=fun x y=>if qW y then some (.bl (!qW x)) else none
theorem JW {y:T}(h:qW y=true):y=.non:=by cases y<;>first | rfl | cases h
theorem JF {K:PySem.W.Frag}:GOp K (fun x y H Q=>y=.non/\Q (.bl (decide (x=.non))) H) oIs:=by
 intro x y t h;unfold oIs at h;split at h
 ·rename_i hy
  cases h;cases JW hy;exact⟨rfl,fun H A A' vx vy rx ry Q q=>⟨ry,by rw[MT rx];exact q⟩⟩
 ·cases h
theorem WN {K:PySem.W.Frag}:GOp K (fun x y H Q=>y=.non/\Q (.bl (!decide (x=.non))) H) xO:=by
 intro x y t h;unfold xO at h;split at h
 ·rename_i hy
  cases h;cases JW hy;exact⟨rfl,fun H A A' vx vy rx ry Q q=>⟨ry,by rw[MT rx];exact q⟩⟩
 ·cases h
theorem VQ (ha:GE X B fl a f n l) (hb:GE X B fl b g n' l'):GE X B fl (.Compare a [.Is] [b] pos) (f2 f g oIs) true 3:=BA LE JF ha hb (eE _)
theorem BJ (ha:GE X B fl a f n l) (hb:GE X B fl b g n' l'):GT X B fl (.Compare a [.Is] [b] pos) (fB (f2 f g oIs)):=kD LE JF ha hb (eE _)
theorem WX (ha:GE X B fl a f n l) (hb:GE X B fl b g n' l'):GT X B fl (.Compare a [.IsNot] [b] pos) (fB (f2 f g xO)):=kD aC0 WN ha hb (eE _)
def vX:T->Option Bool
 | .non=>some false
 | .bl b=>some b
 | .int i=>some (i != 0)
 | .lst ts=>some (!ts.isEmpty)
 | .tup ts=>some (!ts.isEmpty)
 | .str _=>none
 | .exc _=>none
 | .dct _=>none
 | .own _=>none
theorem aDl {K:PySem.W.Frag}{H:Hp}{A:Addr->Prop}{t:T}{v:V}{k:Bool}(h:Rep K H A t v) (e:vX t=some k):zY K v H k:=by
 cases t with
 | non=>cases (show _=_ from h);exact (aIi e).symm
 | bl _=>cases (show _=_ from h);exact (aIi e).symm
 | int _=>cases (show _=_ from h);exact (aIi e).symm
 | str _=>cases e
 | exc _=>cases e
 | dct _=>cases e
 | own _=>cases e
 | lst ts=>
  obtain⟨a,xs,rfl,h1,h2⟩:=h.sqL;have hl:=h2.length;refine .inl ⟨xs,h1,(aIi e).symm.trans ?_⟩;cases ts<;>cases xs<;>simp at hl ⊢
 | tup ts=>
  obtain⟨a,xs,rfl,h1,h2⟩:=h.sqT;have hl:=h2.length;refine .inr (.inl ⟨xs,h1,(aIi e).symm.trans ?_⟩);cases ts<;>cases xs<;>simp at hl ⊢
def fT (f:Rho->Option T):Rho->Option Bool:=fun ρ=>(f ρ).bind vX
theorem nM (h:GE X B fl e f n l) (he:∀ whole,isTrue e X.env whole=(do let v <- whole;standAt e.pos;holding [v] (truthy v)):=by intro _;rfl):GT X B fl e (fT f):=by
 refine DL (aCy h he) ?_;rintro σ H Q ⟨Ex,ρ,M,c,S,hf,q⟩;obtain⟨t,hf,hc⟩:=bind_some hf;exact⟨Ex,ρ,M,t,S,hf,fun v H1 s1 r1=>⟨c,aDl (r1.rep S) hc,q H1 s1⟩⟩
def nQ (p:Rho->Option Bool):Rho->Option Bool:=fun ρ=>(p ρ).map (!·)
def gP (p q:Rho->Option Bool):Rho->Option Bool:=fun ρ=>(p ρ).bind fun b=>if b then q ρ else some false
def pOr (p q:Rho->Option Bool):Rho->Option Bool:=fun ρ=>(p ρ).bind fun b=>if b then some true else q ρ
theorem BK (h:GT X B fl a p):GT X B fl (.UnaryOp .Not a pos) (nQ p):=by
 refine DL (DM h) ?_;rintro σ H Q ⟨Ex,ρ,M,c,S,hf,q⟩;unfold nQ at hf;cases e:p ρ with
 | none=>rw[e] at hf;cases hf
 | some d=>
  rw[e] at hf;cases (aIi hf);exact⟨Ex,ρ,M,d,S,e,fun H1 s1=>q H1 s1⟩
theorem sR (h:GT X B fl a p):GW X B fl (.BoolOp .And [a] pos) p:=aD2 h
theorem gN (h:GT X B fl a p):GW X B fl (.BoolOp .Or [a] pos) p:=yE h
theorem qT (h:GT X B fl a p) (k:GW X B fl (.BoolOp .And (b::es) pos) q):GW X B fl (.BoolOp .And (a::b::es) pos) (gP p q):=by
 refine MB (aD1 h k) ?_;rintro σ H Q ⟨Ex,ρ,M,c,S,hf,q⟩;obtain⟨d,e,hf⟩:=bind_some hf;refine⟨Ex,ρ,M,d,S,e,fun H1 s1=>?_⟩;cases d with
 | true=>exact fS ⟨Ex,ρ,M,c,S.grow s1,hf,fun H2 s2=>q H2 (s1.trans s2)⟩
 | false=>
  cases (aIi hf);exact cY (q H1 s1)
theorem fK (h:GT X B fl a p) (k:GW X B fl (.BoolOp .Or (b::es) pos) q):GW X B fl (.BoolOp .Or (a::b::es) pos) (pOr p q):=by
 refine MB (tZ h k) ?_;rintro σ H Q ⟨Ex,ρ,M,c,S,hf,q⟩;obtain⟨d,e,hf⟩:=bind_some hf;refine⟨Ex,ρ,M,d,S,e,fun H1 s1=>?_⟩;cases d with
 | false=>exact cY ⟨Ex,ρ,M,c,S.grow s1,hf,fun H2 s2=>q H2 (s1.trans s2)⟩
 | true=>
  cases (aIi hf);exact fS (q H1 s1)
theorem GW.gt (h:GW X B fl e p):GT X B fl e p:=h.pt
def zR (f:Rho->Option T):Rho->Option T:=fun ρ=>((f ρ).bind isB).map fun b=>.bl (!b)
def vY (f g:Rho->Option T):Rho->Option T:=fun ρ=>((f ρ).bind isB).bind fun b=>if b then g ρ else some (.bl false)
theorem JB {op:BoolOp}(h:GE X B fl a f n l):GE X B fl (.BoolOp op [a] pos) f n l:=aCf h
theorem VV (h:GE X B fl a f n l):GE X B fl (.UnaryOp .Not a pos) (zR f) true 3:=by
 refine bD (aCe h) ?_;rintro σ H Q ⟨Ex,ρ,M,t,S,hf,q⟩;unfold zR at hf;cases e:(f ρ).bind isB with
 | none=>rw[e] at hf;cases hf
 | some d=>
  rw[e] at hf;cases (aIi hf);obtain⟨u,hu,hd⟩:=bind_some e;cases BO hd;exact⟨Ex,ρ,M,_,S,hu,fun v H1 s1 r1=>⟨d,(aM.scal rfl).mp r1,q _ H1 s1 ((aM.scal rfl).mpr rfl)⟩⟩
theorem AY (h:GE X B fl a f n l) (k:GE X B fl (.BoolOp .And (b::es) pos) g n' l'):GE X B fl (.BoolOp .And (a::b::es) pos) (vY f g) false l':=by
 refine bD (aCa h k) ?_;rintro σ H Q ⟨Ex,ρ,M,t,S,hf,q⟩;obtain⟨d,e,hf⟩:=bind_some hf;obtain⟨u,hu,hd⟩:=bind_some e;cases BO hd;refine⟨Ex,ρ,M,_,S,hu,fun v H1 s1 r1=>⟨d,(aM.scal rfl).mp r1,?_⟩⟩;cases d with
 | true=>exact fS ⟨Ex,ρ,M,t,S.grow s1,hf,fun v H2 s2 r2=>q v H2 (s1.trans s2) (by have z:=(r2.rep (S.grow s1)).weak fun b x=>Ad.since s1 x;cases t<;>exact z)⟩
 | false=>
  cases (aIi hf);exact cY (q _ H1 s1 ((aM.scal rfl).mpr rfl))
def fIf (p:Rho->Option Bool) (f g:Rho->Option T):Rho->Option T:=fun ρ=>(p ρ).bind fun b=>if b then f ρ else g ρ
theorem BD (hc:GT X B fl c p) (ha:GE X B fl a f n l) (hb:GE X B fl b g n l):GE X B fl (.IfExp c a b pos) (fIf p f g) n l:=by
 refine bD (LN hc ha hb) ?_;rintro σ H Q ⟨Ex,ρ,M,t,S,hf,q⟩;obtain⟨d,e,hf⟩:=bind_some hf;refine⟨Ex,ρ,M,d,S,e,fun H1 s1=>?_⟩;cases d with
 | true=>exact fS ⟨Ex,ρ,M,t,S.grow s1,hf,fun v H2 s2 r2=>q v H2 (s1.trans s2) (r2.since s1)⟩
 | false=>exact cY ⟨Ex,ρ,M,t,S.grow s1,hf,fun v H2 s2 r2=>q v H2 (s1.trans s2) (r2.since s1)⟩
def tH:T->Option T
 | .int i=>some (.int (-i))
 | _=>none
theorem JA (h:GE X B fl a f n l):GE X B fl (.UnaryOp .USub a pos) (f1 f tH) true 3:=by
 refine bD (DH ER h) ?_;rintro σ H Q ⟨Ex,ρ,M,t,S,hf,q⟩;obtain⟨x,hx,hg⟩:=bind_some hf;cases x<;>first | (cases hg;done) | skip
 cases (aIi hg);exact⟨Ex,ρ,M,_,S,hx,fun v H1 s1 r1=>⟨_,(aM.scal rfl).mp r1,q _ H1 s1 ((aM.scal rfl).mpr rfl)⟩⟩
theorem aH:GA X B fl [] aE 3:=xV cB fun σ H Q ⟨Ex,ρ,M,ts,S,hf,q⟩=>q _ H (aK.refl H) (by cases (aIi hf);rfl)
theorem aF (ha:GE X B fl e f n l) (hr:GA X B fl es fa l') (hs:starEach (e::es) X.env=(false,eval e X.env)::starEach es X.env:=by rfl):GA X B fl (e::es) (aD f fa) (min l l'):=by
 refine xV (bI ha hr hs) ?_;rintro σ H Q ⟨Ex,ρ,M,ts,S,hf,q⟩;obtain⟨x,hx,hf⟩:=bind_some hf;obtain⟨xs,hxs,hf⟩:=bind_some hf;cases (aIi hf);refine⟨Ex,ρ,M,x,S,hx,fun v H1 s1 r1=>⟨Ex,ρ,M,xs,S.grow s1,hxs,fun vs H2 s2 r2=>q _ H2 (s1.trans s2) ⟨v,vs,rfl,?_,?_⟩⟩⟩
 ·exact ((r1.rep S).grow s2).weak fun b x=>x.le (Nat.min_le_left _ _)
 ·exact r2.weak fun b x=>(x.since s1).le (Nat.min_le_right _ _)
def cap:Nat:=1000000
theorem gJ {n:Nat}(h:n<=cap):n<sizeLine:=by rw[sizeLine_eq];unfold cap at h;lia
def cG (fa:Rho->Option (List T)):Rho->Option T:=fun ρ=>(fa ρ).bind fun ts=>if ts.length<=cap then some (.lst ts) else none
def dI (fa:Rho->Option (List T)):Rho->Option T:=fun ρ=>(fa ρ).bind fun ts=>if ts.length<=cap then some (.tup ts) else none
theorem eI (ha:GA X B fl es fa l):GE X B fl (.List es pos) (cG fa) true l:=by
 refine bD (xX ha) ?_;rintro σ H Q ⟨Ex,ρ,M,t,S,hf,q⟩;obtain⟨ts,hts,hf⟩:=bind_some hf;split at hf
 ·rename_i hl
  cases (aIi hf);refine⟨Ex,ρ,M,ts,S,hts,fun vs H1 s1 r1=>⟨by rw[<- r1.length];exact aKd (gJ hl),fun p hp=>q _ _ (s1.trans (cK hp _)) (aM.laid s1 hp r1)⟩⟩
 ·cases hf
theorem sL {k:Nat}(ha:GA X B fl es fa l):GE X B fl (.Tuple es k pos) (dI fa) true l:=by
 refine bD (xY ha) ?_;rintro σ H Q ⟨Ex,ρ,M,t,S,hf,q⟩;obtain⟨ts,hts,hf⟩:=bind_some hf;split at hf
 ·rename_i hl
  cases (aIi hf);refine⟨Ex,ρ,M,ts,S,hts,fun vs H1 s1 r1=>⟨by rw[<- r1.length];exact aKd (gJ hl),fun p hp=>q _ _ (s1.trans (cK hp _)) ?_⟩⟩;have hp0:=s1.free hp;exact⟨p,vs,rfl,.inl (.inl bN),r1.grow (cK hp _)⟩
 ·cases hf
def oIx:T->T->Option T
 | .lst ts,.int i=>atI ts i
 | .tup ts,.int i=>atI ts i
 | _,_=>none
theorem RepL.at {K:PySem.W.Frag}{H:Hp}{A:Addr->Prop}{ts:List T}{xs:List V}{i:Int}{t:T}(h:RepL K H A ts xs) (e:atI ts i=some t):∃ x,atI xs i=some x/\Rep K H A t x:=by
 unfold atI at e ⊢;rw[<- h.length];cases q:ixN ts.length i with
 | none=>rw[q] at e;cases e
 | some j=>rw[q] at e;exact h.get e
theorem bW (ha:GE X B fl a f n l) (hb:GE X B fl b g n' l') (hs:FS b:=by exact fun _ _=>rfl):GE X B fl (.Subscript a b pos) (f2 f g oIx) false l:=by
 refine bD (kL YG ha hb hs) ?_;rintro σ H Q ⟨Ex,ρ,M,t,S,hf,q⟩;obtain⟨x,hx,hf⟩:=bind_some hf;obtain⟨y,hy,hf⟩:=bind_some hf;refine⟨Ex,ρ,M,x,S,hx,fun vx H1 s1 rx=>⟨Ex,ρ,M,y,S.grow s1,hy,fun vy H2 s2 ry=>?_⟩⟩;have rx':=(rx.rep S).grow s2;have ry':=ry.rep (S.grow s1);cases y<;>first | (cases x<;>cases hf;done) | skip
 rename_i i;cases (show _=_ from ry');cases x with
 | lst ts=>
  obtain⟨p,xs,rfl,h1,h2⟩:=rx'.sqL;obtain⟨z,hz,rz⟩:=h2.at hf;exact .inl ⟨p,xs,i,z,rfl,rfl,h1,hz,q _ _ (s1.trans s2) (by cases t<;>exact rz)⟩
 | tup ts=>
  obtain⟨p,xs,rfl,h1,h2⟩:=rx'.sqT;obtain⟨z,hz,rz⟩:=h2.at hf;exact .inr (.inl ⟨p,xs,i,z,rfl,rfl,h1,hz,q _ _ (s1.trans s2) (by cases t<;>exact rz)⟩)
 | non=>cases hf
 | bl _=>cases hf
 | int _=>cases hf
 | str _=>cases hf
 | exc _=>cases hf
 | dct _=>cases hf
 | own _=>cases hf
def cD:List T->Option T
 | [.lst ts]=>some (.int ts.length)
 | [.tup ts]=>some (.int ts.length)
 | _=>none
def aG (fa:Rho->Option (List T)) (F:List T->Option T):Rho->Option T:=fun ρ=>(fa ρ).bind F
theorem dR {K:PySem.W.Frag}{H:Hp}{A:Addr->Prop}{t:T}{xs:List V}(h:RepL K H A [t] xs):∃ x,xs=[x]/\Rep K H A t x:=by
 obtain⟨x,r,e,h1,h2⟩:=h;cases (show _=[] from h2);exact⟨x,e,h1⟩
theorem cX {x:Str}{p':Pos}(hx:x = "len") (hg:Gl X x) (hm:X.mg x=none) (ha:GA X B fl (e::es) fa l)
  (he:starEach (e::es) X.env=(false,eval e X.env)::starEach es X.env:=by rfl) (hpl:(backTo pos (starEach es X.env)).any (·.1)=false:=by rfl):GE X B fl (.Call (.Name x p') (e::es) [] pos) (aG fa cD) true 3:=by
 subst hx;refine bD (gQ wD hg hm PySem.boot_len ha (by decide) (by decide) he hpl) ?_;rintro σ H Q ⟨Ex,ρ,M,t,S,hf,q⟩;obtain⟨ts,hts,hf⟩:=bind_some hf;refine⟨Ex,ρ,M,ts,S,hts,fun vs H1 s1 r1=>?_⟩
 match ts,hf with
 | [.lst us],hf=>
  cases (aIi hf);obtain⟨y,rfl,ry⟩:=dR r1;obtain⟨p,xs,rfl,h1,h2⟩:=ry.sqL;exact⟨p,xs,rfl,.inl h1,by rw[<- h2.length];exact q _ H1 s1 ((aM.scal rfl).mpr rfl)⟩
 | [.tup us],hf=>
  cases (aIi hf);obtain⟨y,rfl,ry⟩:=dR r1;obtain⟨p,xs,rfl,h1,h2⟩:=ry.sqT;exact⟨p,xs,rfl,.inr h1,by rw[<- h2.length];exact q _ H1 s1 ((aM.scal rfl).mpr rfl)⟩
def KW:List T->Option T
 | [.lst ts]=>some (.lst ts)
 | [.tup ts]=>some (.lst ts)
 | _=>none
end
section
variable {X:Cx}{B:Hp}{fl:List Nat}{a b c e tg iter elt:Expr}{es ifs:List Expr}{f g:Rho->Option T}{fa:Rho->Option (List T)}{p q:Rho->Option Bool}{n n':Bool}{l l':Nat}{pos:Pos}
def aD4 (K:PySem.W.Frag):R2:=fun x y H Q=>∃ l b xs zs,x=.ref l/\y=.ref b/\SqL K H l xs/\SqL K H b zs/\xs.length+zs.length<=sizeLine/\∀ p,H p=none->Q (.ref p) (upd H p (.lst (xs++zs)))
theorem aBr:OpR X (binaryOp .Add) (aD4 X.K):=by
 intro pins s σ H x y v u Q I rx ry h;obtain⟨l,b,xs,zs,rfl,rfl,hH,hB,hz,q⟩:=h;cases rx;cases ry;obtain⟨its,r,p1,z⟩:=I.list hH;obtain⟨its2,r2,p2,z2⟩:=I.list hB;have hl:=r.length;have hl2:=r2.length;obtain⟨⟨cls,dd,data,sl⟩,n,e,hc,hd,hq⟩:=p1;obtain⟨⟨cls2,dd2,data2,sl2⟩,n2,e2,hc2,hd2,hq2⟩:=p2;simp only at hc hd hq hc2 hd2 hq2;subst hc hd hq hc2 hd2 hq2;have ea:its.toArray++its2.toArray=(its++its2).toArray:=by simp
 refine concat_meets ⟨_,e,rfl⟩ ⟨_,e2,rfl⟩ noFill_list_add seq_list_add PySem.F.slot_list_add PySem.F.entry_list_add (PySem.F.args_list_add_2 _ _) (list_addW l b its.toArray its2.toArray n n2 none none sl sl2 (by simp only[aIr];omega)) ⟨e,e2,?_⟩;rw[ea];exact⟨.ref _,_,I.lnew (t':=s.toks) (r.append r2) (by rw[aJn];omega),rfl,q _ I.fresh⟩
def cU:T->T->Option T
 | .lst xs,.lst ys=>if xs.length+ys.length<=cap then some (.lst (xs++ys)) else none
 | _,_=>none
theorem nI (ha:GE X B fl a f n l) (hb:GE X B fl b g n' l'):GE X B fl (.BinOp a .Add b pos) (f2 f g cU) true (min l l'):=by
 refine bD (tU aBr ha hb) ?_;rintro σ H Q ⟨Ex,ρ,M,t,S,hf,q⟩;obtain⟨x,hx,hf⟩:=bind_some hf;obtain⟨y,hy,hf⟩:=bind_some hf;refine⟨Ex,ρ,M,x,S,hx,fun vx H1 s1 rx=>⟨Ex,ρ,M,y,S.grow s1,hy,fun vy H2 s2 ry=>?_⟩⟩;have rx':=(rx.rep S).grow s2;have ry':=ry.rep (S.grow s1);cases x<;>first | (cases hf;done) | skip
 cases y<;>first | (cases hf;done) | skip
 rename_i xs ys;unfold cU at hf;dsimp only at hf;split at hf
 ·rename_i hl
  cases (aIi hf);obtain⟨p1,us,rfl,h1,h2⟩:=rx'.sqL;obtain⟨p2,ws,rfl,k1,k2⟩:=ry'.sqL;refine⟨p1,p2,us,ws,rfl,rfl,h1,k1,?_,fun p hp=>q _ _ ((s1.trans s2).trans (cK hp _)) (aM.laid (s1.trans s2) hp (RepL.app (h2.weak fun b x=>x.le (Nat.min_le_left _ _)) (k2.weak fun b x=>(x.since s1).le (Nat.min_le_right _ _))))⟩;rw[<- h2.length,<- k2.length];exact aKd (gJ hl)
 ·cases hf
def aD7:R2:=fun x y H Q=>∃ l k v,x=.ref l/\y=.int k/\H l=some (.lst [v]) /\ -(2^63)<=k/\k<2^63/\k.toNat<=sizeLine/\∀ p,H p=none->Q (.ref p) (upd H p (.lst (List.replicate k.toNat v)))
theorem MU {α:Type}(v:α):∀ k:Nat,(List.replicate k [v]).flatten=List.replicate k v
 | 0=>rfl
 | k+1=>by rw[aK9,List.flatten_cons,MU v k,aK9];rfl
theorem LG:OpR X (binaryOp .Mult) aD7:=by
 intro pins s σ H x y v u Q I rx ry h;obtain⟨l,k,w,rfl,rfl,hH,h1,h2,hz,q⟩:=h;exact aC2 pins s σ H _ _ _ _ Q I rx ry ⟨l,k,[w],rfl,rfl,hH,h1,h2,by simpa using hz,fun p hp=>by rw[MU];exact q p hp⟩
def tK:T->T->Option T
 | .lst [t],.int k=>if 0<=k/\k<=cap then some (.lst (List.replicate k.toNat t)) else none
 | _,_=>none
theorem MO {K:PySem.W.Frag}{H:Hp}{A:Addr->Prop}{t:T}{v:V}(h:Rep K H A t v):∀ k:Nat,RepL K H A (List.replicate k t) (List.replicate k v)
 | 0=>rfl
 | k+1=>⟨v,_,rfl,h,MO h k⟩
theorem VW (ha:GE X B fl a f true l) (hb:GE X B fl b g n' l'):GE X B fl (.BinOp a .Mult b pos) (f2 f g tK) true l:=by
 refine bD (tU LG ha hb) ?_;rintro σ H Q ⟨Ex,ρ,M,t,S,hf,q⟩;obtain⟨x,hx,hf⟩:=bind_some hf;obtain⟨y,hy,hf⟩:=bind_some hf;refine⟨Ex,ρ,M,x,S,hx,fun vx H1 s1 rx=>⟨Ex,ρ,M,y,S.grow s1,hy,fun vy H2 s2 ry=>?_⟩⟩
 match x,y,hf with
 | .lst [z],.int k,hf=>
  unfold tK at hf;dsimp only at hf;split at hf
  ·rename_i hk
   cases (aIi hf);obtain⟨p1,us,rfl,h0,h1,h2⟩:=rx;obtain⟨w,rfl,rw'⟩:=dR h2;cases (show vy=V.int k from (aM.scal rfl).mp ry);have hc:k.toNat<=cap:=by omega
   refine⟨p1,k,w,rfl,rfl,s2 _ _ h1,by omega,by have:=hk.2;unfold cap at this;omega,aKd (gJ hc),fun p hp=>q _ _ ((s1.trans s2).trans (cK hp _)) (aM.laid (s1.trans s2) hp (MO ((rw'.grow s2).weak fun b x=>x.1) _))⟩
  ·cases hf
def cF {α:Type} (xs:List α) (lo hi st:Option Int):List α:=
 (sliceRange (sliceBounds lo hi st xs.length).1 (sliceBounds lo hi st xs.length).2.1 (sliceBounds lo hi st xs.length).2.2).filterMap (xs[·]?)
theorem MN {K:PySem.W.Frag}{H:Hp}{A:Addr->Prop}{ts:List T}{xs:List V}(h:RepL K H A ts xs):∀ is:List Nat,RepL K H A (is.filterMap (ts[·]?)) (is.filterMap (xs[·]?))
 | []=>rfl
 | i::is=>by
  have ih:=MN h is;have hl:=h.length;cases e:ts[i]? with
  | none=>
   have e':xs[i]?=none:=by
    rw[List.getElem?_eq_none_iff] at e ⊢;omega
   rw[aJb,aJb,e,e'];exact ih
  | some t=>
   obtain⟨x,ex,rx⟩:=h.get e;rw[aJb,aJb,e,ex];exact⟨x,_,rfl,rx,ih⟩
theorem aDj {K:PySem.W.Frag}{H:Hp}{A:Addr->Prop}{ts:List T}{xs:List V}(h:RepL K H A ts xs) (lo hi st:Option Int):RepL K H A (cF ts lo hi st) (cF xs lo hi st):=by
 unfold cF;rw[h.length];exact MN h _
theorem OS {xs:List V}{us:List Value}(h:aL xs us):∀ is:List Nat,aL (is.filterMap (xs[·]?)) (is.filterMap (us[·]?))
 | []=>.nil
 | i::is=>by
  have ih:=OS h is;cases e:xs[i]? with
  | none=>
   rw[aJb,aJb,e,h.none_of e];exact ih
  | some t=>
   obtain⟨x,ex,rx⟩:=h.get e;rw[aJb,aJb,e,ex];exact .cons rx ih
def GO (X:Cx) (B:Hp) (fl:List Nat) (e:Option Expr) (f:Rho->Option (Option Int)):Prop:=
 PO X e (fun σ H Q=>∃ Ex ρ M o,Sl X.K B fl Ex σ ρ M H/\f ρ=some o/\∀ H',aK H H'->Q o H')
def cJ:Rho->Option (Option Int):=fun _=>some none
def isI:T->Option Int
 | .int i=>some i
 | _=>none
def eW (f:Rho->Option T):Rho->Option (Option Int):=fun ρ=>((f ρ).bind isI).map some
theorem dN:GO X B fl none cJ:=fun pins s σ H Q I ⟨_,_,_,o,_,hf,q⟩=>LV pins s σ H Q I (by cases (aIi hf);exact q H (aK.refl H))
theorem jC (h:GE X B fl e f n l):GO X B fl (some e) (eW f):=by
 intro pins s σ H Q I hq;obtain⟨Ex,ρ,M,o,S,hf,q⟩:=hq;refine LW h pins s σ H Q I ?_;unfold eW at hf;cases e1:(f ρ).bind isI with
 | none=>rw[e1] at hf;cases hf
 | some i=>
  rw[e1] at hf;cases (aIi hf);obtain⟨t,ht,hi⟩:=bind_some e1;cases t<;>first | (cases hi;done) | skip
  cases (aIi hi);exact⟨Ex,ρ,M,_,S,ht,fun v H1 s1 r1=>⟨i,(aM.scal rfl).mp r1,q H1 s1⟩⟩
def fG (f:Rho->Option T) (lo hi st:Rho->Option (Option Int)):Rho->Option T:=fun ρ=>(f ρ).bind fun x=>(lo ρ).bind fun a=>(hi ρ).bind fun b=>(st ρ).bind fun c=>
 match x with
 | .lst ts=>if c=some 0 then none else some (.lst (cF ts a b c))
 | _=>none
theorem kB {lo hi st:Option Expr}{fl' fh fs:Rho->Option (Option Int)}{p2:Pos}(he:GE X B fl e f n l) (hl:GO X B fl lo fl') (hh:GO X B fl hi fh) (hst:GO X B fl st fs)
  (hsub:∀ (v sl:Value),∃ ops,subscripted (.Slice lo hi st p2) false v sl=operate ops (getItem v sl):=by intro _ _;first | exact⟨_,rfl⟩ | (refine⟨_,?_⟩;with_unfolding_all rfl)):
  GE X B fl (.Subscript e (.Slice lo hi st p2) pos) (fG f fl' fh fs) true l:=by
 intro pins s σ H Q I hq;obtain⟨Ex,ρ,M,t,S,hf,q⟩:=hq;obtain⟨x,hx,hf⟩:=bind_some hf;obtain⟨a,ha,hf⟩:=bind_some hf;obtain⟨b,hb,hf⟩:=bind_some hf;obtain⟨c,hc,hf⟩:=bind_some hf;have hx2:∃ ts,x=.lst ts:=by
  cases x<;>first | (cases hf;done) | exact⟨_,rfl⟩
 obtain⟨ts,rfl⟩:=hx2;dsimp only at hf;split at hf
 ·cases hf
 ·rename_i hc0
  cases (aIi hf);refine Subscript_ (thn (he pins s σ H (fun v H1=>aK H H1/\aM X.K B H M H1 n l (.lst ts) v) I ⟨Ex,ρ,M,_,S,hx,fun v H1 s1 r1=>⟨s1,r1⟩⟩) fun v s1 ⟨x,H1,I1,r1,s01,rx⟩=>?_);refine wpAny_Slice (thn (hl pins s1 σ H1 (fun o H2=>o=a/\aK H1 H2) I1 ⟨Ex,ρ,M,a,S.grow s01,ha,fun H2 s2=>⟨rfl,s2⟩⟩) fun vl s2 ⟨o,H2,I2,pl,e2,s12⟩=>?_);subst e2;refine thn (hh pins s2 σ H2 (fun o H3=>o=b/\aK H2 H3) I2 ⟨Ex,ρ,M,b,S.grow (s01.trans s12),hb,fun H3 s3=>⟨rfl,s3⟩⟩) fun vu s3 ⟨o2,H3,I3,pu,e3,s23⟩=>?_;subst e3;refine thn (hst pins s3 σ H3 (fun o H4=>o=c/\aK H3 H4) I3 ⟨Ex,ρ,M,c,S.grow ((s01.trans s12).trans s23),hc,fun H4 s4=>⟨rfl,s4⟩⟩) fun vs s4 ⟨o3,H4,I4,pst,e4,s34⟩=>?_;subst e4;have I5:Inv X pins σ H4 { s4 with heap:=s4.heap.push { cls:=.type "slice",data:=.fields #[vl,vu,vs] } }:=I4.kept (t':=s4.toks) fun b ob q=>aIt _ q;have rx':=(rx.rep S).grow ((s12.trans s23).trans s34);obtain⟨p1,us,rfl,h1,h2⟩:=rx'.sqL;cases r1;obtain⟨its,rv,pl',hz⟩:=I5.list h1;have hlen:=rv.length;show wpAny (model X.prog X.w) X.A (subscriptTail e (.Slice lo hi st p2) (.ref p1) (.ref s4.heap.objs.size)) (EP X pins σ Q) X.xe { s4 with heap:=s4.heap.push { cls:=.type "slice",data:=.fields #[vl,vu,vs] } };obtain⟨ops,hops⟩:=hsub (.ref p1) (.ref s4.heap.objs.size);refine tail_any (ops:=ops) (pl'.isList.typeIs) slot_list_getitem.lookup ?_ hops;refine wpAny_getItem_list_slice pl'.isList (Heap.IsSliceOf.new ..) pl pu pst hc0 ?_ (by rw[aIr];omega);have e0:slicePick its.toArray o o2 o3=(cF its o o2 o3).toArray:=by
   unfold slicePick cF;simp
  rw[e0];have e1:cF its o o2 o3=(sliceRange (sliceBounds o o2 o3 us.length).1 (sliceBounds o o2 o3 us.length).2.1 (sliceBounds o o2 o3 us.length).2.2).filterMap (its[·]?):=by
   unfold cF;rw[hlen]
  have hv:aL (cF us o o2 o3) (cF its o o2 o3):=by
   rw[e1];exact OS rv _
  have hzz:(cF us o o2 o3).length<=sizeLine:=by
   rw[hv.length];have:=slicePick_size_le its.toArray o o2 o3;rw[e0] at this;simp only[aIr] at this;omega
  have hnew:H4 (s4.heap.push { cls:=.type "slice",data:=.fields #[vl,vu,vs] }).objs.size=none:=I5.hok.fresh (aKe _);refine⟨.ref _,_,I5.lnew (t':=s4.toks) hv hzz,rfl,q _ _ (((s01.trans s12).trans (s23.trans s34)).trans (cK hnew _)) ?_⟩;exact aM.laid ((s01.trans s12).trans (s23.trans s34)) hnew (aDj h2 _ _ _)
def Am (sc:Bool) (A:Addr->Prop) (H:Hp):Addr->Prop:=fun a=>sc=false/\(A a\/H a=none)
def qJ (K:PySem.W.Frag) (J:It) (ps:List (T × V)) (ts:List T) (sc:Bool):Prop:=
 ∀ (H:Hp) (A:Addr->Prop),(∀ p∈ps,Rep K H A p.1 p.2)->∀ i:Nat,(∀ t,ts[i]?=some t->J.go i H/\∀ x H',J.yld i H x H'->aK H H'/\Rep K H' (Am sc A H) t x)/\(ts.length<=i->J.stop i H)
def tGI (K:PySem.W.Frag) (B:Hp) (fl:List Nat) (f:Rho->Option (List T)) (l:Nat) (sc:Bool):TI:=fun σ H R=>
 ∃ Ex ρ M ts,Sl K B fl Ex σ ρ M H/\f ρ=some ts/\∀ J H' ps,aK H H'->(∀ p∈ps,Rep K H' (Ad B H M l) p.1 p.2)->qJ K J ps ts sc->R J H'
def GI (X:Cx) (B:Hp) (fl:List Nat) (tg e:Expr) (f:Rho->Option (List T)) (l:Nat) (sc:Bool):Prop:=PI X tg e (tGI X.K B fl f l sc)
theorem tX {t t':TI}(h:PI X tg e t) (k:∀ σ H R,t' σ H R->t σ H R):PI X tg e t':=fun pins s σ H R I q=>h pins s σ H R I (k σ H R q)
def isL:T->Option (List T)
 | .lst ts=>some ts
 | _=>none
def fL (f:Rho->Option T):Rho->Option (List T):=fun ρ=>(f ρ).bind isL
def jD:T->Option (List T)
 | .lst ts=>if cC ts then some ts else none
 | _=>none
def fFL (f:Rho->Option T):Rho->Option (List T):=fun ρ=>(f ρ).bind jD
theorem KI {pins:List (Addr × Obj)}{s:Shared}{σ:St}{H:Hp}{R:It->Hp->Prop}{Ex:List (T × V)}{ρ:Rho}{M:List Addr}{ts:List T}{sc:Bool}(h:GE X B fl e f n l) (I:Inv X pins σ H s) (S:Sl X.K B fl Ex σ ρ M H) (ht:f ρ=some (.lst ts)) (hsc:sc=true->cC ts=true)
  (q:∀ J H' ps,aK H H'->(∀ p∈ps,Rep X.K H' (Ad B H M l) p.1 p.2)->qJ X.K J ps ts sc->R J H'):
  wpAny (model X.prog X.w) X.A (eval e X.env) (fun v s1=>wpAny (model X.prog X.w) X.A (pyIter v) (PIE X pins σ tg R) X.xe s1) X.xe s:=by
 refine thn (h pins s σ H (fun v H1=>aK H H1/\aM X.K B H M H1 n l (.lst ts) v) I ⟨Ex,ρ,M,_,S,ht,fun v H1 s1 r1=>⟨s1,r1⟩⟩) fun v s1 ⟨x,H1,I1,r1,s01,rx⟩=>?_;have rx':=rx.rep S;obtain⟨a,xs,rfl,hs,hr⟩:=rx'.sqL;cases r1;obtain⟨its,rv,p,hz⟩:=I1.list hs;refine wpAny_pyIter_list p.isList ?_;refine⟨s1.heap.objs.size,[s1.heap.objs.size],_,_,H1,rfl,I1.kept (t':=s1.toks) fun b o e=>aIt _ e,ON a _,⟨_,aJ2 _ rfl,rfl,rfl⟩,fun b hb=>?_,?_⟩
 ·have e:b=s1.heap.objs.size:=by simpa using hb
  subst e;exact I1.fpOk (aKe _) (I1.hok.fresh (aKe _))
 ·refine q (Itl X.K a) H1 [(.lst ts,.ref a)] s01 (fun p hp=>by cases aK7.mp hp;exact rx') ?_
  intro H2 A hA i;obtain⟨a',ys,e,hs2,hr2⟩:=(hA _ aIm).sqL;cases e;refine⟨fun t hti=>?_,fun hi=>⟨ys,hs2,by rw[<- hr2.length];exact hi⟩⟩;obtain⟨y,hy,ry⟩:=hr2.get hti;refine⟨⟨ys,y,hs2,hy⟩,fun z H3 hz=>?_⟩;obtain⟨rfl,hz⟩:=hz;have:=hz ys hs2;rw[hy] at this;cases (aIi this);refine⟨aK.refl _,?_⟩;cases sc with
  | false=>exact ry.weak fun b x=>⟨rfl,.inl x⟩
  | true=>
   have hs:G.im t=true:=aIo.mp (hsc rfl) t (List.mem_of_getElem? hti);exact rC t hs ry
theorem sM (h:GE X B fl e f n l):GI X B fl tg e (fL f) l false:=by
 intro pins s σ H R I hq;obtain⟨Ex,ρ,M,ts,S,hf,q⟩:=hq;obtain⟨t,ht,hl⟩:=bind_some hf;cases t<;>first | (cases hl;done) | skip
 cases (aIi hl);exact KI h I S ht (fun z=>by cases z) q
theorem eV (h:GE X B fl e f n l):GI X B fl tg e (fFL f) l true:=by
 intro pins s σ H R I hq;obtain⟨Ex,ρ,M,ts,S,hf,q⟩:=hq;obtain⟨t,ht,hl⟩:=bind_some hf;cases t<;>first | (cases hl;done) | skip
 unfold jD at hl;dsimp only at hl;split at hl
 ·rename_i hfl
  cases (aIi hl);exact KI h I S ht (fun _=>hfl) q
 ·cases hl
def rangeT (lo:Int) (n:Nat):List T:=(List.range n).map fun (i:Nat)=>T.int (lo+(i:Int))
def dF:List T->Option (List T)
 | [.int j]=>if j.natAbs<2^62 then some (rangeT 0 j.toNat) else none
 | _=>none
def xQ:List T->Option (List T)
 | [.int i,.int j]=>if i.natAbs<2^62/\j.natAbs<2^62 then some (rangeT i (j-i).toNat) else none
 | _=>none
def dE (fa:Rho->Option (List T)) (o:List T->Option (List T)):Rho->Option (List T):=fun ρ=>(fa ρ).bind o
theorem OT {K:PySem.W.Frag}(lo:Int) (n:Nat):qJ K (Itr lo n) [] (rangeT lo n) true:=by
 intro H A _ i;unfold rangeT;refine⟨fun t ht=>?_,fun hi=>by show n<=i;simpa using hi⟩;rw[aJk] at ht;cases e:(List.range n)[i]? with
 | none=>rw[e] at ht;cases ht
 | some k=>
  rw[e] at ht;cases (aIi ht);obtain⟨h1,h2⟩:=aIn.mp e;rw[List.getElem_range] at h2;subst h2;refine⟨by show i<n;simpa using h1,fun x H' hx=>?_⟩;obtain⟨rfl,rfl⟩:=hx;exact⟨aK.refl _,rfl⟩
theorem fJ {x:Str}{p':Pos}(hx:x = "range") (hg:Gl X "range") (hm:X.mg "range" = none) (ha:GA X B fl [a] fa l) (hs:starEach [a] X.env=[(false,eval a X.env)]:=by rfl):GI X B fl tg (.Call (.Name x p') [a] [] pos) (dE fa dF) 3 true:=by
 subst hx;refine tX (aCo hg hm ha hs) ?_;rintro σ H R ⟨Ex,ρ,M,ts,S,hf,q⟩;obtain⟨us,hus,hf⟩:=bind_some hf;refine⟨Ex,ρ,M,us,S,hus,fun vs H1 s1 r1=>?_⟩
 match us,hf with
 | [.int j],hf=>
  unfold dF at hf;dsimp only at hf;split at hf
  ·rename_i hj
   cases (aIi hf);obtain⟨y,rfl,ry⟩:=dR r1;cases (show _=_ from ry);exact⟨j,rfl,by omega,by omega,q _ H1 [] s1 (fun _ z=>nomatch z) (OT 0 j.toNat)⟩
  ·cases hf
theorem WI {x:Str}{p':Pos}(hx:x = "range") (hg:Gl X "range") (hm:X.mg "range" = none) (ha:GA X B fl [a,b] fa l) (hs:starEach [a,b] X.env=[(false,eval a X.env),(false,eval b X.env)]:=by rfl) (hs2:starEach [b] X.env=[(false,eval b X.env)]:=by rfl):GI X B fl tg (.Call (.Name x p') [a,b] [] pos) (dE fa xQ) 3 true:=by
 subst hx;refine tX (aCp hg hm ha hs hs2) ?_;rintro σ H R ⟨Ex,ρ,M,ts,S,hf,q⟩;obtain⟨us,hus,hf⟩:=bind_some hf;refine⟨Ex,ρ,M,us,S,hus,fun vs H1 s1 r1=>?_⟩
 match us,hf with
 | [.int i,.int j],hf=>
  unfold xQ at hf;dsimp only at hf;split at hf
  ·rename_i hj
   cases (aIi hf);obtain⟨y,r,e,ry,h2⟩:=r1;obtain⟨y2,rfl,ry2⟩:=dR h2;subst e;cases (show _=_ from ry);cases (show _=_ from ry2);exact⟨i,j,rfl,by omega,q _ H1 [] s1 (fun _ z=>nomatch z) (OT i (j-i).toNat)⟩
  ·cases hf
end
def bK (src:List (Option Nat)) (ρ:Rho):Rho:=src.map fun o=>o.bind fun i=>(ρ[i]?).join
def bC (p:Rho->Option Bool) (f:Rho->Option T) (ρ:Rho):List T->Option (List T)
 | []=>some []
 | t::ts=>(p (ρ.set 0 (some t))).bind fun b=>if b then (f (ρ.set 0 (some t))).bind fun x=>(bC p f ρ ts).map (x :: ·) else bC p f ρ ts
def bA (fi:Rho->Option (List T)) (src:List (Option Nat)) (p:Rho->Option Bool) (f:Rho->Option T):Rho->Option T:=fun ρ=>
 (fi ρ).bind fun ts=>(bC p f (bK src ρ) ts).bind fun us=>if us.length<=cap then some (.lst us) else none
def aO:Rho->Option Bool:=fun _=>some true
def GIf (X:Cx) (B:Hp) (fl:List Nat) (ifs:List Expr) (p:Rho->Option Bool):Prop:=PIf X ifs (tGT X.K B fl p)
theorem cI {X:Cx}{B:Hp}{fl:List Nat}:GIf X B fl [] aO:=fun pins s σ H Q I ⟨_,_,_,b,_,hf,q⟩=>LT pins s σ H Q I (by cases (aIi hf);exact q H (aK.refl H))
theorem BG {X:Cx}{B:Hp}{fl:List Nat}{c:Expr}{p:Rho->Option Bool}(h:GT X B fl c p):GIf X B fl [c] p:=aCr h
theorem wW {α:Type}{l:List (Option α)}{i:Nat}{t:α}(h:(l[i]?).join=some t):l[i]?=some (some t):=by
 cases e:l[i]? with
 | none=>rw[e] at h;cases h
 | some o=>rw[e] at h;cases (show o=some t from h);rfl
theorem OI {src:List (Option Nat)}{ρ:Rho}{j:Nat}{t:T}(h:(bK src ρ)[j]?=some (some t)):∃ i,src[j]?=some (some i)/\ρ[i]?=some (some t):=by
 unfold bK at h;rw[aJk] at h;cases e:src[j]? with
 | none=>rw[e] at h;cases h
 | some o=>
  rw[e] at h;cases o with
  | none=>cases (aIi h)
  | some i=>exact⟨i,rfl,wW (aIi h)⟩
theorem OJ {src:List (Option Nat)}{σ:St}{j i:Nat}{v:V}(h:src[j]?=some (some i)) (e:σ[i]?=some (some v)):(dG src σ)[j]?=some (some v):=by
 unfold dG;rw[aJk,h];show some ((σ[i]?).join)=_;rw[e];rfl
structure FlOk (X:Cx) (N':List Str) (src:List (Option Nat)) (fl fl':List Nat) (li:Nat) (sc:Bool):Prop where
 nd:N'.Nodup
 own:src[0]?=some none
 cap:∀ (j i:Nat),src[j]?=some (some i)->fl'.getD j 1=fl.getD i 1
 pos:1<=fl'.getD 0 1
 le:sc=false->fl'.getD 0 1<=li
 xN:∀ (j i:Nat),src[j]?=some (some i)->N'[j]?=X.N[i]?/\j<N'.length
 lf:fl'.length=src.length
 lcs:lc fl'<=lc fl\/∀ j,fl'.getD j 1≠0
section
variable {X:Cx}{K:PySem.W.Frag}{B H:Hp}{fl fl':List Nat}{src:List (Option Nat)}{N':List Str}{Ex:List (T × V)}{σ σ1:St}{ρ:Rho}{M:List Addr}{li:Nat}{sc:Bool}
theorem Sl.block {t:T}{x:V}(F:FlOk X N' src fl fl' li sc) (S:Sl K B fl Ex σ ρ M H) (h0:∀ j,j≠0->σ1[j]?=(dG src σ)[j]?) (hl:σ1.length=src.length) (r:Rep K H (Ad B H M (min (fl'.getD 0 1) 2)) t x):
  Sl K B fl' Ex (σ1.set 0 (some x)) ((bK src ρ).set 0 (some t)) M H:=by
 have get:∀ j u,((bK src ρ).set 0 (some t))[j]?=some (some u)->(j=0/\u=t)\/(j≠0/\∃ i,src[j]?=some (some i)/\ρ[i]?=some (some u)):=fun j u e=>by
  by_cases hj:j=0
  ·subst hj
   left
   refine⟨rfl,?_⟩
   by_cases hz:0<(bK src ρ).length
   ·rw[aJl hz] at e
    cases (aIi e);rfl
   ·have:((bK src ρ).set 0 (some t))=[]:=by
     have:(bK src ρ)=[]:=List.length_eq_zero_iff.mp (by omega);rw[this];rfl
    rw[this] at e;cases e
  ·right
   rw[aIs (Ne.symm hj)] at e;exact⟨hj,OI e⟩
 have put:∀ j i v,j≠0->src[j]?=some (some i)->σ[i]?=some (some v)->(σ1.set 0 (some x))[j]?=some (some v):=fun j i v hj e1 e2=>by
  rw[aIs (Ne.symm hj),h0 j hj];exact OJ e1 e2
 have hl0:0<σ1.length:=by
  have:=(aIn.mp F.own).1;omega
 obtain⟨g,hg,ap⟩:=S.mu;refine⟨S.same,fun j u e k=>?_,⟨fun j=>g (((src[j]?).join).getD 0),fun j u e k hm=>?_,fun j j' c d u u' us ws hne e e' k k' hm hm'=>?_⟩,S.ex,S.mB,by rw[List.length_set,hl];exact Nat.le_of_eq F.lf⟩
 ·rcases get j u e with ⟨rfl,rfl⟩ | ⟨hj,i,e1,e2⟩
  ·exact⟨x,by rw[aJl hl0],r⟩
  ·rw[F.cap j i e1] at k ⊢
   obtain⟨v,e3,r3⟩:=S.slot i u e2 k;exact⟨v,put j i v hj e1 e3,r3⟩
 ·rcases get j u e with ⟨rfl,rfl⟩ | ⟨hj,i,e1,e2⟩
  ·exact absurd k (by have:=F.pos;omega)
  ·rw[F.cap j i e1] at k
   obtain⟨v,e4,e5,e6⟩:=hg i u e2 k hm;simp only[show ((src[j]?).join).getD 0=i by rw[e1];rfl];refine⟨v,put j i _ hj e1 e4,e5,fun c us h=>?_⟩;obtain⟨xs,q1,q2,q3⟩:=e6 c us h;rcases F.lcs with lk | lk
   ·exact⟨xs,q1,q2.weak fun b x=>x.le lk,q3⟩
   ·exact absurd ((F.cap j i e1).trans k) (lk j)
 ·rcases get j u e with ⟨rfl,rfl⟩ | ⟨hj,i,e1,e2⟩
  ·exact absurd k (by have:=F.pos;omega)
  ·rcases get j' u' e' with ⟨rfl,rfl⟩ | ⟨hj',i',e1',e2'⟩
   ·exact absurd k' (by have:=F.pos;omega)
   ·rw[F.cap j i e1] at k
    rw[F.cap j' i' e1'] at k';have hii:j≠j'->i≠i':=fun hj z=>by
     subst z;have q1:=F.xN j i e1;have q2:=F.xN j' i e1';have:N'[j]?=N'[j']?:=q1.1.trans q2.1.symm;rw[aIk q1.2,aIk q2.2] at this;exact hj ((List.getElem_inj F.nd).mp (aIi this))
    simp only[show ((src[j]?).join).getD 0=i by rw[e1];rfl,show ((src[j']?).join).getD 0=i' by rw[e1'];rfl];exact ap i i' c d u u' us ws (hne.imp hii id) e2 e2' k k' hm hm'
end
theorem Sl.mores {K:PySem.W.Frag}{B H1 H':Hp}{fl:List Nat}{Ex:List (T × V)}{σ:St}{ρ:Rho}{M:List Addr}(Ds:List Addr) (S:Sl K B fl Ex σ ρ M H1) (hD:∀ D∈Ds,H1 D=none/\H' D≠none) (s:aK H1 H'):Sl K B fl Ex σ ρ (Ds++M) H' where
 same:=S.same.trans s
 slot:=fun i t e k=>by
  obtain⟨v,e1,r⟩:=S.slot i t e k;refine⟨v,e1,Rep.keep (fun b _ e=>eX (fun o q=>s b o q) e) (fun b o _ e=>s b o e) (fun b x y=>⟨fun z w=>?_,x.2.1,fun z=>by omega⟩) t r⟩;rcases aK1.mp w with w | w
  ·exact y (hD b w).1
  ·exact x.1 z w
 mu:=by
  obtain⟨g,hg,ap⟩:=S.mu;refine⟨g,fun i t e k hm=>?_,ap⟩;obtain⟨v,e1,e2,e3⟩:=hg i t e k hm;refine⟨v,e1,e2.grow s,fun c us h=>?_⟩;obtain⟨xs,q1,r,q3⟩:=e3 c us h;refine⟨xs,q1.keep (s _),RepL.keep (fun b _ e=>eX (fun o q=>s b o q) e) (fun b o _ e=>s b o e) (fun b x y=>⟨fun z w=>?_,x.2.1,fun z=>by have:=qX fl;omega⟩) us r,aK3 _ q3⟩;rcases aK1.mp w with w | w
  ·exact y (hD b w).1
  ·exact x.1 z w
 ex:=fun p hp=>by
  refine Rep.keep (fun b _ e=>eX (fun o q=>s b o q) e) (fun b o _ e=>s b o e) (fun b x y=>⟨fun z w=>?_,x.2.1,fun z=>by omega⟩) p.1 (S.ex p hp);rcases aK1.mp w with w | w
  ·exact y (hD b w).1
  ·exact x.1 z w
 mB:=fun a ha=>by
  rcases aK1.mp ha with ha | ha
  ·exact⟨S.same.free (hD a ha).1,(hD a ha).2⟩
  ·exact⟨(S.mB a ha).1,fun z=>(S.mB a ha).2 (s.free z)⟩
 len:=S.len
theorem Sl.more {K:PySem.W.Frag}{B H1 H':Hp}{fl:List Nat}{Ex:List (T × V)}{σ:St}{ρ:Rho}{M:List Addr}{D:Addr}(S:Sl K B fl Ex σ ρ M H1) (hD:H1 D=none) (s:aK H1 H') (hn:H' D≠none):Sl K B fl Ex σ ρ (D::M) H':=
 Sl.mores [D] S (fun _ h=>by cases aK7.mp h;exact⟨hD,hn⟩) s
theorem SZ {p:Rho->Option Bool}{f:Rho->Option T}{ρ:Rho}{t:T}{ts us:List T}(h:bC p f ρ (t::ts)=some us):
  ∃ b,p (ρ.set 0 (some t))=some b/\((b=true/\∃ x r,f (ρ.set 0 (some t))=some x/\bC p f ρ ts=some r/\us=x::r)\/(b=false/\bC p f ρ ts=some us)):=by
 unfold bC at h;obtain⟨b,hb,h⟩:=bind_some h;refine⟨b,hb,?_⟩;cases b with
 | true=>
  left
  rw[if_pos rfl] at h;obtain⟨x,hx,h⟩:=bind_some h;cases e:bC p f ρ ts with
  | none=>rw[e] at h;cases h
  | some r=>rw[e] at h;cases (aIi h);exact⟨rfl,x,r,hx,rfl,rfl⟩
 | false=>
  right
  rw[if_neg aJ1] at h;exact⟨rfl,h⟩
section
variable {X:Cx}{B:Hp}{fl fl':List Nat}{elt iter:Expr}{x0:Str}{p0:Pos}{ifs:List Expr}{scope:Scope}{pos:Pos}{N':List Str}{src:List (Option Nat)}{fi:Rho->Option (List T)}{p:Rho->Option Bool}{f:Rho->Option T}{n sc:Bool}{l li:Nat}
theorem AI (F:FlOk X N' src fl fl' li sc) (hl1':1<=l) {σ:St}{H:Hp}{Q:VK}(h:tG X.K B fl (bA fi src p f) true l σ H Q):
  vV (tGI X.K B fl fi li sc) (dG src) (mE 0) (tGT X.K B fl' p) (tG X.K B fl' f n l) σ H Q:=by
 obtain⟨Ex,ρ,M,t,S,hf,q⟩:=h;obtain⟨ts,hts,hf⟩:=bind_some hf;obtain⟨fin,hfin,hf⟩:=bind_some hf;split at hf
 rotate_left
 ·cases hf
 rename_i hcap;cases (aIi hf);refine⟨Ex,ρ,M,ts,S,hts,fun J H1 ps s01 rp wk=>?_⟩;intro D hD;have hlen:0<src.length:=by
  have:=(aIn.mp F.own).1;exact this
 refine⟨fun i m σ1 H2=>m=ts.length-i/\i<=ts.length/\aK H1 H2/\σ1.length=src.length/\(∀ j,j≠0->σ1[j]?=(dG src σ)[j]?) /\
  ∃ us rest xs,us++rest=fin/\bC p f (bK src ρ) (ts.drop i)=some rest/\H2 D=some (.lst xs)/\RepL X.K H2 (fun b=>Ad B H M l b/\b≠D) us xs,?_,?_⟩
 ·refine⟨ts.length,by simp,aKo _,cK hD _,by unfold dG;simp,fun _ _=>rfl,[],fin,[],rfl,by simpa using hfin,bN,rfl⟩
 ·rintro i m σ1 H2 ⟨rfl,hi,s12,hl1,hσ,us,rest,xs,e1,e2,e3,e4⟩
  have hD2:H2 D≠none:=by rw[e3];simp
  have S2:=(S.grow s01).more hD s12 hD2;have rp1:∀ pv∈ps,Rep X.K H1 (fun b=>Ad B H M li b/\b≠D) pv.1 pv.2:=fun pv hpv=>Rep.keep (fun _ _ e=>e) (fun _ _ _ e=>e) (fun b x y=>⟨x,fun z=>y (z ▸ hD)⟩) pv.1 (rp pv hpv);have w:=wk H2 _ (fun pv hpv=>(rp1 pv hpv).grow s12) i
  by_cases hlt:i<ts.length
  ·refine .inr ?_
   have et:ts[i]?=some ts[i]:=aIk hlt;obtain⟨go,yl⟩:=w.1 _ et;refine⟨go,fun x H3 hy=>?_⟩;obtain⟨s23,rx⟩:=yl x H3 hy;rw[aJ9 hlt] at e2;obtain⟨b,hb,hcase⟩:=SZ e2;have S3:=S2.grow s23;have rx':Rep X.K H3 (Ad B H3 (D::M) (min (fl'.getD 0 1) 2)) ts[i] x:=rx.weak fun c hc=>by
    obtain⟨h0,hc⟩:=hc;rcases hc with hc | hc
    ·refine⟨fun z w=>?_,fun z=>hc.1.2.1 (by have:=F.le h0;omega),fun z=>by omega⟩
     rcases aIu.mp w with rfl | w
     ·exact hc.2 rfl
     ·exact hc.1.1 (by have:=F.le h0;omega) w
    ·exact⟨fun _ z=>(S2.mB c z).2 hc,fun _=>S2.same.free hc,fun z=>by omega⟩
   have Sb:=Sl.block (σ1:=σ1) F S3 hσ hl1 rx';show tGT X.K B fl' p (σ1.set 0 (some x)) H3 _;refine⟨Ex,_,D::M,b,Sb,hb,fun H5 s35=>?_⟩;have hσ':∀ j,j≠0->(σ1.set 0 (some x))[j]?=(dG src σ)[j]?:=fun j hj=>by rw[aIs (Ne.symm hj)];exact hσ j hj
   rcases hcase with ⟨rfl,y,r,hy',hr,rfl⟩ | ⟨rfl,hr⟩
   ·refine fS ⟨Ex,_,D::M,y,Sb.grow s35,hy',fun v H6 s56 rv=>?_⟩
    have s26:=(s23.trans s35).trans s56;have e5:=s26 _ _ e3;have hl:xs.length<sizeLine:=by
     rw[<- e4.length];refine gJ (aKf ?_ hcap);rw[<- e1];simp
    refine⟨xs,e5,hl,ts.length-(i+1),by omega,rfl,hlt,?_,by simpa using hl1,hσ',us++[y],r,xs++[v],by rw[<- e1];simp,hr,bN,?_⟩
    ·intro c o hc
     have:c≠D:=fun z=>by rw[z,hD] at hc;cases hc
     rw[aU this];exact (s12.trans s26) c o hc
    ·have k1:RepL X.K H6 (fun b=>Ad B H M l b/\b≠D) us xs:=e4.grow s26
     have k2:Rep X.K H6 (fun b=>Ad B H M l b/\b≠D) y v:=by
      have z:=rv.rep (Sb.grow s35);exact z.weak fun c hc=>⟨⟨fun k w=>hc.1 k (aIl _ w),hc.2.1,fun k=>((s01.trans s12).trans (s23.trans s35)).free (hc.2.2 k)⟩,fun w=>hc.1 hl1' (by rw[w];exact aIm)⟩
     exact (RepL.app k1 (RepL.one k2)).keep (fun c _ e=>fY e5 e) (fun c o hc e=>by rw[aU hc.2];exact e) (fun c hc _=>hc) _
   ·refine cY ⟨ts.length-(i+1),by omega,rfl,hlt,(s12.trans s23).trans s35,by simpa using hl1,hσ',us,rest,xs,e1,hr,(s23.trans s35) _ _ e3,e4.grow (s23.trans s35)⟩
  ·have ei:i=ts.length:=by omega
   subst ei;refine .inl ⟨w.2 (aKe _),?_⟩;rw[aJa (aKe _)] at e2;cases (aIi (show some []=some rest from e2));rw[List.append_nil] at e1;subst e1;exact q _ H2 (s01.trans s12) ⟨D,xs,rfl,s01.free hD,e3,e4⟩
def tQ:Option NameKind->Bool
 | some .local=>true
 | some .cell=>true
 | _=>false
theorem MK {env:Env}:∀ {names:List (Str × NameKind)}{x:Str},names.lookup x=some .cell ->
  (names.map fun (n,k)=>if (k == NameKind.free&&env.scope.kind == .function&&env.kindOf n == some .cell) then (n,NameKind.cell) else (n,k)).lookup x=some .cell
 | [],_,h=>by cases h
 | (n,k)::r,x,h=>by
  rw[aJw] at h;rw[aJy]
  by_cases hx:(x == n)=true
  ·rw[hx] at h
   have h':k=NameKind.cell:=aIi h;subst h';show ((n,NameKind.cell)::_).lookup x=_;rw[aJw,hx]
  ·have hx':(x == n)=false:=by simpa using hx
   rw[hx'] at h;have ih:=MK (env:=env) h;dsimp only
   split<;>(rw[aJw,hx'];exact ih)
theorem LP {X:Cx}{scope:Scope}{N':List Str}{cl:List (Str × Addr)}{C:Addr}{s:Shared}{H:Hp}{ex:List Addr}{i:Nat}{x:Str}{p:Pos}(hN:N'.Nodup) (hi:N'[i]?=some x) (hx:tQ (scope.names.lookup x)=true):
  PG (cxB X scope N' cl C s H ex) (.Name x p) (mE i):=by
 cases q:scope.names.lookup x with
 | none=>rw[q] at hx;cases hx
 | some k=>
  rw[q] at hx;cases k with
  | «local»=>exact mN hN hi (.inl (lookup_relabel_local q)) (.inr (lookup_relabel_local q))
  | cell=>exact mN hN hi (.inr (MK q)) (.inl (show qV (scope.names.lookup x)=true by rw[q];rfl))
  | _=>cases hx
theorem cS (S:BlkOk X scope N' src) (F:FlOk X N' src fl fl' li sc) (hl1:1<=l) (hc:X.calm=true) (hi:GI X B fl (.Name x0 p0) iter fi li sc) (hN:N'[0]?=some x0) (hx:tQ (scope.names.lookup x0)=true)
  (hb:∀ cl C s H ex,GIf (cxB X scope N' cl C s H ex) B fl' ifs p/\GE (cxB X scope N' cl C s H ex) B fl' elt f n l)
  (hs:∀ x,foldedSetIterable iter X.env x=pure x:=by intro _;rfl):GE X B fl (.ListComp elt [⟨.Name x0 p0,iter,ifs,0⟩] scope pos) (bA fi src p f) true l:=by
 refine bD (DF (wi:=tGI X.K B fl fi li sc) (g:=mE 0) (tc:=tGT X.K B fl' p) (te:=tG X.K B fl' f n l) S hc hi (fun cl C s H ex=>⟨?_,(hb cl C s H ex).1,(hb cl C s H ex).2⟩) hs) fun σ H Q h=>AI F hl1 h;exact LP F.nd hN hx
theorem JK {i:Nat}{x:Str}{pos' spos:Pos}(S:BlkOk X scope N' src) (hc:X.calm=true) (hi:GI X B fl (.Name x0 p0) iter fi li sc) (hnd:N'.Nodup) (hN0:N'[0]?=some x0) (hx0:tQ (scope.names.lookup x0)=true)
  (hb:∀ cl C s H ex,GIf (cxB X scope N' cl C s H ex) B fl' ifs p/\GE (cxB X scope N' cl C s H ex) B fl' elt f n l) (hN:X.N.Nodup) (hiN:X.N[i]?=some x) (hx:Loc X.env.scope x)
  (hsw:swapsWith (.ListComp elt [⟨.Name x0 p0,iter,ifs,0⟩] scope pos) (some (.Name x pos')) spos.line X.env=pure true)
  (hs:∀ x,foldedSetIterable iter X.env x=pure x) (hf:X.fn x=true\/X.env.scope.names.lookup x=some .local):
  PS X (.Assign [.Name x pos'] (.ListComp elt [⟨.Name x0 p0,iter,ifs,0⟩] scope pos) spos) (zQ (vV (tGI X.K B fl fi li sc) (dG src) (mE 0) (tGT X.K B fl' p) (tG X.K B fl' f n l)) (mE i)):=by
 refine aCx hN hiN hx S hc hi (fun cl C s H ex=>⟨?_,(hb cl C s H ex).1,(hb cl C s H ex).2⟩) hsw hs hf;exact LP hnd hN0 hx0
end
inductive Out where
 | nx (ρ:Rho) | rt (t:T) | bk (ρ:Rho) | ct (ρ:Rho)
def okO:T->Bool
 | .lst _=>true
 | t=>im t
def FP (K:PySem.W.Frag) (B H:Hp) (M:List Addr) (H':Hp):List T->List V->Prop
 | [],xs=>xs=[]
 | t::ts,xs=>∃ x r,xs=x::r/\okO t=true/\aM K B H M H' true 3 t x/\FP K B H M H' ts r
def Dst (ts:List T) (xs:List V):Prop:=∀ (c d:Nat) (us ws:List T) (a:Addr),c≠d->ts[c]?=some (.lst us)->ts[d]?=some (.lst ws)->xs[c]?=some (.ref a)->xs[d]?=some (.ref a)->False
def RJ (K:PySem.W.Frag) (B H:Hp) (M:List Addr) (H':Hp) (t:T) (v:V):Prop:=∃ p ts xs,t=.tup ts/\v=.ref p/\Rd H' p (.tup xs)/\FP K B H M H' ts xs/\Dst ts xs
def RtX (K:PySem.W.Frag) (B H:Hp) (n:Bool) (l:Nat) (t:T) (v:V):Prop:=if l=4 then RJ K B B [] H t v else aM K B B [] H n l t v
theorem RtX.of {K:PySem.W.Frag}{B H:Hp}{n:Bool}{l:Nat}{t:T}{v:V}(hl:l≠4):RtX K B H n l t v ↔ aM K B B [] H n l t v:=by unfold RtX;rw[if_neg hl]
def ET (K:PySem.W.Frag) (B:Hp) (fl:List Nat) (n:Bool) (l:Nat) (Ex:List (T × V)) (D:Ends):Out->Prop
 | .nx ρ=>∀ σ M H,Sl K B fl Ex σ ρ M H->D.nx σ H
 | .bk ρ=>∀ σ M H,Sl K B fl Ex σ ρ M H->D.bk σ H
 | .ct ρ=>∀ σ M H,Sl K B fl Ex σ ρ M H->D.ct σ H
 | .rt t=>∀ v H,aK B H->RtX K B H n l t v->D.rt v H
def tS (K:PySem.W.Frag) (B:Hp) (fl:List Nat) (n:Bool) (l:Nat) (run:Rho->Option Out):TS:=fun D σ H=>
 ∃ Ex ρ M o,Sl K B fl Ex σ ρ M H/\run ρ=some o/\ET K B fl n l Ex D o
def GS (X:Cx) (B:Hp) (fl:List Nat) (n:Bool) (l:Nat) (st:Stmt) (run:Rho->Option Out):Prop:=PS X st (tS X.K B fl n l run)
def GSs (X:Cx) (B:Hp) (fl:List Nat) (n:Bool) (l:Nat) (st:List Stmt) (run:Rho->Option Out):Prop:=PSs X st (tS X.K B fl n l run)
def bE:Rho->Option Out:=fun ρ=>some (.nx ρ)
def aJ (r1 r2:Rho->Option Out):Rho->Option Out:=fun ρ=>(r1 ρ).bind fun o=>match o with | .nx ρ'=>r2 ρ' | o=>some o
def aS (i:Nat) (f:Rho->Option T):Rho->Option Out:=fun ρ=>(f ρ).map fun t=>.nx (ρ.set i (some t))
def okM:T->Bool
 | .lst _=>true
 | t=>im t
def nX (i:Nat) (f:Rho->Option T):Rho->Option Out:=fun ρ=>(f ρ).bind fun t=>if okM t then some (.nx (ρ.set i (some t))) else none
def rIf (p:Rho->Option Bool) (r1 r2:Rho->Option Out):Rho->Option Out:=fun ρ=>(p ρ).bind fun b=>if b then r1 ρ else r2 ρ
def aT (f:Rho->Option T):Rho->Option Out:=fun ρ=>(f ρ).map .rt
def DO (i:Nat) (f:Rho->Option T):Rho->Option Out:=fun ρ=>(aA i ρ).bind fun t=>(f ρ).bind fun x=>match t with | .lst ts=>if ts.length<cap then some (.nx (ρ.set i (some (.lst (ts++[x]))))) else none | _=>none
def dJ (j:Nat) (body:Rho->Option Out):List T->Rho->Option Out
 | [],ρ=>some (.nx ρ)
 | t::ts,ρ=>(body (ρ.set j (some t))).bind fun o=>match o with | .nx ρ'=>dJ j body ts ρ' | .ct ρ'=>dJ j body ts ρ' | .bk ρ'=>some (.nx ρ') | .rt t=>some (.rt t)
def kO (j:Nat) (fi:Rho->Option (List T)) (body:Rho->Option Out):Rho->Option Out:=fun ρ=>(fi ρ).bind fun ts=>dJ j body ts ρ
section
variable {K:PySem.W.Frag}{B H H':Hp}{fl:List Nat}{Ex:List (T × V)}{σ:St}{ρ:Rho}{M:List Addr}{n:Bool}{l:Nat}{t:T}{v:V}{i:Nat}
theorem gB {ρ:Rho}{i j:Nat}{t u:T}(h:(ρ.set i (some t))[j]?=some (some u)):(j=i/\u=t/\i<ρ.length)\/(j≠i/\ρ[j]?=some (some u)):=by
 by_cases hj:j=i
 ·subst hj
  left
  by_cases hl:j<ρ.length
  ·rw[aJl hl] at h
   cases (aIi h);exact⟨rfl,rfl,hl⟩
  ·rw[List.getElem?_eq_none_iff.mpr (by rw[List.length_set];omega)] at h
   cases h
 ·right
  rw[aIs (Ne.symm hj)] at h;exact⟨hj,h⟩
theorem Sl.set (S:Sl K B fl Ex σ ρ M H) (hi:i<fl.length) (h1:1<=fl.getD i 1\/im t=true) (r:Rep K H (Ad B H M (min (fl.getD i 1) 2)) t v):Sl K B fl Ex (σ.set i (some v)) (ρ.set i (some t)) M H where
 same:=S.same
 slot:=fun j u e k=>by
  rcases gB e with ⟨rfl,rfl,_⟩ | ⟨hj,e⟩
  ·exact⟨v,by rw[aJl (aIq hi S.len)],r⟩
  ·obtain⟨w,e1,r1⟩:=S.slot j u e k
   exact⟨w,by rw[aIs (Ne.symm hj)];exact e1,r1⟩
 mu:=by
  obtain⟨g,hg,ap⟩:=S.mu;refine⟨g,fun j u e k hm=>?_,fun j j' c d u u' us ws hne e e' k k' hm hm'=>?_⟩
  ·rcases gB e with ⟨rfl,rfl,_⟩ | ⟨hj,e⟩
   ·rcases h1 with h1 | h1
    ·omega
    ·rw[hm] at h1;cases h1
   ·obtain⟨w,e2,e3⟩:=hg j u e k hm
    exact⟨w,by rw[aIs (Ne.symm hj)];exact e2,e3⟩
  ·rcases gB e with ⟨rfl,rfl,_⟩ | ⟨hj,e⟩
   ·rcases h1 with h1 | h1
    ·omega
    ·rw[sS hm] at h1;cases h1
   ·rcases gB e' with ⟨rfl,rfl,_⟩ | ⟨hj',e'⟩
    ·rcases h1 with h1 | h1
     ·omega
     ·rw[sS hm'] at h1;cases h1
    ·exact ap j j' c d u u' us ws hne e e' k k' hm hm'
 ex:=S.ex
 mB:=S.mB
 len:=by rw[List.length_set];exact S.len
theorem Sl.setC {ga:Nat->Addr}(Ds:List Addr) (S:Sl K B fl Ex σ ρ M H) (hi:i<fl.length) (h0:fl.getD i 1=0) (s:aK H H') (hD:∀ D∈Ds,H D=none/\H' D≠none) (hm0:im t=false) (sh:fR K H' t v ga)
  (r:∀ c us,eA t c us->∃ xs,hX H' t (ga c) xs/\RepL K H' (fun b=>Ad B H M (lc fl) b/\b ∉ Ds) us xs/\ga c∈Ds) (dj:∀ c d us ws,c≠d->mH t=false->eA t c us->eA t d ws->ga c≠ga d):
  Sl K B fl Ex (σ.set i (some v)) (ρ.set i (some t)) (Ds++M) H':=by
 have lcl:=qX fl;have lcp:=sW fl;have S':=Sl.mores Ds S hD s;obtain⟨g,hg,ap⟩:=S.mu;have hold:∀ j c u us,ρ[j]?=some (some u)->fl.getD j 1=0->eA u c us->g j c ∉ Ds:=fun j c u us e k h z=>by
  obtain⟨_,_,_,e3⟩:=hg j u e k (sS h);obtain⟨xs,q,_⟩:=e3 c us h;exact q.some (hD _ z).1
 have gmo:∀ j u,ρ[j]?=some (some u)->fl.getD j 1=0->im u=false->∃ v,σ[j]?=some (some v)/\FQ K B (lc fl) (Ds++M) H' u v (g j):=fun j u e k hm=>by
  obtain⟨v,e1,e2,e3⟩:=hg j u e k hm;refine⟨v,e1,e2.grow s,fun c us h=>?_⟩;obtain⟨xs,q1,r,q3⟩:=e3 c us h;refine⟨xs,q1.keep (s _),RepL.keep (fun b _ e=>eX (fun o q=>s b o q) e) (fun b o _ e=>s b o e) (fun b x y=>⟨fun z w=>?_,x.2.1,fun z=>by omega⟩) us r,aK3 _ q3⟩;rcases aK1.mp w with w | w
  ·exact y (hD b w).1
  ·exact x.1 z w
 refine⟨S'.same,fun j u e k=>?_,⟨fun j=>if j=i then ga else g j,fun j u e k hm=>?_,fun j j' c d u u' us ws hne e e' k k' hm hm'=>?_⟩,S'.ex,S'.mB,by rw[List.length_set];exact S.len⟩
 ·rcases gB e with ⟨rfl,rfl,_⟩ | ⟨hj,e⟩
  ·rcases k with k | k
   ·omega
   ·rw[hm0] at k;cases k
  ·obtain⟨w,e1,r1⟩:=S'.slot j u e k
   exact⟨w,by rw[aIs (Ne.symm hj)];exact e1,r1⟩
 ·rcases gB e with ⟨rfl,rfl,_⟩ | ⟨hj,e⟩
  ·simp only[if_pos]
   refine⟨v,by rw[aJl (aIq hi S.len)],sh,fun c us h=>?_⟩;obtain⟨xs,q1,q2,q3⟩:=r c us h;refine⟨xs,q1,q2.weak fun b x=>⟨fun z w=>?_,fun z=>x.1.2.1 z,fun z=>by omega⟩,List.mem_append_left _ q3⟩;rcases aK1.mp w with w | w
   ·exact x.2 w
   ·exact x.1.1 z w
  ·simp only[if_neg hj]
   obtain⟨v1,e2,e3⟩:=gmo j u e k hm;exact⟨v1,by rw[aIs (Ne.symm hj)];exact e2,e3⟩
 ·rcases gB e with ⟨z1,z2,_⟩ | ⟨hj,f⟩
  ·rcases gB e' with ⟨z1',z2',_⟩ | ⟨hj',f'⟩
   ·have hcd:c≠d/\mH t=false:=by
     rcases hne with h | h
     ·exact absurd (z1.trans z1'.symm) h
     ·exact z2 ▸ h
    subst z2 z2';simp only[if_pos z1,if_pos z1'];exact dj c d us ws hcd.1 hcd.2 hm hm'
   ·simp only[if_pos z1,if_neg hj']
    subst z2;obtain⟨_,_,_,q3⟩:=r c us hm;exact fun z=>hold j' d u' ws f' k' hm' (by rw[<- z];exact q3)
  ·rcases gB e' with ⟨z1',z2',_⟩ | ⟨hj',f'⟩
   ·simp only[if_pos z1',if_neg hj]
    subst z2';obtain⟨_,_,_,q3⟩:=r d ws hm';exact fun z=>hold j c u us f k hm (by rw[z];exact q3)
   ·simp only[if_neg hj,if_neg hj']
    exact ap j j' c d u u' us ws hne f f' k k' hm hm'
theorem Sl.setM {ts:List T}{xs:List V}{a:Addr}(S:Sl K B fl Ex σ ρ M H) (hi:i<fl.length) (h0:fl.getD i 1=0) (s:aK H H') (hn:H a=none) (ha:H' a=some (.lst xs)) (r:RepL K H' (fun b=>Ad B H M (lc fl) b/\b≠a) ts xs):
  Sl K B fl Ex (σ.set i (some (.ref a))) (ρ.set i (some (.lst ts))) (a::M) H':=
 Sl.setC (ga:=fun _=>a) [a] S hi h0 s (fun D h=>by cases aK7.mp h;exact⟨hn,by rw[ha];simp⟩) rfl rfl (fun c us h=>by
  obtain⟨_,rfl⟩:=h;exact⟨xs,ha,r.weak fun b x=>⟨x.1,fun z=>x.2 (aK7.mp z)⟩,aK7.mpr rfl⟩) (fun c d us ws hne _ h h'=>by
  obtain⟨rfl,_⟩:=h;obtain⟨rfl,_⟩:=h';exact absurd rfl hne)
theorem Sl.writeC {t':T}{us:List T}{xs ys:List V}{a:Addr}{c:Nat}(no:mH t=false) (no':mH t'=false) (ot:∀ H a zs,hX H t a zs=(H a=some (.lst zs))) (ot':∀ H a zs,hX H t' a zs=(H a=some (.lst zs))) (S:Sl K B fl Ex σ ρ M H) (h0:fl.getD i 1=0) (e0:ρ[i]?=some (some t)) (hc:eA t c us) (hm1:im t'=false) (hm:a∈M) (ha:H a=some (.lst xs))
  (sh:∀ v ga,fR K H t v ga->σ[i]?=some (some v)->ga c=a/\fR K H t' v ga) {us':List T} (h1:∀ d ws,eA t' d ws->(d=c/\ws=us')\/(d≠c/\eA t d ws)) (r:RepL K H (Ad B H M (lc fl)) us' ys):
  Sl K B fl Ex σ (ρ.set i (some t')) M (upd H a (.lst ys)):=by
 have lcl:=qX fl;have lcp:=sW fl;have kp:∀ {l:Nat} (b:Addr) (o:HO),1<=l->Ad B H M l b->H b=some o->upd H a (.lst ys) b=some o:=fun b o hl hb e=>by
  rw[aU (fun z=>hb.1 hl (by rw[z];exact hm))];exact e
 obtain⟨g,hg,ap⟩:=S.mu;have gi:g i c=a:=by
  obtain⟨v1,s1,q1,_⟩:=hg i t e0 h0 (sS hc);exact (sh v1 _ q1 s1).1
 have has:∀ d ws,eA t' d ws->∃ ws',eA t d ws':=fun d ws h=>by
  rcases h1 d ws h with ⟨rfl,_⟩ | ⟨_,h⟩
  ·exact⟨us,hc⟩
  ·exact⟨ws,h⟩
 refine⟨fun b o e=>?_,fun j u e k=>?_,⟨g,fun j u e k hM=>?_,fun j j' d d' u u' ws ws' hne e e' k k' hM hM'=>?_⟩,fun p hp=>?_,fun b hb=>⟨(S.mB b hb).1,?_⟩,S.len⟩
 ·rw[aU (fun z=>by rw[z,(S.mB a hm).1] at e;cases e)]
  exact S.same b o e
 ·rcases gB e with ⟨rfl,rfl,_⟩ | ⟨hj,e⟩
  ·rcases k with k | k
   ·omega
   ·rw[hm1] at k;cases k
  ·obtain⟨w,e1,r1⟩:=S.slot j u e k
   rcases k with k | k
   ·exact⟨w,e1,Rep.keep (fun _ _ e=>fY ha e) (fun b o x e=>kp b o (by omega) x e) (fun b x _=>x.any (by omega)) u r1⟩
   ·exact⟨w,e1,yI (fun _ _ e=>fY ha e) u k r1⟩
 ·rcases gB e with ⟨rfl,rfl,_⟩ | ⟨hj,e⟩
  ·obtain⟨v1,s1,q1,q2⟩:=hg j t e0 h0 (sS hc)
   refine⟨v1,s1,(sh v1 _ q1 s1).2.keep (fun _ _ e=>fY ha e) (fun z=>by rw[no'] at z;cases z),fun d ws h=>?_⟩;rcases h1 d ws h with ⟨rfl,rfl⟩ | ⟨hd,h'⟩
   ·rw[gi]
    exact⟨ys,by rw[ot' _ _ _];exact bN,RepL.keep (fun _ _ e=>fY ha e) (fun b o x e=>kp b o (by omega) x e) (fun b x _=>x.any (by omega)) _ r,hm⟩
   ·obtain⟨zs,f1,f2,f3⟩:=q2 d ws h'
    have hne:g j d≠a:=fun z=>ap j j d c t t ws us (.inr ⟨hd,no⟩) e0 e0 h0 h0 h' hc (z.trans gi.symm);exact⟨zs,by rw[ot' _ _ _,aU hne,<- ot _ _ _];exact f1,RepL.keep (fun _ _ e=>fY ha e) (fun b o x e=>kp b o (by omega) x e) (fun b x _=>x.any (by omega)) ws f2,f3⟩
  ·obtain⟨v1,e1,e2,e3⟩:=hg j u e k hM
   refine⟨v1,e1,e2.keep (fun _ _ e=>fY ha e) (fun zo d o hdo eo=>?_),fun d ws h=>?_⟩
   ·have hne:g j d≠a:=fun z=>ap j i d c u t [] us (.inl hj) e e0 k h0 hdo hc (z.trans gi.symm)
    rw[aU hne];exact eo
   obtain⟨zs,f1,f2,f3⟩:=e3 d ws h;have hne:g j d≠a:=fun z=>ap j i d c u t ws us (.inl hj) e e0 k h0 h hc (z.trans gi.symm);exact⟨zs,f1.keep (fun o eo=>by rw[aU hne];exact eo),RepL.keep (fun _ _ e=>fY ha e) (fun b o x e=>kp b o (by omega) x e) (fun b x _=>x.any (by omega)) ws f2,f3⟩
 ·have lk:∀ j u d ws,(ρ.set i (some t'))[j]?=some (some u)->eA u d ws->∃ u' ws',ρ[j]?=some (some u')/\eA u' d ws'/\mH u'=mH u:=fun j u d ws e h=>by
   rcases gB e with ⟨z1,z2,_⟩ | ⟨_,f⟩
   ·subst z2
    obtain⟨ws',h'⟩:=has d ws h;exact⟨t,ws',by rw[z1];exact e0,h',by rw[no,no']⟩
   ·exact⟨u,ws,f,h,rfl⟩
  obtain⟨w,x,ew,hw,ow⟩:=lk j u d ws e hM;obtain⟨w',x',ew',hw',_⟩:=lk j' u' d' ws' e' hM';exact ap j j' d d' w w' x x' (by rw[ow];exact hne) ew ew' k k' hw hw'
 ·exact Rep.keep (fun _ _ e=>fY ha e) (fun b o x e=>kp b o (by omega) x e) (fun b x _=>x.any (by omega)) p.1 (S.ex p hp)
 ·by_cases hb':b=a
  ·rw[hb',bN];simp
  ·rw[aU hb'];exact (S.mB b hb).2
theorem Sl.write {ts us:List T}{xs ys:List V}{a:Addr}(S:Sl K B fl Ex σ ρ M H) (h0:fl.getD i 1=0) (e0:ρ[i]?=some (some (.lst ts))) (ea:σ[i]?=some (some (.ref a))) (hm:a∈M) (ha:H a=some (.lst xs)) (r:RepL K H (Ad B H M (lc fl)) us ys):
  Sl K B fl Ex σ (ρ.set i (some (.lst us))) M (upd H a (.lst ys)):=
 Sl.writeC rfl rfl (fun _ _ _=>rfl) (fun _ _ _=>rfl) (c:=0) (us':=us) S h0 e0 ⟨rfl,rfl⟩ rfl hm ha (fun v ga q e=>by
  rw[ea] at e;have h1:V.ref a=v:=aIi (aIi e);have h2:v=V.ref (ga 0):=q;exact⟨(V.ref.inj (h1.trans h2)).symm,h2⟩) (fun d ws h=>.inl h) r
theorem Sl.fewer {ps:List (T × V)}(S:Sl K B fl (ps++Ex) σ ρ M H):Sl K B fl Ex σ ρ M H:=⟨S.same,S.slot,S.mu,fun q hq=>S.ex q (aK3 _ hq),S.mB,S.len⟩
theorem Sl.plus {ps:List (T × V)}(S:Sl K B fl Ex σ ρ M H) (r:∀ p∈ps,Rep K H (Ad B H M 1) p.1 p.2):Sl K B fl (ps++Ex) σ ρ M H:=⟨S.same,S.slot,S.mu,fun q hq=>by
 rcases aK1.mp hq with hq | hq
 ·exact r q hq
 ·exact S.ex q hq,S.mB,S.len⟩
end
section
variable {X:Cx}{B:Hp}{fl:List Nat}{n n':Bool}{l l':Nat}{st:Stmt}{rest body els:List Stmt}{r r1 r2:Rho->Option Out}{e c:Expr}{f g:Rho->Option T}{p:Rho->Option Bool}{pos pos':Pos}{i:Nat}{x:Str}
theorem bY:GSs X B fl n l [] bE:=MA kN fun D σ H ⟨Ex,ρ,M,o,S,hr,q⟩=>by
 cases (aIi hr);exact q σ M H S
theorem aP (h1:GS X B fl n l st r1) (h2:GSs X B fl n l rest r2):GSs X B fl n l (st::rest) (aJ r1 r2):=by
 refine MA (cR h1 h2) ?_;rintro D σ H ⟨Ex,ρ,M,o,S,hr,q⟩;obtain⟨o1,h1,hr⟩:=bind_some hr;refine⟨Ex,ρ,M,o1,S,h1,?_⟩;cases o1 with
 | nx ρ'=>exact fun σ' M' H' S'=>⟨Ex,ρ',M',o,S',hr,q⟩
 | rt t=>cases (aIi hr);exact q
 | bk ρ'=>cases (aIi hr);exact q
 | ct ρ'=>cases (aIi hr);exact q
theorem aN (h1:GS X B fl n l st r1):GSs X B fl n l [st] r1:=eO h1
theorem bR (i:Nat) (he:GE X B fl e f n' l') (hN:X.N.Nodup) (hi:X.N[i]?=some x) (hx:Loc X.env.scope x) (hfl:(decide (i<fl.length)&&decide (1<=fl.getD i 1)&&decide (fl.getD i 1<=l'))=true)
  (hs:swapsWith e (some (.Name x pos')) pos.line X.env=pure false:=by rfl) (hf:X.fn x=true\/X.env.scope.names.lookup x=some .local:=by first | exact .inl rfl | exact .inr rfl | assumption):
  GS X B fl n l (.Assign [.Name x pos'] e pos) (aS i f):=by
 refine gT (jO hN hi hx he hs hf) ?_;rintro D σ H ⟨Ex,ρ,M,o,S,hr,q⟩;simp only[aIw,decide_eq_true_eq] at hfl;unfold aS at hr;cases e1:f ρ with
 | none=>rw[e1] at hr;cases hr
 | some t=>
  rw[e1] at hr;cases (aIi hr);refine⟨Ex,ρ,M,t,S,e1,fun v H1 s1 rx=>q _ M H1 ((S.grow s1).set hfl.1.1 (.inl hfl.1.2) ?_)⟩;exact (rx.rep S).weak fun b x=>⟨fun z=>x.1 (by omega),fun z=>x.2.1 (by omega),fun z=>by omega⟩
theorem NM {ρ:Rho}{σ:St}{H H1:Hp}{M:List Addr}{Ex:List (T × V)}{t:T}{v:V}{o:Out}{D:Ends}(S:Sl X.K B fl Ex σ ρ M H) (hfl:i<fl.length/\fl.getD i 1=0/\lc fl<=l')
  (hr:(if okM t then some (Out.nx (ρ.set i (some t))) else none)=some o) (q:ET X.K B fl n l Ex D o) (s1:aK H H1) (rx:aM X.K B H M H1 true l' t v):D.nx (σ.set i (some v)) H1:=by
 split at hr
 rotate_left
 ·cases hr
 rename_i hok;cases (aIi hr)
 by_cases hl:∃ ts,t=.lst ts
 ·obtain⟨ts,rfl⟩:=hl
  obtain⟨a,xs,rfl,h1,h2,h3⟩:=rx;exact q _ _ H1 (S.setM hfl.1 hfl.2.1 s1 h1 h2 (h3.weak fun b x=>⟨x.1.le hfl.2.2,x.2⟩))
 ·have him:im t=true:=by
   cases t with
   | lst ts=>exact absurd ⟨ts,rfl⟩ hl
   | non=>exact hok
   | bl _=>exact hok
   | int _=>exact hok
   | str _=>exact hok
   | tup _=>exact hok
   | exc _=>exact hok
   | dct _=>exact hok
   | own _=>exact hok
  exact q _ _ H1 ((S.grow s1).set hfl.1 (.inr him) (rC t him (rx.rep S)))
theorem BI (i:Nat) (he:GE X B fl e f true l') (hN:X.N.Nodup) (hi:X.N[i]?=some x) (hx:Loc X.env.scope x) (hfl:(decide (i<fl.length)&&decide (fl.getD i 1=0)&&decide (lc fl<=l'))=true)
  (hs:swapsWith e (some (.Name x pos')) pos.line X.env=pure false:=by rfl) (hf:X.fn x=true\/X.env.scope.names.lookup x=some .local:=by first | exact .inl rfl | exact .inr rfl | assumption):
  GS X B fl n l (.Assign [.Name x pos'] e pos) (nX i f):=by
 refine gT (jO hN hi hx he hs hf) ?_;rintro D σ H ⟨Ex,ρ,M,o,S,hr,q⟩;simp only[aIw,decide_eq_true_eq,and_assoc] at hfl;obtain⟨t,e1,hr⟩:=bind_some hr;exact⟨Ex,ρ,M,t,S,e1,fun v H1 s1 rx=>NM S hfl hr q s1 rx⟩
section
variable {elt iter:Expr}{x0:Str}{p0 cpos:Pos}{ifs:List Expr}{scope:Scope}{N':List Str}{src:List (Option Nat)}{fl':List Nat}{fi:Rho->Option (List T)}{li:Nat}{sc:Bool}{spos:Pos}
theorem BH (i:Nat) (S:BlkOk X scope N' src) (F:FlOk X N' src fl fl' li sc) (hc:X.calm=true) (hi:GI X B fl (.Name x0 p0) iter fi li sc) (hN0:N'[0]?=some x0) (hx0:tQ (scope.names.lookup x0)=true)
  (hb:∀ cl C s H ex,GIf (cxB X scope N' cl C s H ex) B fl' ifs p/\GE (cxB X scope N' cl C s H ex) B fl' elt f n' l') (hN:X.N.Nodup) (hiN:X.N[i]?=some x) (hx:Loc X.env.scope x) (hfl:(decide (i<fl.length)&&decide (1<=fl.getD i 1)&&decide (fl.getD i 1<=l')&&decide (1<=l'))=true)
  (hsw:swapsWith (.ListComp elt [⟨.Name x0 p0,iter,ifs,0⟩] scope cpos) (some (.Name x pos')) spos.line X.env=pure true:=by rfl)
  (hs:∀ x,foldedSetIterable iter X.env x=pure x:=by intro _;rfl) (hf:X.fn x=true\/X.env.scope.names.lookup x=some .local:=by first | exact .inl rfl | exact .inr rfl | assumption):
  GS X B fl n l (.Assign [.Name x pos'] (.ListComp elt [⟨.Name x0 p0,iter,ifs,0⟩] scope cpos) spos) (aS i (bA fi src p f)):=by
 refine gT (JK S hc hi F.nd hN0 hx0 hb hN hiN hx hsw hs hf) ?_;rintro D σ H ⟨Ex,ρ,M,o,S,hr,q⟩;simp only[aIw,decide_eq_true_eq] at hfl;unfold aS at hr;cases e1:bA fi src p f ρ with
 | none=>rw[e1] at hr;cases hr
 | some t=>
  rw[e1] at hr;cases (aIi hr);refine AI F hfl.2 ⟨Ex,ρ,M,t,S,e1,fun v H1 s1 rx=>q _ M H1 ((S.grow s1).set hfl.1.1.1 (.inl hfl.1.1.2) ?_)⟩;exact (rx.rep S).weak fun b x=>⟨fun z=>x.1 (by omega),fun z=>x.2.1 (by omega),fun z=>by omega⟩
theorem WU (i:Nat) (S:BlkOk X scope N' src) (F:FlOk X N' src fl fl' li sc) (hc:X.calm=true) (hi:GI X B fl (.Name x0 p0) iter fi li sc) (hN0:N'[0]?=some x0) (hx0:tQ (scope.names.lookup x0)=true)
  (hb:∀ cl C s H ex,GIf (cxB X scope N' cl C s H ex) B fl' ifs p/\GE (cxB X scope N' cl C s H ex) B fl' elt f n' l') (hN:X.N.Nodup) (hiN:X.N[i]?=some x) (hx:Loc X.env.scope x) (hfl:(decide (i<fl.length)&&decide (fl.getD i 1=0)&&decide (lc fl<=l'))=true)
  (hsw:swapsWith (.ListComp elt [⟨.Name x0 p0,iter,ifs,0⟩] scope cpos) (some (.Name x pos')) spos.line X.env=pure true:=by rfl)
  (hs:∀ x,foldedSetIterable iter X.env x=pure x:=by intro _;rfl) (hf:X.fn x=true\/X.env.scope.names.lookup x=some .local:=by first | exact .inl rfl | exact .inr rfl | assumption):
  GS X B fl n l (.Assign [.Name x pos'] (.ListComp elt [⟨.Name x0 p0,iter,ifs,0⟩] scope cpos) spos) (nX i (bA fi src p f)):=by
 refine gT (JK S hc hi F.nd hN0 hx0 hb hN hiN hx hsw hs hf) ?_;rintro D σ H ⟨Ex,ρ,M,o,S,hr,q⟩;simp only[aIw,decide_eq_true_eq,and_assoc] at hfl;obtain⟨t,e1,hr⟩:=bind_some hr;exact AI F (by have:=hfl.2.2;have:=sW fl;omega) ⟨Ex,ρ,M,t,S,e1,fun v H1 s1 rx=>NM S hfl hr q s1 rx⟩
end
theorem bX (hc:GT X B fl c p) (ha:GSs X B fl n l body r1) (hb:GSs X B fl n l els r2):GS X B fl n l (.If c body els pos) (rIf p r1 r2):=by
 refine gT (jM hc ha hb) ?_;rintro D σ H ⟨Ex,ρ,M,o,S,hr,q⟩;obtain⟨b,hb,hr⟩:=bind_some hr;refine⟨Ex,ρ,M,b,S,hb,fun H1 s1=>?_⟩;cases b with
 | true=>exact fS ⟨Ex,ρ,M,o,S.grow s1,hr,q⟩
 | false=>exact cY ⟨Ex,ρ,M,o,S.grow s1,hr,q⟩
theorem aDn {ρ:Rho}{σ:St}{H H1:Hp}{M:List Addr}{Ex:List (T × V)}{t:T}{v:V}(S:Sl X.K B fl Ex σ ρ M H) (h:(n=true->n'=true)/\(l=0\/2<=l')) (rx:aM X.K B H M H1 n' l' t v):aM X.K B B [] H1 n l t v:=by
 have ad:∀ b,Ad B H M l' b->Ad B B [] l b:=fun b x=>⟨fun _ z=>by simp at z,fun z=>x.2.1 (by omega),fun z=>x.2.1 (by omega)⟩;cases n with
 | false=>cases t<;>exact (rx.rep S).weak ad
 | true=>
  have e:=h.1 rfl;subst e;cases t with
  | lst ts=>
   obtain⟨a,xs,e,h1,h2,h3⟩:=rx;exact⟨a,xs,e,S.same.free h1,h2,h3.weak fun b x=>⟨ad b x.1,x.2⟩⟩
  | non=>exact rx
  | bl _=>exact rx
  | int _=>exact rx
  | str _=>exact rx
  | tup _=>exact Rep.weak ad rx
  | exc _=>exact rx
  | dct _=>exact Rep.weak ad rx
  | own _=>exact Rep.weak ad rx
theorem WS (i:Nat) {apos p2:Pos}(he:GE X B fl e f n' l') (h1:(decide (fl.getD i 1=0)&&decide (lc fl<=l'))=true) (hN:X.N[i]?=some x:=by rfl) (hv:Vis X.env.scope x:=by first | exact Or.inl rfl | exact Or.inr (Or.inl rfl) | exact Or.inr (Or.inr rfl))
  (hd:(x == ("__debug__" : Str))=false:=by decide) (hcd:(x == ("__classdict__" : Str))=false:=by decide)
  (hbase:attributeBase (.Name x p2) "append" X.env (eval (.Name x p2) X.env)=eval (.Name x p2) X.env:=by rfl)
  (hfew:((backTo pos' (starEach [e] X.env)).all (fun x=>!x.1)&&(backToKw pos' (keywordEach [] X.env)).all (fun x=>x.1.isSome)
   && decide (([e]:List Expr).length+([]:List Keyword).length+(if ([]:List Keyword).isEmpty then 0 else 1)<30))=true:=by rfl)
  (hline:(apos.endLine == pos'.line)=true:=by rfl) (hs:starEach [e] X.env=[(false,eval e X.env)]:=by rfl) (hsw:swapsWith (.Call (.Attribute (.Name x p2) "append" apos) [e] [] pos') none pos.line X.env=pure false:=by rfl):
  GS X B fl n l (.Expr (.Call (.Attribute (.Name x p2) "append" apos) [e] [] pos') pos) (DO i f):=by
 simp only[aIw,decide_eq_true_eq] at h1;have lcl:=qX fl;have lcp:=sW fl;refine gT (yA (nS PySem.F.plainAttrs_list PySem.F.slot_list_append PySem.F.type_list_append CK (pv (X:=X) i hN hv hd hcd) (bI he cB hs) hbase hfew hline hs rfl) hsw) ?_;rintro D σ H ⟨Ex,ρ,M,o,S,hr,q⟩;obtain⟨t,e1,hr⟩:=bind_some hr;obtain⟨y,e2,hr⟩:=bind_some hr;cases t<;>first | (cases hr;done) | skip
 dsimp only at hr;split at hr
 ·rename_i hl
  cases (aIi hr);have e1':=wW e1;obtain⟨a,ts,xs,e3,e4,e5,e6,e7⟩:=S.muL i _ e1' h1.1;cases e3;refine⟨_,e4,.inl ⟨rfl,xs,SqL.of e5⟩,?_⟩;refine⟨Ex,ρ,M,y,S,e2,fun v H1 s1 rx=>?_⟩;refine⟨a,xs,v,rfl,rfl,s1 _ _ e5,by rw[<- e6.length];exact gJ (aKd hl),?_⟩;refine q σ M _ ((S.grow s1).write h1.1 e1' e4 e7 (s1 _ _ e5) (RepL.app ((e6.grow s1).weak fun b x=>x.any (by omega)) (RepL.one ((rx.rep S).weak fun b x=>?_))));exact⟨fun z=>x.1 (by omega),fun z=>x.2.1 (by omega),fun z=>by omega⟩
 ·cases hr
theorem qS (j:Nat) {iter:Expr}{fi:Rho->Option (List T)}{li:Nat}{sc:Bool}{tpos:Pos}(hp:PassesOwn (model X.prog X.w) X.A X.env X.xe) (hc:X.calm=true) (hi:GI X B fl (.Name x tpos) iter fi li sc) (hN:X.N.Nodup) (hj:X.N[j]?=some x) (hx:Loc X.env.scope x)
  (hb:GSs X B fl n l body r) (hfl:(decide (j<fl.length)&&decide (fl.getD j 1=1)&&decide (1<=li))=true)
  (hs:∀ x,foldedSetIterable iter X.env x=pure x:=by intro _;rfl) (hf:X.fn x=true\/X.env.scope.names.lookup x=some .local:=by first | exact .inl rfl | exact .inr rfl | assumption):
  GS X B fl n l (.For (.Name x tpos) iter body [] pos) (kO j fi r):=by
 simp only[aIw,decide_eq_true_eq,and_assoc] at hfl;refine gT (yB hp hc hi (mN hN hj hx hf) hb hs) ?_;rintro D σ H ⟨Ex,ρ,M,o,S,hr,q⟩;obtain⟨ts,hts,hr⟩:=bind_some hr;refine⟨Ex,ρ,M,ts,S,hts,fun J H1 ps s1 rp wk=>?_⟩;refine⟨fun i m σ1 H2=>m=ts.length-i/\i<=ts.length/\∃ ρ1 M1,Sl X.K B fl (ps++Ex) σ1 ρ1 M1 H2/\dJ j r (ts.drop i) ρ1=some o,⟨ts.length,by simp,aKo _,ρ,M,(S.grow s1).plus (fun p hp=>(rp p hp).weak fun b x=>⟨fun z=>x.1 (by omega),fun z=>by omega,fun z=>by omega⟩),hr⟩,?_⟩;rintro i m σ1 H2 ⟨rfl,hi,ρ1,M1,S1,e1⟩;have w:=wk H2 _ (fun p hp=>S1.ex p (List.mem_append_left _ hp)) i
 by_cases hlt:i<ts.length
 ·have et:ts[i]?=some ts[i]:=aIk hlt
  obtain⟨go,yl⟩:=w.1 _ et;rw[aJ9 hlt] at e1;unfold dJ at e1;obtain⟨o1,h1,e1⟩:=bind_some e1;refine .inr ⟨go,fun σ' H'=>∃ ρ1 M1,Sl X.K B fl (ps++Ex) σ' ρ1 M1 H'/\dJ j r (ts.drop (i+1)) ρ1=some o,fun σ' H' ⟨ρ',M',S',e'⟩=>⟨ts.length-(i+1),by omega,rfl,hlt,ρ',M',S',e'⟩,fun y H3 hy=>?_⟩;obtain⟨s23,ry⟩:=yl y H3 hy;have ry':Rep X.K H3 (Ad B H3 M1 (min (fl.getD j 1) 2)) ts[i] y:=ry.weak fun c hc=>by
   obtain⟨_,hc⟩:=hc;rcases hc with hc | hc
   ·exact⟨fun z=>hc.1 (aKe _),fun z=>by omega,fun z=>by omega⟩
   ·exact⟨fun _ z=>(S1.mB c z).2 hc,fun z=>by omega,fun z=>by omega⟩
  refine⟨ps++Ex,_,M1,o1,(S1.grow s23).set hfl.1 (.inl (by omega)) ry',h1,?_⟩;cases o1 with
  | nx ρ'=>exact fun σ' M' H' S'=>⟨ρ',M',S',e1⟩
  | ct ρ'=>exact fun σ' M' H' S'=>⟨ρ',M',S',e1⟩
  | bk ρ'=>cases (aIi e1);exact fun σ' M' H' S'=>q σ' M' H' S'.fewer
  | rt t=>cases (aIi e1);exact q
 ·have ei:i=ts.length:=by omega
  subst ei;rw[aJa (aKe _)] at e1;cases (aIi (show some (Out.nx ρ1)=some o from e1));exact .inl ⟨w.2 (aKe _),q σ1 M1 H2 S1.fewer⟩
end
def spT (K:PySem.W.Frag) (F:List T->Option T) (n:Bool) (l:Nat):Sp:=fun vs H Q _=>
 ∃ ts t,RepL K H (fun _=>True) ts vs/\F ts=some t/\∀ v H',aK H H'->aM K H H [] H' n l t v->Q v H'
structure Cal (P:Program) (w:World) (K:PySem.W.Frag) (mg:Str->Option Value) (base:Heap) (x:Str) (k:Nat) (ps:List Str) (F:List T->Option T) (n:Bool) (l:Nat):Prop where
 ex:∃ f fd,FnOk P w K mg base CX0 k f fd ps (spT K F n l)/\mg x=some (.ref f)/\PySem.W.keepIn K (.ref f)=true/\eF K fd ps []
section
variable {X:Cx}{B:Hp}{fl:List Nat}{e:Expr}{es:List Expr}{f:Rho->Option T}{fa:Rho->Option (List T)}{n n':Bool}{l l' k:Nat}{pos p':Pos}{x:Str}{ps:List Str}{F:List T->Option T}
theorem aM.called {K:PySem.W.Frag}{H H1 H2:Hp}{Ex:List (T × V)}{σ:St}{ρ:Rho}{M:List Addr}{t:T}{v:V}(S:Sl K B fl Ex σ ρ M H) (s1:aK H H1) (hl:l=0\/l=3) (r:aM K H1 H1 [] H2 n l t v):aM K B H M H2 n l t v:=by
 have S1:=S.grow s1;have ad:∀ b,Ad H1 H1 [] l b->Ad B H M l b:=fun b x=>by
  rcases hl with rfl | rfl
  ·exact Ad.zero
  ·have hn:=x.2.2 (by lia)
   exact⟨fun _ z=>(S1.mB b z).2 hn,fun _=>S1.same.free hn,fun _=>s1.free hn⟩
 cases n with
 | false=>cases t<;>exact Rep.weak ad r
 | true=>
  cases t with
  | lst ts=>
   obtain⟨a,xs,e,h1,h2,h3⟩:=r;exact⟨a,xs,e,s1.free h1,h2,h3.weak fun b x=>⟨ad b x.1,x.2⟩⟩
  | non=>exact r
  | bl _=>exact r
  | int _=>exact r
  | str _=>exact r
  | tup _=>exact Rep.weak ad r
  | exc _=>exact r
  | dct _=>exact Rep.weak ad r
  | own _=>exact Rep.weak ad r
theorem aZ (C:Cal X.prog X.w X.K X.mg X.base x k ps F n l) (hr:Room k X.A) (hg:Gl X x) (ha:GA X B fl (e::es) fa l') (hl:(decide (l=0)||decide (l=3))=true:=by rfl) (hdb:(x == ("__debug__" : Str))=false:=by decide)
  (he:starEach (e::es) X.env=(false,eval e X.env)::starEach es X.env:=by rfl) (hpl:(backTo pos (starEach es X.env)).any (·.1)=false:=by rfl):GE X B fl (.Call (.Name x p') (e::es) [] pos) (aG fa F) n l:=by
 obtain⟨f,fd,FO,hm,hk,hb⟩:=C.ex;refine bD (jL FO hr hg hm hk hb .nil fX ha hdb he hpl) ?_;rintro σ H Q ⟨Ex,ρ,M,t,S,hf,q⟩;obtain⟨ts,hts,hf⟩:=bind_some hf;simp only[Bool.or_eq_true,decide_eq_true_eq] at hl;refine⟨Ex,ρ,M,ts,S,hts,fun vs H1 s1 r1=>?_⟩;show spT X.K F n l (vs++[]) H1 Q E0;rw[List.append_nil];exact⟨ts,t,r1.weak fun _ _=>trivial,hf,fun v H2 s2 r2=>q v H2 (s1.trans s2) (r2.called S s1 hl)⟩
end
section
variable {P:Program}{w:World}{K:PySem.W.Frag}{mg:Str->Option Value}{base:Heap}
def FN:Out->T->Prop
 | .rt t,u=>t=u
 | .nx _,u=>u=.non
 | _,_=>False
theorem NP {H:Hp}{fl:List Nat}{N ps:List Str}{ts:List T}{vs:List V}(hfl:fl.length=N.length) (hp:∀ i,i<ps.length->fl.getD i 1=1) (hl:ts.length=ps.length) (r:RepL K H (fun _=>True) ts vs) (hN:ps.length<=N.length):
  Sl K H fl [] (L2.start N vs) (ts.map some++List.replicate (N.length-ps.length) none) [] H:=by
 have hlv:=r.length;have get:∀ i t,(ts.map some++List.replicate (N.length-ps.length) none)[i]?=some (some t)->ts[i]?=some t/\i<ps.length:=fun i t e=>by
  by_cases hi:i<ts.length
  ·rw[List.getElem?_append_left (by simpa using hi),aJk] at e
   rw[aIk hi] at e ⊢;exact⟨aIi e,by lia⟩
  ·rw[List.getElem?_append_right (by simpa using hi),List.getElem?_replicate] at e
   split at e<;>cases e
 refine⟨aK.refl H,fun i t e k=>?_,⟨fun _ _=>0,fun i t e k=>?_,fun i j c d t u us ws _ e _ k=>?_⟩,fun p hp=>by simp at hp,fun a ha=>by simp at ha,?_⟩
 ·obtain⟨e1,hi⟩:=get i t e
  obtain⟨v,e2,r2⟩:=r.get e1;refine⟨v,?_,r2.weak fun b _=>?_⟩
  ·unfold L2.start
   rw[List.getElem?_append_left (by rw[aJq];lia),aJk,e2]
   rfl
  ·rw[hp i hi]
   exact⟨fun _ z=>by simp at z,fun z=>by lia,fun z=>by lia⟩
 ·obtain⟨_,hi⟩:=get i t e
  rw[hp i hi] at k;cases k
 ·obtain⟨_,hi⟩:=get i t e
  rw[hp i hi] at k;cases k
 ·unfold L2.start
  rw[hfl,aJn,aJq,aJt];lia
theorem gfn {x qual:Str}{st:Stmt}{f:Addr}{fd:FuncData}{N ps:List Str}{k:Nat}{fl:List Nat}{n:Bool}{l:Nat}{F:List T->Option T}{run:Rho->Option Out}(Fu:Fun K x qual st f fd) (S:FnScope N ps (defScope st))
  (hfl:fl.length=N.length) (hp:∀ i,i<ps.length->fl.getD i 1=1) (hlen:∀ ts t,F ts=some t->ts.length=ps.length)
  (hb:∀ (cdv:Value) (A:Around) (outer:List Env) (s:Shared) (H:Hp) (E:XK),Room k (A.deeper (envOfC qual (defScope st) s.heap.objs.size f cdv)) ->
   GSs (bB CX0 P w K mg base N qual (defScope st) f cdv A outer s H E).nox H fl n l (defBody st) run)
  (hrun:∀ ts t,F ts=some t->∃ o,run (ts.map some++List.replicate (N.length-ps.length) none)=some o/\FN o t) (hl4:l≠4:=by decide):FnOk P w K mg base CX0 (k+1) f fd ps (spT K F n l):=by
 have hN:ps.length<=N.length:=by have:=congrArg List.length S.pre;rw[List.length_take] at this;lia
 refine Fu.ok S (fun vs H Q E h=>?_) (fun cdv A outer s H vs Q E hr h=>?_)
 ·obtain⟨ts,t,r,hf,_⟩:=h
  rw[<- r.length];exact hlen ts t hf
 ·obtain⟨ts,t,r,hf,q⟩:=h
  refine⟨_,hb cdv A outer s H E hr,?_⟩;obtain⟨o,ho,hi⟩:=hrun ts t hf;refine⟨[],_,[],o,NP hfl hp (hlen ts t hf) r hN,ho,?_⟩;cases o with
  | rt u=>
   cases (show u=t from hi);exact fun v H' s' r'=>q v H' s' ((RtX.of hl4).mp r')
  | nx ρ'=>
   cases (show t=.non from hi);exact fun σ' M' H' S'=>q _ H' S'.same ((aM.scal rfl).mpr rfl)
  | bk _=>exact False.elim hi
  | ct _=>exact False.elim hi
end
section
variable {X:Cx}{B:Hp}{fl:List Nat}{e:Expr}{es:List Expr}{f:Rho->Option T}{fa:Rho->Option (List T)}{n n':Bool}{l l' k:Nat}{pos p' p2:Pos}{x:Str}{ps:List Str}{F:List T->Option T}
def CQ:T->Option T
 | .int i=>some (.int (Builtin.Int.intBits i:Nat))
 | _=>none
theorem ZJ:MtR X "int.bit_length" (fun x xs H Q=>∃ i,x=.int i/\xs=[]/\Q (.int ((Builtin.Int.intBits i:Nat):Int)) H):=by
 intro pins s σ H x xs v us Q I rx rs h;obtain⟨i,rfl,rfl,q⟩:=h;obtain⟨t,rfl⟩:=rx;cases rs;exact call_int_bit_length ⟨.int _,H,I.tok _,⟨_,rfl⟩,q⟩
theorem VL {apos:Pos}(he:GE X B fl e f n l) (hbase:attributeBase e "bit_length" X.env (eval e X.env)=eval e X.env:=by rfl) (hline:(apos.endLine == pos.line)=true:=by rfl):
  GE X B fl (.Call (.Attribute e "bit_length" apos) [] [] pos) (f1 f CQ) true 3:=by
 refine bD (aCb PySem.F.plainAttrs_int slot_int_bit_length type_int_bit_length ZJ he hbase hline) ?_;rintro σ H Q ⟨Ex,ρ,M,t,S,hf,q⟩;obtain⟨u,hu,hf⟩:=bind_some hf;have hi:∃ i,u=.int i:=by cases u<;>first | (cases hf;done) | exact⟨_,rfl⟩
 obtain⟨i,rfl⟩:=hi;cases (aIi hf);refine⟨Ex,ρ,M,_,S,hu,fun v H1 s1 r1=>?_⟩;cases (show v=V.int i from (aM.scal rfl).mp r1);exact⟨rfl,i,rfl,rfl,q _ H1 s1 ((aM.scal rfl).mpr rfl)⟩
theorem aBl:OpR X (binaryOp .FloorDiv) (rI (fun _ j=>0<j/\j<2^200) fun i j=>.int (i / j)):=opI fun i j _ _ _ _ _ hc q=>by
 refine floordiv_int (by omega) ?_ (.inl (PyProof.noPylong_of_log2 ?_))
 ·rw[Int.fdiv_eq_ediv_of_nonneg _ (by omega)]
  exact q
 ·have:j.natAbs.log2<200:=(Nat.log2_lt (by omega)).mpr (by omega)
  omega
end
section
variable {X:Cx}{B:Hp}{fl:List Nat}{a b:Expr}{f g:Rho->Option T}{n n':Bool}{l l':Nat}{pos:Pos}
theorem fA (ha:GE X B fl a f n l) (hb:GE X B fl b g n' l'):GE X B fl (.BinOp a .FloorDiv b pos) (f2 f g bG) true 3:=fH aBl (rN (fun _ _ k=>by simpa using k) (fun _ _=>rfl) fun _ _=>rfl) ha hb
end
def BR:Option NameKind->Bool
 | some .local=>true
 | _=>false
def JS:Option NameKind->Bool
 | some .cell=>true
 | some .free=>true
 | _=>false
def GY (env:Env) (N N':List Str) (src:List (Option Nat)) (scope:Scope):Bool:=
 (match scope.kind with | .function=>true | _=>false) &&
 scope.names.all (fun y=>match y.2 with | .cell=>qV (scope.names.lookup y.1) | _=>true) &&
 scope.names.all (fun y=>match y.2 with | .local=>BR (scope.names.lookup y.1) | _=>true) &&
 scope.names.all (fun y=>match y.2 with | .free=>JS (env.kindOf y.1) | _=>true) &&
 (src.length == N'.length) &&
 (List.range src.length).all (fun j=>match src[j]? with | some (some i)=>(match N'[j]?,N[i]? with | some a,some b=>a == b && !BR (scope.names.lookup a) && !qV (scope.names.lookup a) | _,_=>false) | _=>true)
theorem bZ {X:Cx}{scope:Scope}{N':List Str}{src:List (Option Nat)}(h:GY X.env X.N N' src scope=true):BlkOk X scope N' src:=by
 unfold GY at h;simp only[aIw] at h;obtain⟨⟨⟨⟨⟨h1,h2⟩,h3⟩,h4⟩,h5⟩,h6⟩:=h;refine⟨?_,fun y hy e=>?_,fun y hy e=>?_,fun y hy e=>?_,fun j i e=>?_,eq_of_beq h5⟩
 ·cases q:scope.kind<;>rw[q] at h1<;>first | rfl | cases h1
 ·have:=aIo.mp h2 y hy
  rw[e] at this;exact JT this
 ·have:=aIo.mp h3 y hy
  rw[e] at this;have this:BR (scope.names.lookup y.1)=true:=this;cases q:scope.names.lookup y.1 with
  | none=>rw[q] at this;cases this
  | some k=>rw[q] at this;cases k<;>first | rfl | cases this
 ·have:=aIo.mp h4 y hy
  rw[e] at this;have this:JS (X.env.kindOf y.1)=true:=this;cases q:X.env.kindOf y.1 with
  | none=>rw[q] at this;cases this
  | some k=>rw[q] at this;cases k<;>first | exact .inl rfl | exact .inr rfl | cases this
 ·have hj:j<src.length:=(aIn.mp e).1
  have:=aIo.mp h6 j (aIp.mpr hj);rw[e] at this;dsimp only at this;cases q:N'[j]? with
  | none=>rw[q] at this;cases this
  | some a=>
   cases q2:X.N[i]? with
   | none=>rw[q,q2] at this;cases this
   | some b=>
    rw[q,q2] at this;simp only[aIw] at this;have e1:=eq_of_beq this.1.1;subst e1;refine⟨a,rfl,rfl,fun z=>?_,fun z=>?_⟩
    ·have t2:=this.1.2
     rw[z] at t2;cases t2
    ·have t2:=this.2
     rw[z] at t2;cases t2
def sZ:List Str->Bool
 | []=>true
 | x::r=>!(r.any (· == x))&&sZ r
theorem jG:∀ {l:List Str},sZ l=true->l.Nodup
 | [],_=>List.nodup_nil
 | x::r,h=>by
  unfold sZ at h;simp only[aIw] at h;refine List.nodup_cons.mpr ⟨fun hx=>?_,jG h.2⟩;have h1:=h.1;rw[Bool.not_eq_true',List.any_eq_false] at h1;exact h1 x hx (beq_self_eq_true x)
def GZ (N N':List Str) (src:List (Option Nat)) (fl fl':List Nat) (li:Nat) (sc:Bool):Bool:=
 sZ N'&&(match src with | none::_=>true | _=>false)&&decide (1<=fl'.getD 0 1)&&(sc||decide (fl'.getD 0 1<=li))&&(fl'.length == src.length)&&(src.length == N'.length) &&
 (List.range src.length).all (fun j=>match src[j]? with | some (some i)=>(match N'[j]?,N[i]? with | some a,some b=>a == b | _,_=>false)&&(fl'.getD j 1 == fl.getD i 1) | _=>true)&&(decide (lc fl'<=lc fl) || !fl'.contains 0)
theorem KG {fl fl':List Nat}(h:(decide (lc fl'<=lc fl) || !fl'.contains 0)=true):lc fl'<=lc fl\/∀ j,fl'.getD j 1≠0:=by
 rcases Bool.or_eq_true_iff.mp h with h | h
 ·exact .inl (of_decide_eq_true h)
 ·refine .inr fun j z=>?_
  rw[aIj] at z;cases q:fl'[j]? with
  | none=>rw[q] at z;cases z
  | some m=>
   rw[q] at z;have z:m=0:=z;have:fl'.contains 0=true:=List.contains_iff_mem.mpr (List.mem_of_getElem? (z ▸ q));rw[this] at h;cases h
theorem cH {X:Cx}{N':List Str}{src:List (Option Nat)}{fl fl':List Nat}{li:Nat}{sc:Bool}(h:GZ X.N N' src fl fl' li sc=true):FlOk X N' src fl fl' li sc:=by
 unfold GZ at h;have h8:=KG (aIx.mp h).2;simp only[aIw,decide_eq_true_eq] at h;obtain⟨⟨⟨⟨⟨⟨⟨h1,h2⟩,h3⟩,h4⟩,h5⟩,h6⟩,h7⟩,_⟩:=h;have key:∀ j i,src[j]?=some (some i)->(∃ a,N'[j]?=some a/\X.N[i]?=some a)/\fl'.getD j 1=fl.getD i 1:=fun j i e=>by
  have hj:j<src.length:=(aIn.mp e).1;have:=aIo.mp h7 j (aIp.mpr hj);rw[e] at this;dsimp only at this;simp only[aIw] at this;refine⟨?_,eq_of_beq this.2⟩;have t1:=this.1;cases q:N'[j]? with
  | none=>rw[q] at t1;cases t1
  | some a=>
   cases q2:X.N[i]? with
   | none=>rw[q,q2] at t1;cases t1
   | some b=>
    rw[q,q2] at t1;exact⟨a,rfl,by rw[eq_of_beq t1]⟩
 refine⟨jG h1,?_,fun j i e=>(key j i e).2,h3,fun z=>by simpa [z] using h4,fun j i e=>?_,eq_of_beq h5,h8⟩
 ·cases src with
  | nil=>cases h2
  | cons o r=>cases o<;>first | rfl | cases h2
 ·obtain⟨⟨a,e1,e2⟩,_⟩:=key j i e
  refine⟨e1.trans e2.symm,?_⟩;exact (aIn.mp e1).1
theorem YR {l:PySem.W.OpenLaw}{q:Program}{loose:List Str}{XP:(Str->Option Value)->Heap->Prop}{YP:World->Heap->Prop}{d:DefRec}{K:Params->PySem.W.Frag}{k:Nat}{F0:List T->Option T}{n:Bool}{lv:Nat}(hr:Room k callerA) (hn:l.most=some 63) (hdf:d.params.defaults=[])
  (hY:∀ (w:World) (h:Heap),YP w h->(K w.params).In h)
  (F:∀ (w:World) (mg:Str->Option Value) (fa:Addr) (h:Heap),(K w.params).In h->h.Ns mainGlobals mg->mg d.name=some (.ref fa) ->
   ∃ fd:FuncData,(∀ (s:Shared) (u:Value),BindsTo s fd ⟨[u],[]⟩ [("script",u)])/\∀ base:Heap,(K w.params).In base->base.Ns mainGlobals mg->FnOk l.prog w (K w.params) mg base CX0 k fa fd ["script"] (spT (K w.params) F0 n lv))
  (ht:∀ ns:List Int,ns.length<=63->F0 [.lst (ns.map T.int)]=some (.bl true)):
  PySem.W.WalkO q loose XP YP l.row.toRowW d [] (fun f vs=>PySem.call f vs):=by
 refine L2.walk_of (n:=63) (k:=k) (x := "script") (CX:=fun _=>CX0) (sp:=fun w=>spT (K w.params) F0 n lv) hn (by decide) hdf hr hY F (fun w H a ns hl _ hS=>?_) fun _ _ _ _ _ z=>z;have ri:∀ ns:List Int,RepL (K w.params) H (fun _=>True) (ns.map T.int) (ns.map V.int):=fun ns=>by
  induction ns with
  | nil=>exact rfl
  | cons a r ih=>exact⟨_,_,rfl,rfl,ih⟩
 refine⟨[.lst (ns.map T.int)],.bl true,⟨.ref a,[],rfl,⟨a,ns.map V.int,rfl,?_,ri ns⟩,rfl⟩,ht ns hl,fun v H' _ r=>(aM.scal rfl).mp r⟩;rcases hS with hS | hS
 ·exact .inl ⟨trivial,hS⟩
 ·exact .inr hS
@[simp] theorem jn {α:Type} (x:Option α):(some x).join=x:=by cases x<;>rfl
@[simp] theorem fVar_at (i:Nat) (ρ:Rho):aA i ρ=(ρ[i]?).join:=id rfl
@[simp] theorem fC_at (t:T) (ρ:Rho):fC t ρ=some t:=id rfl
@[simp] theorem f1_at (f:Rho->Option T) (F:T->Option T) (ρ:Rho):f1 f F ρ=(f ρ).bind F:=id rfl
@[simp] theorem f2_at (f g:Rho->Option T) (F:T->T->Option T) (ρ:Rho):f2 f g F ρ=(f ρ).bind fun x=>(g ρ).bind fun y=>F x y:=id rfl
@[simp] theorem aNil_at (ρ:Rho):aE ρ=some []:=id rfl
@[simp] theorem aCons_at (f:Rho->Option T) (g:Rho->Option (List T)) (ρ:Rho):aD f g ρ=(f ρ).bind fun x=>(g ρ).bind fun y=>some (x::y):=id rfl
@[simp] theorem fCall_at (fa:Rho->Option (List T)) (F:List T->Option T) (ρ:Rho):aG fa F ρ=(fa ρ).bind F:=id rfl
@[simp] theorem fB_at (f:Rho->Option T) (ρ:Rho):fB f ρ=(f ρ).bind isB:=id rfl
@[simp] theorem fT_at (f:Rho->Option T) (ρ:Rho):fT f ρ=(f ρ).bind vX:=id rfl
@[simp] theorem fL_at (f:Rho->Option T) (ρ:Rho):fL f ρ=(f ρ).bind isL:=id rfl
@[simp] theorem fFL_at (f:Rho->Option T) (ρ:Rho):fFL f ρ=(f ρ).bind jD:=id rfl
@[simp] theorem pNot_at (p:Rho->Option Bool) (ρ:Rho):nQ p ρ=(p ρ).map (!·):=id rfl
@[simp] theorem pAnd_at (p q:Rho->Option Bool) (ρ:Rho):gP p q ρ=(p ρ).bind fun b=>if b then q ρ else some false:=id rfl
@[simp] theorem pOr_at (p q:Rho->Option Bool) (ρ:Rho):pOr p q ρ=(p ρ).bind fun b=>if b then some true else q ρ:=id rfl
@[simp] theorem pYes_at (ρ:Rho):aO ρ=some true:=id rfl
@[simp] theorem vNot_at (f:Rho->Option T) (ρ:Rho):zR f ρ=((f ρ).bind isB).map fun b=>.bl (!b):=id rfl
@[simp] theorem vAnd_at (f g:Rho->Option T) (ρ:Rho):vY f g ρ=((f ρ).bind isB).bind fun b=>if b then g ρ else some (.bl false):=id rfl
@[simp] theorem fIf_at (p:Rho->Option Bool) (f g:Rho->Option T) (ρ:Rho):fIf p f g ρ=(p ρ).bind fun b=>if b then f ρ else g ρ:=id rfl
@[simp] theorem fLst_at (fa:Rho->Option (List T)) (ρ:Rho):cG fa ρ=(fa ρ).bind fun ts=>if ts.length<=cap then some (.lst ts) else none:=id rfl
@[simp] theorem fTup_at (fa:Rho->Option (List T)) (ρ:Rho):dI fa ρ=(fa ρ).bind fun ts=>if ts.length<=cap then some (.tup ts) else none:=id rfl
@[simp] theorem fRange_at (fa:Rho->Option (List T)) (o:List T->Option (List T)) (ρ:Rho):dE fa o ρ=(fa ρ).bind o:=id rfl
@[simp] theorem fComp_at (fi:Rho->Option (List T)) (src:List (Option Nat)) (p:Rho->Option Bool) (f:Rho->Option T) (ρ:Rho):bA fi src p f ρ =
 (fi ρ).bind fun ts=>(bC p f (bK src ρ) ts).bind fun us=>if us.length<=cap then some (.lst us) else none:=id rfl
@[simp] theorem oNone_at (ρ:Rho):cJ ρ=some none:=id rfl
@[simp] theorem oSome_at (f:Rho->Option T) (ρ:Rho):eW f ρ=((f ρ).bind isI).map some:=id rfl
@[simp] theorem fSlice_at (f:Rho->Option T) (lo hi st:Rho->Option (Option Int)) (ρ:Rho):fG f lo hi st ρ=(f ρ).bind fun x=>(lo ρ).bind fun a=>(hi ρ).bind fun b=>(st ρ).bind fun c=>
 match x with
 | .lst ts=>if c=some 0 then none else some (.lst (cF ts a b c))
 | _=>none:=id rfl
@[simp] theorem rNext_at (ρ:Rho):bE ρ=some (.nx ρ):=id rfl
@[simp] theorem rSeq_at (r1 r2:Rho->Option Out) (ρ:Rho):aJ r1 r2 ρ=(r1 ρ).bind fun o=>match o with | .nx ρ'=>r2 ρ' | o=>some o:=id rfl
@[simp] theorem rSet_at (i:Nat) (f:Rho->Option T) (ρ:Rho):aS i f ρ=(f ρ).map fun t=>.nx (ρ.set i (some t)):=id rfl
@[simp] theorem rSetM_at (i:Nat) (f:Rho->Option T) (ρ:Rho):nX i f ρ=(f ρ).bind fun t=>if okM t then some (.nx (ρ.set i (some t))) else none:=id rfl
@[simp] theorem okM_lst (ts:List T):okM (.lst ts)=true:=rfl
@[simp] theorem okM_non:okM .non=true:=rfl
@[simp] theorem rIf_at (p:Rho->Option Bool) (r1 r2:Rho->Option Out) (ρ:Rho):rIf p r1 r2 ρ=(p ρ).bind fun b=>if b then r1 ρ else r2 ρ:=id rfl
@[simp] theorem rRet_at (f:Rho->Option T) (ρ:Rho):aT f ρ=(f ρ).map .rt:=id rfl
@[simp] theorem rApp_at (i:Nat) (f:Rho->Option T) (ρ:Rho):DO i f ρ=(aA i ρ).bind fun t=>(f ρ).bind fun x=>match t with | .lst ts=>if ts.length<cap then some (.nx (ρ.set i (some (.lst (ts++[x]))))) else none | _=>none:=id rfl
@[simp] theorem rFor_at (j:Nat) (fi:Rho->Option (List T)) (body:Rho->Option Out) (ρ:Rho):kO j fi body ρ=(fi ρ).bind fun ts=>dJ j body ts ρ:=id rfl
@[simp] theorem oI_int (C:Int->Int->Bool) (h:Int->Int->T) (i j:Int):oI C h (.int i) (.int j)=if C i j then some (h i j) else none:=id rfl
@[simp] theorem oAdd_int (i j:Int):cA (.int i) (.int j)=some (.int (i+j)):=id rfl
@[simp] theorem oSub_int (i j:Int):kK (.int i) (.int j)=some (.int (i-j)):=id rfl
theorem xP {i j:Int}(h:gO i j=true):eM (.int i) (.int j)=some (.int (i*j)):=by simp[eM,h]
theorem fV {i j:Int}(h:0<j) (h2:j<2^200):bG (.int i) (.int j)=some (.int (i / j)):=by simp only[bG,oI_int];rw[if_pos (by simp[h];exact h2)]
theorem cZ {i j:Int}(h:0<j):aR (.int i) (.int j)=some (.int (i%j)):=by simp[aR,h]
theorem aAb {i j:Int}(h:0<=j) (h2:j<=1000000) (h3:i.natAbs<2^64):dQ (.int i) (.int j)=some (.int (i*2^j.toNat)):=by simp only[dQ,oI_int];rw[if_pos (by simp[h,h2];exact h3)]
@[simp] theorem oAnd_int (i j:Int):qY (.int i) (.int j)=some (.int (Builtin.bitAnd i j)):=id rfl
@[simp] theorem oOr_int (i j:Int):oOr (.int i) (.int j)=some (.int (Builtin.bitOr i j)):=id rfl
@[simp] theorem oXor_int (i j:Int):DA (.int i) (.int j)=some (.int (Builtin.bitXor i j)):=id rfl
@[simp] theorem oLt_int (i j:Int):oLt (.int i) (.int j)=some (.bl (decide (i<j))):=id rfl
@[simp] theorem oLe_int (i j:Int):oLe (.int i) (.int j)=some (.bl (decide (i<=j))):=id rfl
@[simp] theorem oGt_int (i j:Int):oGt (.int i) (.int j)=some (.bl (decide (j<i))):=id rfl
@[simp] theorem oGe_int (i j:Int):oGe (.int i) (.int j)=some (.bl (decide (j<=i))):=id rfl
@[simp] theorem isB_bl (b:Bool):isB (.bl b)=some b:=id rfl
@[simp] theorem truT_bl (b:Bool):vX (.bl b)=some b:=id rfl
@[simp] theorem truT_int (i:Int):vX (.int i)=some (i != 0):=id rfl
@[simp] theorem isL_lst (ts:List T):isL (.lst ts)=some ts:=id rfl
@[simp] theorem isI_int (i:Int):isI (.int i)=some i:=id rfl
@[simp] theorem gScal_int (i:Int):aV (.int i)=some (.int i):=id rfl
@[simp] theorem gScal_bl (i:Bool):aV (.bl i)=some (.bl i):=id rfl
@[simp] theorem oLen_lst (ts:List T):cD [.lst ts]=some (.int ts.length):=id rfl
@[simp] theorem oList_lst (ts:List T):KW [.lst ts]=some (.lst ts):=id rfl
@[simp] theorem oIx_lst (ts:List T) (i:Int):oIx (.lst ts) (.int i)=atI ts i:=id rfl
@[simp] theorem oBits_int (i:Int):CQ (.int i)=some (.int (Builtin.Int.intBits i:Nat)):=id rfl
theorem tD {xs ys:List T}(h:xs.length+ys.length<=cap):cU (.lst xs) (.lst ys)=some (.lst (xs++ys)):=by simp[cU,h]
def tI (ns:List Int):List T:=ns.map T.int
@[simp] theorem tI_length (ns:List Int):(tI ns).length=ns.length:=by simp[tI]
@[simp] theorem tI_nil:tI []=[]:=rfl
@[simp] theorem tI_cons (n:Int) (ns:List Int):tI (n::ns)=.int n::tI ns:=rfl
theorem aFc (ns ms:List Int):tI (ns++ms)=tI ns++tI ms:=by simp[tI]
theorem IR:∀ ns:List Int,cC (tI ns)=true
 | []=>rfl
 | n::ns=>by simp[cC,tI,im]
@[simp] theorem oEq_int (i j:Int):oEq (.int i) (.int j)=some (.bl (i == j)):=rfl
@[simp] theorem oNe_int (i j:Int):oNe (.int i) (.int j)=some (.bl (!(i == j))):=rfl
theorem jE (ns:List Int):jD (.lst (tI ns))=some (tI ns):=by simp[jD,IR]
theorem zO (ns:List Int) (a b c:Option Int):cF (tI ns) a b c=tI (cF ns a b c):=by
 unfold cF tI;rw[aJq,List.map_filterMap]
 congr 1
 funext i
 simp
theorem RU {α β:Type}(f:α->β) (xs:List α) (i:Int):atI (xs.map f) i=(atI xs i).map f:=by
 unfold atI;rw[aJq];cases ixN xs.length i with
 | none=>rfl
 | some j=>simp
theorem RW (ns:List Int) (i:Int):atI (tI ns) i=(atI ns i).map T.int:=RU _ _ _
theorem RV {α:Type}{xs:List α}{i:Nat}(h:i<xs.length):atI xs (i:Int)=some xs[i]:=atI_nat (aIk h)
theorem GJ {α:Type}{xs:List α}{i:Int}(h0:0<=i) (h:i<xs.length):atI xs i=some (xs[i.toNat]'(by lia)):=by
 have e:((i.toNat:Nat):Int)=i:=by lia
 have:=RV (xs:=xs) (i:=i.toNat) (by lia);rw[e] at this;exact this
theorem HF {p:Rho->Option Bool}{f:Rho->Option T}{ρ:Rho}(c:T->Bool) (h:T->T):∀ ts:List T,(∀ t∈ts,p (ρ.set 0 (some t))=some (c t))->(∀ t∈ts,c t=true->f (ρ.set 0 (some t))=some (h t))->bC p f ρ ts=some ((ts.filter c).map h)
 | [],_,_=>rfl
 | t::ts,h1,h2=>by
  have ih:=HF (p:=p) (f:=f) (ρ:=ρ) c h ts (fun u hu=>h1 u (aIl _ hu)) (fun u hu=>h2 u (aIl _ hu));unfold bC;rw[h1 t aIm];cases hc:c t with
  | true=>
   have:=h2 t aIm hc;simp[this,ih,hc]
  | false=>simp[ih,hc]
theorem AH {f:Rho->Option T}{ρ:Rho}(h:T->T) (ts:List T) (h2:∀ t∈ts,f (ρ.set 0 (some t))=some (h t)):bC aO f ρ ts=some (ts.map h):=by
 rw[HF (fun _=>true) h ts (fun _ _=>rfl) (fun t ht _=>h2 t ht)]
 congr 2
 exact List.filter_eq_self.mpr fun _ _=>rfl
theorem ZI {lo:Int}{n:Nat}{t:T}(h:t∈rangeT lo n):∃ i:Nat,i<n/\t=.int (lo+i):=by
 unfold rangeT at h;obtain⟨i,hi,rfl⟩:=aK4.mp h;exact⟨i,aIp.mp hi,rfl⟩
theorem wH {f:Rho->Option T}{ρ:Rho}{lo:Int}{n:Nat}(h:Nat->T) (h2:∀ i,i<n->f (ρ.set 0 (some (.int (lo+i))))=some (h i)):bC aO f ρ (rangeT lo n)=some ((List.range n).map h):=by
 have key:∀ is:List Nat,(∀ i∈is,i<n)->bC aO f ρ (is.map fun (i:Nat)=>T.int (lo+(i:Int)))=some (is.map h):=by
  intro is
  induction is with
  | nil=>intro _;rfl
  | cons i r ih=>
   intro hi;have e:=h2 i (hi i aIm);have ih':=ih fun j hj=>hi j (aIl _ hj);rw[aJy];unfold bC;simp[e,ih']
 exact key (List.range n) fun i hi=>aIp.mp hi
theorem jJ (n:Nat) (h:n<2^62):dF [.int (n:Int)]=some (rangeT 0 n):=by
 unfold dF;dsimp only;rw[if_pos (by lia)];simp
theorem IV {j:Nat}{body:Rho->Option Out}(I:Nat->Rho->Prop) (ts:List T) (h:∀ i (hi:i<ts.length) ρ,I i ρ->∃ ρ',(body (ρ.set j (some ts[i]))=some (.nx ρ')\/body (ρ.set j (some ts[i]))=some (.ct ρ'))/\I (i+1) ρ'):
  ∀ ρ,I 0 ρ->∃ ρ',dJ j body ts ρ=some (.nx ρ')/\I ts.length ρ':=by
 have key:∀ (us:List T) (k:Nat),us=ts.drop k->k<=ts.length->∀ ρ,I k ρ->∃ ρ',dJ j body us ρ=some (.nx ρ')/\I ts.length ρ':=by
  intro us
  induction us with
  | nil=>
   intro k e hk ρ hI;have:ts.length<=k:=by
    have:=congrArg List.length e;simp at this;lia
   have e2:k=ts.length:=by lia
   subst e2;exact⟨ρ,rfl,hI⟩
  | cons u r ih=>
   intro k e hk ρ hI;have hk':k<ts.length:=by
    have:=congrArg List.length e;simp at this;lia
   rw[aJ9 hk'] at e;cases e;obtain⟨ρ',hb,hI'⟩:=h k hk' ρ hI;obtain⟨ρ2,h2,hI2⟩:=ih (k+1) rfl hk' ρ' hI';refine⟨ρ2,?_,hI2⟩;unfold dJ;rcases hb with hb | hb<;>rw[hb]<;>exact h2
 exact fun ρ hI=>key ts 0 (by simp) (aKo _) ρ hI
mutual
def cE:T->T->Bool
 | .non,.non=>true
 | .bl a,.bl b=>a == b
 | .int a,.int b=>a == b
 | .str a,.str b=>decide (a=b)
 | .lst xs,.lst ys=>sameL xs ys
 | .tup xs,.tup ys=>sameL xs ys
 | .exc a,.exc b=>decide (a=b)
 | .dct a,.dct b=>decide (a=b)
 | _,_=>false
def sameL:List T->List T->Bool
 | [],[]=>true
 | x::xs,y::ys=>cE x y&&sameL xs ys
 | _,_=>false
end
mutual
theorem ND:∀ (t u:T),cE t u=true->t=u
 | .non,u,h=>by cases u<;>simp[cE] at h ⊢
 | .bl a,u,h=>by cases u<;>simp[cE] at h ⊢;exact h
 | .int a,u,h=>by cases u<;>simp[cE] at h ⊢;exact h
 | .str a,u,h=>by cases u<;>simp[cE] at h ⊢;exact h
 | .exc a,u,h=>by cases u<;>simp[cE] at h ⊢;exact h
 | .dct a,u,h=>by cases u<;>simp[cE] at h ⊢;exact h
 | .own a,u,h=>by cases u<;>simp[cE] at h
 | .lst xs,.lst ys,h=>by rw[cE] at h;rw[sameL_eq xs ys h]
 | .tup xs,.tup ys,h=>by rw[cE] at h;rw[sameL_eq xs ys h]
 | .lst xs,.non,h=>by simp[cE] at h
 | .lst xs,.bl _,h=>by simp[cE] at h
 | .lst xs,.int _,h=>by simp[cE] at h
 | .lst xs,.str _,h=>by simp[cE] at h
 | .lst xs,.tup _,h=>by simp[cE] at h
 | .lst xs,.exc _,h=>by simp[cE] at h
 | .lst xs,.dct _,h=>by simp[cE] at h
 | .lst xs,.own _,h=>by simp[cE] at h
 | .tup xs,.non,h=>by simp[cE] at h
 | .tup xs,.bl _,h=>by simp[cE] at h
 | .tup xs,.int _,h=>by simp[cE] at h
 | .tup xs,.str _,h=>by simp[cE] at h
 | .tup xs,.lst _,h=>by simp[cE] at h
 | .tup xs,.exc _,h=>by simp[cE] at h
 | .tup xs,.dct _,h=>by simp[cE] at h
 | .tup xs,.own _,h=>by simp[cE] at h
theorem sameL_eq:∀ (xs ys:List T),sameL xs ys=true->xs=ys
 | [],[],_=>rfl
 | [],_::_,h=>by simp[sameL] at h
 | _::_,[],h=>by simp[sameL] at h
 | x::xs,y::ys,h=>by
  rw[sameL,aIw] at h;rw[ND x y h.1,sameL_eq xs ys h.2]
end
def DX:Option T->Option T->Bool
 | some t,some u=>cE t u
 | none,none=>true
 | _,_=>false
theorem NC {a b:Option T}(h:DX a b=true):a=b:=by
 cases a<;>cases b<;>first | rfl | cases h | skip
 rw[ND _ _ h]
theorem below {P:Int->Prop}(n:Nat) (f:Nat->Bool) (h:(List.range n).all f=true) (hP:∀ k:Nat,f k=true->P k) {g:Int}(h0:0<=g) (h1:g<n):P g:=by
 have:=aIo.mp h g.toNat (aIp.mpr (by lia));have:=hP _ this
 rwa [Int.toNat_of_nonneg h0] at this
def hZ:List T->Option (List Int)
 | []=>some []
 | .int i::r=>(hZ r).map (i :: ·)
 | _=>none
theorem GC:∀ ns:List Int,hZ (tI ns)=some ns
 | []=>rfl
 | n::ns=>by
  show (hZ (tI ns)).map (n :: ·)=_;rw[GC ns];rfl
theorem FZ:∀ {ts:List T}{ns:List Int},hZ ts=some ns->ts=tI ns
 | [],ns,h=>by cases (aIi h);rfl
 | .int i::r,ns,h=>by
  cases e:hZ r with
  | none=>rw[hZ,e] at h;cases h
  | some ms=>
   rw[hZ,e] at h;cases (aIi h);rw[FZ e];rfl
 | .non::_,_,h=>by cases h
 | .bl _::_,_,h=>by cases h
 | .str _::_,_,h=>by cases h
 | .lst _::_,_,h=>by cases h
 | .tup _::_,_,h=>by cases h
 | .exc _::_,_,h=>by cases h
 | .dct _::_,_,h=>by cases h
 | .own _::_,_,h=>by cases h
theorem aDd (n:Nat):rangeT 0 n=(List.range n).map fun (i:Nat)=>T.int (i:Int):=by
 unfold rangeT;simp
theorem MR {K:PySem.W.Frag}{H:Hp}{A:Addr->Prop}:∀ {ns:List Int}{xs:List V},RepL K H A (tI ns) xs->xs=ns.map V.int
 | [],_,h=>h
 | n::ns,_,h=>by
  obtain⟨x,r,e,h1,h2⟩:=h;rw[e,MR h2,(show x=.int n from h1)];rfl
def tB (bs:List Bool):List T:=bs.map T.bl
theorem MQ {K:PySem.W.Frag}{H:Hp}{A:Addr->Prop}:∀ {ns:List Bool}{xs:List V},RepL K H A (G.tB ns) xs->xs=ns.map V.bl
 | [],_,h=>h
 | n::ns,_,h=>by
  obtain⟨x,r,e,h1,h2⟩:=h;rw[e,MQ h2,(show x=.bl n from h1)];rfl
def allB:List T->Option (List Bool)
 | []=>some []
 | .bl i::r=>(allB r).map (i :: ·)
 | _=>none
theorem FY:∀ {ts:List T}{ns:List Bool},allB ts=some ns->ts=G.tB ns
 | [],ns,h=>by cases (aIi h);rfl
 | .bl i::r,ns,h=>by
  cases e:allB r with
  | none=>rw[allB,e] at h;cases h
  | some ms=>
   rw[allB,e] at h;cases (aIi h);rw[FY e];rfl
 | .non::_,_,h=>by cases h
 | .int _::_,_,h=>by cases h
 | .str _::_,_,h=>by cases h
 | .lst _::_,_,h=>by cases h
 | .tup _::_,_,h=>by cases h
 | .exc _::_,_,h=>by cases h
 | .dct _::_,_,h=>by cases h
 | .own _::_,_,h=>by cases h
theorem LY (ns:List Int):∀ j,j<=ns.length->preSum (fun i=>ns.getD i 0) j=(ns.take j).sum
 | 0,_=>by simp[preSum]
 | j+1,h=>by
  rw[preSum,LY ns j (by lia),List.take_succ,List.sum_append];simp[aIj,show j<ns.length by lia]
section
variable {X:Cx}{B:Hp}{fl:List Nat}{e:Expr}{es:List Expr}{f:Rho->Option T}{fa:Rho->Option (List T)}{n n':Bool}{l l' k:Nat}{pos p' p2:Pos}{x:Str}{ps:List Str}{F:List T->Option T}
theorem JR {pins:List (Addr × Obj)}{σ:St}{H:Hp}{s s':Shared}(I:Inv X pins σ H s) (o:Obj) (m:Moved [s.heap.objs.size] (fun a b=>b=a) { s with heap:=s.heap.push o } s'):Inv X pins σ H s':=by
 have I2:Inv X pins σ H { s with heap:=s.heap.push o }:=I.kept (t':=s.toks) fun b ob q=>aIt _ q;obtain⟨h',g',d',t',o'⟩:=s';obtain⟨m1,m2,m3,m4,m5⟩:=m;cases (show g'=s.gens from m2);cases (show d'=s.drawn from m3);cases (show o'=s.os from m4);have fp:=I.fpOk (aKe s.heap.objs.size) (I.hok.fresh (aKe _));exact L2.Inv.turned (s:={ s with heap:=s.heap.push o }) (h':=h') (t':=t') (it:=s.heap.objs.size) I2 (fun b ob hb q=>m1 b ob (by simpa using hb) q) fp.1 fp.2.1 fp.2.2.2.1 fp.2.2.2.2.1 fp.2.2.2.2.2
theorem SR (hc:X.calm=true):eY X (.builtin "sum") (fun xs H Q=>∃ (a:Addr) (ns:List Int),xs=[.ref a]/\SqL X.K H a (ns.map V.int)/\Q (.int ns.sum) H):=by
 intro pins s σ H xs us Q I r h;obtain⟨a,ns,rfl,hS,q⟩:=h;obtain⟨u,rfl,ru⟩:=gD r;cases ru;obtain⟨its,rv,p,hz⟩:=I.list hS;have hl:=rv.length;have ha:a<s.heap.objs.size:=by obtain⟨o,n,e,_⟩:=p;exact aJ3 e
 refine call_sum_walkAnyS (wpAny_pyIter_list p.isList ?_);refine⟨s.heap.objs.size,[s.heap.objs.size,a],[s.heap.objs.size],_,its.toArray.size,_,_,fun i=>ns.getD i 0,rfl,(Walks.list (A:=X.A.in1) (I.ok.hd hc) s.heap.objs.size a (aKm ha) its.toArray).toS,⟨⟨_,aJ2 _ rfl,rfl,rfl⟩,p.isList.push _⟩,fun b hb=>?_,fun i v hv=>?_,fun s' t' mv=>?_⟩
 ·simp only[aIu,List.mem_nil_iff,or_false] at hb
  rw[aJ4];rcases hb with rfl | rfl
  ·exact aKj _
  ·exact Nat.lt_succ_of_lt ha
 ·have hv':its[i]?=some v:=by simpa using hv
  have hi:i<its.length:=(aIn.mp hv').1;have hin:i<ns.length:=by rw[aJq] at hl;lia
  have e1:(ns.map V.int)[i]?=some (V.int (ns.getD i 0)):=by
   rw[aJk,aIk hin];simp[aIj,hin]
  obtain⟨u,e2,ru⟩:=rv.get e1;rw[hv'] at e2;cases (aIi e2);exact ru
 ·have es:its.toArray.size=ns.length:=by simp only[aIr];rw[<- hl];simp
  rw[es,LY ns ns.length (aKe _),List.take_length];exact⟨.int ns.sum,H,JR I _ mv,⟨_,rfl⟩,q⟩
theorem SF (hc:X.calm=true):eY X (.builtin "all") (fun xs H Q=>∃ (a:Addr) (bs:List Bool),xs=[.ref a]/\SqL X.K H a (bs.map V.bl)/\Q (.bl (bs.all id)) H):=by
 intro pins s σ H xs us Q I r h;obtain⟨a,ns,rfl,hS,q⟩:=h;obtain⟨u,rfl,ru⟩:=gD r;cases ru;obtain⟨its,rv,p,hz⟩:=I.list hS;have hl:=rv.length;have ha:a<s.heap.objs.size:=by obtain⟨o,n,e,_⟩:=p;exact aJ3 e
 refine call_all_walkS (wpAny_pyIter_list p.isList ?_);refine⟨s.heap.objs.size,[s.heap.objs.size,a],[s.heap.objs.size],_,its.toArray.size,_,_,fun i=>ns.getD i true,rfl,(Walks.list (A:=X.A.in1) (I.ok.hd hc) s.heap.objs.size a (aKm ha) its.toArray).toS,⟨⟨_,aJ2 _ rfl,rfl,rfl⟩,p.isList.push _⟩,fun i v s0 Q0 E0 hv hq=>?_,fun s' mv=>?_⟩
 ·have hv':its[i]?=some v:=by simpa using hv
  have hi:i<its.length:=(aIn.mp hv').1;have hin:i<ns.length:=by rw[aJq] at hl;lia
  have e1:(ns.map V.bl)[i]?=some (V.bl (ns.getD i true)):=by
   rw[aJk,aIk hin];simp[aIj,hin]
  obtain⟨u,e2,ru⟩:=rv.get e1;rw[hv'] at e2;cases (aIi e2);cases ru;exact wpAny_truthy_bool hq
 ·have es:its.toArray.size=ns.length:=by simp only[aIr];rw[<- hl];simp
  have ea:(List.range ns.length).all (fun i=>ns.getD i true)=ns.all id:=by
   rw[aIz,aIo,aIo]
   constructor
   ·intro h x hx
    obtain⟨i,hi,rfl⟩:=List.mem_iff_getElem.mp hx;have:=h i (aIp.mpr hi)
    simpa [aIj,hi] using this
   ·intro h i hi
    have hi:=aIp.mp hi;have:=h ns[i] (List.getElem_mem hi)
    simpa [aIj,hi] using this
  rw[es,ea];exact⟨.bl (ns.all id),H,JR I _ mv,rfl,q⟩
def jK:List T->Option T
 | [.lst ts]=>(hZ ts).map fun ns=>.int ns.sum
 | _=>none
def jH:List T->Option T
 | [.lst ts]=>(allB ts).map fun ns=>.bl (ns.all id)
 | _=>none
theorem sK (hx:x = "sum") (hc:X.calm=true) (hg:Gl X x) (hm:X.mg x=none) (ha:GA X B fl (e::es) fa l)
  (he:starEach (e::es) X.env=(false,eval e X.env)::starEach es X.env:=by rfl) (hpl:(backTo pos (starEach es X.env)).any (·.1)=false:=by rfl):GE X B fl (.Call (.Name x p') (e::es) [] pos) (aG fa jK) true 3:=by
 subst hx;refine bD (gQ (SR hc) hg hm PyProof.Rows.boot_sum ha (by decide) (by decide) he hpl) ?_;rintro σ H Q ⟨Ex,ρ,M,t,S,hf,q⟩;obtain⟨ts,hts,hf⟩:=bind_some hf;refine⟨Ex,ρ,M,ts,S,hts,fun vs H1 s1 r1=>?_⟩
 match ts,hf with
 | [.lst us],hf=>
  have hf:(hZ us).map (fun ns=>T.int ns.sum)=some t:=hf;cases ea:hZ us with
  | none=>rw[ea] at hf;cases hf
  | some ns=>
   rw[ea] at hf;cases (aIi hf);cases FZ ea;obtain⟨y,rfl,ry⟩:=dR r1;obtain⟨p,xs,rfl,h1,h2⟩:=ry.sqL;cases MR h2;exact⟨p,ns,rfl,h1,q _ H1 s1 ((aM.scal rfl).mpr rfl)⟩
theorem wN (hx:x = "all") (hc:X.calm=true) (hg:Gl X x) (hm:X.mg x=none) (ha:GA X B fl (e::es) fa l)
  (he:starEach (e::es) X.env=(false,eval e X.env)::starEach es X.env:=by rfl) (hpl:(backTo pos (starEach es X.env)).any (·.1)=false:=by rfl):GE X B fl (.Call (.Name x p') (e::es) [] pos) (aG fa jH) true 3:=by
 subst hx;refine bD (gQ (SF hc) hg hm (by decide +kernel) ha (by decide) (by decide) he hpl) ?_;rintro σ H Q ⟨Ex,ρ,M,t,S,hf,q⟩;obtain⟨ts,hts,hf⟩:=bind_some hf;refine⟨Ex,ρ,M,ts,S,hts,fun vs H1 s1 r1=>?_⟩
 match ts,hf with
 | [.lst us],hf=>
  have hf:(allB us).map (fun ns=>T.bl (ns.all id))=some t:=hf;cases ea:allB us with
  | none=>rw[ea] at hf;cases hf
  | some ns=>
   rw[ea] at hf;cases (aIi hf);cases FY ea;obtain⟨y,rfl,ry⟩:=dR r1;obtain⟨p,xs,rfl,h1,h2⟩:=ry.sqL;cases MQ h2;exact⟨p,ns,rfl,h1,q _ H1 s1 ((aM.scal rfl).mpr rfl)⟩
def CV:List T->Option T
 | [.int i,.int j]=>some (.int (if j<i then j else i))
 | _=>none
def CU:List T->Option T
 | [.int i,.int j]=>some (.int (if j > i then j else i))
 | _=>none
theorem VU (hx:x = "min") (hc:X.calm=true) (hg:Gl X x) (hm:X.mg x=none) (ha:GA X B fl (e::es) fa l)
  (he:starEach (e::es) X.env=(false,eval e X.env)::starEach es X.env:=by rfl) (hpl:(backTo pos (starEach es X.env)).any (·.1)=false:=by rfl):GE X B fl (.Call (.Name x p') (e::es) [] pos) (aG fa CV) true 3:=by
 subst hx;refine bD (gQ (SM hc) hg hm PyProof.Rows.boot_min ha (by decide) (by decide) he hpl) ?_;rintro σ H Q ⟨Ex,ρ,M,t,S,hf,q⟩;obtain⟨ts,hts,hf⟩:=bind_some hf;refine⟨Ex,ρ,M,ts,S,hts,fun vs H1 s1 r1=>?_⟩
 match ts,hf with
 | [.int i,.int j],hf=>
  cases (aIi hf);obtain⟨y,r,e,ry,h2⟩:=r1;obtain⟨y2,rfl,ry2⟩:=dR h2;subst e;cases (show _=_ from ry);cases (show _=_ from ry2);exact⟨i,j,rfl,q _ H1 s1 ((aM.scal rfl).mpr rfl)⟩
theorem VT (hx:x = "max") (hc:X.calm=true) (hg:Gl X x) (hm:X.mg x=none) (ha:GA X B fl (e::es) fa l)
  (he:starEach (e::es) X.env=(false,eval e X.env)::starEach es X.env:=by rfl) (hpl:(backTo pos (starEach es X.env)).any (·.1)=false:=by rfl):GE X B fl (.Call (.Name x p') (e::es) [] pos) (aG fa CU) true 3:=by
 subst hx;refine bD (gQ (SL hc) hg hm PyProof.Rows.boot_max ha (by decide) (by decide) he hpl) ?_;rintro σ H Q ⟨Ex,ρ,M,t,S,hf,q⟩;obtain⟨ts,hts,hf⟩:=bind_some hf;refine⟨Ex,ρ,M,ts,S,hts,fun vs H1 s1 r1=>?_⟩
 match ts,hf with
 | [.int i,.int j],hf=>
  cases (aIi hf);obtain⟨y,r,e,ry,h2⟩:=r1;obtain⟨y2,rfl,ry2⟩:=dR h2;subst e;cases (show _=_ from ry);cases (show _=_ from ry2);exact⟨i,j,rfl,q _ H1 s1 ((aM.scal rfl).mpr rfl)⟩
def xM:List T->Option T
 | [.int i]=>some (.int i)
 | [.bl b]=>some (.int (if b then 1 else 0))
 | _=>none
theorem WB (hx:x = "int") (hg:Gl X x) (hm:X.mg x=none) (ha:GA X B fl (e::es) fa l)
  (he:starEach (e::es) X.env=(false,eval e X.env)::starEach es X.env:=by rfl) (hpl:(backTo pos (starEach es X.env)).any (·.1)=false:=by rfl):GE X B fl (.Call (.Name x p') (e::es) [] pos) (aG fa xM) true 3:=by
 subst hx;refine bD (xW SH hg hm PyProof.Rows.boot_int ha (by decide) (by decide) he hpl) ?_;rintro σ H Q ⟨Ex,ρ,M,t,S,hf,q⟩;obtain⟨ts,hts,hf⟩:=bind_some hf;refine⟨Ex,ρ,M,ts,S,hts,fun vs H1 s1 r1=>?_⟩
 match ts,hf with
 | [.int i],hf=>
  cases (aIi hf);obtain⟨y,rfl,ry⟩:=dR r1;cases (show _=_ from ry);exact .inl ⟨i,rfl,q _ H1 s1 ((aM.scal rfl).mpr rfl)⟩
 | [.bl i],hf=>
  cases (aIi hf);obtain⟨y,rfl,ry⟩:=dR r1;cases (show _=_ from ry);exact .inr ⟨i,rfl,q _ H1 s1 ((aM.scal rfl).mpr rfl)⟩
end
theorem tL (ns:List Int):jK [.lst (tI ns)]=some (.int ns.sum):=by simp[jK,GC]
def bJ:Out->Option T
 | .rt t=>some t
 | .nx _=>some .non
 | _=>none
def Fof (np k:Nat) (run:Rho->Option Out) (ts:List T):Option T:=if ts.length=np then (run (ts.map some++List.replicate k none)).bind bJ else none
theorem bO {np k:Nat}{run:Rho->Option Out}{ts:List T}{t:T}(h:Fof np k run ts=some t):ts.length=np:=by
 unfold Fof at h;split at h
 ·assumption
 ·cases h
theorem bQ {np k:Nat}{run:Rho->Option Out}{ts:List T}{t:T}(h:Fof np k run ts=some t):∃ o,run (ts.map some++List.replicate k none)=some o/\FN o t:=by
 unfold Fof at h;split at h
 ·obtain⟨o,e,h⟩:=bind_some h
  refine⟨o,e,?_⟩;cases o with
  | rt u=>exact aIi h
  | nx _=>exact (aIi h).symm
  | bk _=>cases h
  | ct _=>cases h
 ·cases h
@[simp] theorem outT_rt (t:T):bJ (.rt t)=some t:=rfl
@[simp] theorem outT_nx (ρ:Rho):bJ (.nx ρ)=some .non:=rfl
def kQ:Rho->Option Out:=fun _=>none
@[simp] theorem rNone_at (ρ:Rho):kQ ρ=none:=rfl
theorem nL {X:Cx}{B:Hp}{fl:List Nat}{n:Bool}{l:Nat}{st:Stmt}:GS X B fl n l st kQ:=fun pins s σ H D I h=>by
 obtain⟨_,_,_,_,_,h,_⟩:=h;cases h
def tGR (K:PySem.W.Frag) (B:Hp) (fl:List Nat) (f:Rho->Option T) (n:Bool) (l:Nat):TE:=fun σ H Q=>
 ∃ Ex ρ M t,Sl K B fl Ex σ ρ M H/\f ρ=some t/\∀ v H',aK H H'->RtX K B H' n l t v->Q v H'
def GR (X:Cx) (B:Hp) (fl:List Nat) (e:Expr) (f:Rho->Option T) (n:Bool) (l:Nat):Prop:=PE X e (tGR X.K B fl f n l)
def aFb (K:PySem.W.Frag) (B:Hp) (fl:List Nat) (f:Rho->Option (List T)) (l:Nat):TA:=fun σ H Q=>
 ∃ Ex ρ M ts,Sl K B fl Ex σ ρ M H/\f ρ=some ts/\∀ vs H',aK H H'->RepL K H' (Ad B B [] l) ts vs->Q vs H'
def GRA (X:Cx) (B:Hp) (fl:List Nat) (es:List Expr) (f:Rho->Option (List T)) (l:Nat):Prop:=PA X es (aFb X.K B fl f l)
def wL (i:Nat):Rho->Option T:=fun ρ=>(aA i ρ).bind fun t=>match t with | .lst ts=>if cC ts then some (.lst ts) else none | _=>none
@[simp] theorem fMut_at (i:Nat) (ρ:Rho):wL i ρ=(aA i ρ).bind fun t=>match t with | .lst ts=>if cC ts then some (.lst ts) else none | _=>none:=rfl
section
variable {X:Cx}{B:Hp}{fl:List Nat}{a b c e:Expr}{es:List Expr}{f g:Rho->Option T}{fa:Rho->Option (List T)}{p:Rho->Option Bool}{n n':Bool}{l l':Nat}{pos pos':Pos}{x:Str}
theorem aW (he:GE X B fl e f n' l') (h:((!n||n')&&(decide (l=0)||decide (2<=l'))&&decide (l≠4))=true):GR X B fl e f n l:=by
 refine bD he ?_;rintro σ H Q ⟨Ex,ρ,M,t,S,e1,q⟩;rw[aIw] at h;refine⟨Ex,ρ,M,t,S,e1,fun v H1 s1 rx=>q v H1 s1 ((RtX.of (of_decide_eq_true h.2)).mpr (aDn S ?_ rx))⟩;have h:=h.1;cases n<;>cases n'<;>simp at h ⊢<;>exact h
theorem JI (i:Nat) (hN:X.N[i]?=some x:=by rfl) (hv:Vis X.env.scope x:=by first | exact Or.inl rfl | exact Or.inr (Or.inl rfl) | exact Or.inr (Or.inr rfl)) (h4:(decide (fl.getD i 1=0)&&decide (l≠4))=true:=by rfl) (hd:(x == ("__debug__" : Str))=false:=by decide)
  (hcd:(x == ("__classdict__" : Str))=false:=by decide):GR X B fl (.Name x pos') (wL i) n l:=by
 have h4:=aIx.mp h4;have h0:fl.getD i 1=0:=of_decide_eq_true h4.1;refine bD (pv (X:=X) i hN hv hd hcd) ?_;rintro σ H Q ⟨Ex,ρ,M,t,S,hr,q⟩;obtain⟨t',e1,hr⟩:=bind_some hr;cases t'<;>first | (cases hr;done) | skip
 dsimp only at hr;split at hr
 ·rename_i hfl
  cases (aIi hr);obtain⟨a,ts,xs,e2,e3,e4,e5,e6⟩:=S.muL i _ (wW e1) h0;cases e2;refine⟨_,e3,q _ H (aK.refl H) ((RtX.of (of_decide_eq_true h4.2)).mpr ?_)⟩;cases n with
  | true=>exact⟨a,xs,rfl,(S.mB a e6).1,e4,yH hfl e5⟩
  | false=>exact⟨a,xs,rfl,.inl ⟨⟨fun _ z=>by simp at z,fun _=>(S.mB a e6).1,fun _=>(S.mB a e6).1⟩,.inl e4⟩,yH hfl e5⟩
 ·cases hr
theorem WR (hc:GT X B fl c p) (ha:GR X B fl a f n l) (hb:GR X B fl b g n l):GR X B fl (.IfExp c a b pos) (fIf p f g) n l:=by
 refine bD (LN hc ha hb) ?_;rintro σ H Q ⟨Ex,ρ,M,t,S,hf,q⟩;obtain⟨d,e,hf⟩:=bind_some hf;refine⟨Ex,ρ,M,d,S,e,fun H1 s1=>?_⟩;cases d with
 | true=>exact fS ⟨Ex,ρ,M,t,S.grow s1,hf,fun v H2 s2 r2=>q v H2 (s1.trans s2) r2⟩
 | false=>exact cY ⟨Ex,ρ,M,t,S.grow s1,hf,fun v H2 s2 r2=>q v H2 (s1.trans s2) r2⟩
theorem aM.any {K:PySem.W.Frag}{H':Hp}{t:T}{v:V}(h:aM K B B [] H' n l t v):Rep K H' (Ad B B [] l) t v:=by
 cases n with
 | false=>cases t<;>exact h
 | true=>
  cases t with
  | lst ts=>
   obtain⟨a,xs,e,h1,h2,r⟩:=h;exact⟨a,xs,e,.inl ⟨⟨fun _ z=>by simp at z,fun _=>h1,fun _=>h1⟩,.inl h2⟩,r.weak fun b x=>x.1⟩
  | non=>exact h
  | bl _=>exact h
  | int _=>exact h
  | str _=>exact h
  | tup _=>exact h
  | exc _=>exact h
  | dct _=>exact h
  | own _=>exact h
theorem sP:GRA X B fl [] aE l:=xV cB fun σ H Q ⟨Ex,ρ,M,ts,S,hf,q⟩=>q _ H (aK.refl H) (by cases (aIi hf);rfl)
theorem gM (ha:GR X B fl e f false l) (hr:GRA X B fl es fa l) (hs:starEach (e::es) X.env=(false,eval e X.env)::starEach es X.env:=by rfl) (h4:(l == 4)=false:=by rfl):GRA X B fl (e::es) (aD f fa) l:=by
 refine xV (bI ha hr hs) ?_;rintro σ H Q ⟨Ex,ρ,M,ts,S,hf,q⟩;obtain⟨x,hx,hf⟩:=bind_some hf;obtain⟨xs,hxs,hf⟩:=bind_some hf;cases (aIi hf);exact⟨Ex,ρ,M,x,S,hx,fun v H1 s1 r1=>⟨Ex,ρ,M,xs,S.grow s1,hxs,fun vs H2 s2 r2=>q _ H2 (s1.trans s2) ⟨v,vs,rfl,((RtX.of (by simpa using h4)).mp r1).any.grow s2,r2⟩⟩⟩
theorem sO {k:Nat}(ha:GRA X B fl es fa l) (h4:(l == 4)=false:=by rfl):GR X B fl (.Tuple es k pos) (dI fa) n l:=by
 refine bD (xY ha) ?_;rintro σ H Q ⟨Ex,ρ,M,t,S,hf,q⟩;obtain⟨ts,hts,hf⟩:=bind_some hf;split at hf
 ·rename_i hl
  cases (aIi hf);refine⟨Ex,ρ,M,ts,S,hts,fun vs H1 s1 r1=>⟨by rw[<- r1.length];exact aKd (gJ hl),fun p hp=>q _ _ (s1.trans (cK hp _)) ((RtX.of (by simpa using h4)).mpr ?_)⟩⟩;have z:Rep X.K (upd H1 p (.tup vs)) (Ad B B [] l) (.tup ts) (.ref p):=⟨p,vs,rfl,.inl (.inl bN),r1.grow (cK hp _)⟩;cases n<;>exact z
 ·cases hf
@[simp] theorem okO_lst (ts:List T):okO (.lst ts)=true:=id rfl
@[simp] theorem okO_int (i:Int):okO (.int i)=true:=id rfl
@[simp] theorem okO_str (i:Str):okO (.str i)=true:=id rfl
theorem aY (he:GR X B fl e f n l):GS X B fl n l (.Return (some e) pos) (aT f):=by
 refine gT (jN he) ?_;rintro D σ H ⟨Ex,ρ,M,o,S,hr,q⟩;unfold aT at hr;cases e1:f ρ with
 | none=>rw[e1] at hr;cases hr
 | some t=>
  rw[e1] at hr;cases (aIi hr);exact⟨Ex,ρ,M,t,S,e1,fun v H1 s1 rx=>q v H1 (S.same.trans s1) rx⟩
end
@[simp] theorem forT_nil (j:Nat) (body:Rho->Option Out) (ρ:Rho):dJ j body [] ρ=some (.nx ρ):=rfl
theorem AW (j:Nat) (body:Rho->Option Out) (t:T) (ts:List T) (ρ:Rho):dJ j body (t::ts) ρ =
 (body (ρ.set j (some t))).bind fun o=>match o with | .nx ρ'=>dJ j body ts ρ' | .ct ρ'=>dJ j body ts ρ' | .bk ρ'=>some (.nx ρ') | .rt t=>some (.rt t):=rfl
theorem ZN {i j:Int}(h:i.natAbs<2^64):gO i j=true:=by unfold gO;rw[decide_eq_true h];rfl
theorem KM {i j:Int}(h:j.natAbs<2^64):gO i j=true:=by unfold gO;rw[decide_eq_true h];simp
theorem ZM {i j:Int}(n m:Nat) (h:i.natAbs<2^n) (h':j.natAbs<2^m) (hn:n<=1048576) (hm:m<=1048576):gO i j=true:=by
 have a:Builtin.Int.intBits i<=2^20:=aKf (intBits_le h) hn;have b:Builtin.Int.intBits j<=2^20:=aKf (intBits_le h') hm;unfold gO;rw[decide_eq_true a,decide_eq_true b];simp
theorem KY {i j:Int}(h:i.natAbs<2^64):eM (.int i) (.int j)=some (.int (i*j)):=xP (ZN h)
theorem aFd (ns:List Int) (j:Nat):(tI ns)[j]?=(ns[j]?).map T.int:=by unfold tI;rw[aJk]
theorem RX {ns:List Int}{i:Int}(h0:0<=i) (h:i<ns.length):atI (tI ns) i=some (.int (ns.getD i.toNat 0)):=by
 have hl:i.toNat<ns.length:=by lia
 rw[RW,GJ h0 h,aIj,aIk hl];rfl
theorem qK {ns:List Int}{i:Nat}(h:i<ns.length):atI (tI ns) (i:Int)=some (.int (ns.getD i 0)):=by
 rw[RX (by lia) (by lia)];simp
theorem MF (lo:Int) (n:Nat):(rangeT lo n).length=n:=by simp[rangeT]
theorem aDb {lo:Int}{n i:Nat}(h:i<(rangeT lo n).length):(rangeT lo n)[i]=.int (lo+i):=by simp[rangeT]
theorem SW {f:Rho->Option T}{ρ:Rho}{lo:Int}{n:Nat}(h:Nat->Int) (h2:∀ i,i<n->f (ρ.set 0 (some (.int (lo+i))))=some (.int (h i))):bC aO f ρ (rangeT lo n)=some (tI ((List.range n).map h)):=by
 rw[wH (fun i=>.int (h i)) h2];simp[tI]
theorem SV {f:Rho->Option T}{ρ:Rho}{ns:List Int}(h:Int->Int) (h2:∀ i∈ns,f (ρ.set 0 (some (.int i)))=some (.int (h i))):bC aO f ρ (tI ns)=some (tI (ns.map h)):=by
 rw[AH (fun t=>match t with | .int i=>.int (h i) | t=>t) (tI ns) (fun t ht=>by
  unfold tI at ht;obtain⟨i,hi,rfl⟩:=aK4.mp ht;exact h2 i hi)]
 simp[tI]
@[simp] theorem gScal_int' (i:Int):aV (.int i)=some (.int i):=rfl
@[simp] theorem flat_tI' (ns:List Int):cC (tI ns)=true:=IR ns
theorem tJ (i:Int) (j:Nat) (h:decide ((Builtin.Int.intBits i:Int)*(j:Int)<=2^27)=true):dP (.int i) (.int (j:Int))=some (.int (i^j)):=by
 unfold dP;simp only[oI_int];rw[if_pos (by simpa using h)];simp
theorem aDc {n i:Nat}(h:i<(rangeT 0 n).length):(rangeT 0 n)[i]=.int (i:Int):=by simp[rangeT]
theorem qN {f:Rho->Option T}{ρ:Rho}{n:Nat}(h:Nat->Int) (h2:∀ i,i<n->f (ρ.set 0 (some (.int (i:Int))))=some (.int (h i))):bC aO f ρ (rangeT 0 n)=some (tI ((List.range n).map h)):=
 SW h fun i hi=>by rw[Int.zero_add];exact h2 i hi
theorem VD {j n:Nat}{body:Rho->Option Out}(I:Nat->Rho->Prop) (h:∀ i,i<n->∀ ρ,I i ρ->∃ ρ',body (ρ.set j (some (.int (i:Int))))=some (.nx ρ')/\I (i+1) ρ') (ρ:Rho) (h0:I 0 ρ):∃ ρ',dJ j body (rangeT 0 n) ρ=some (.nx ρ')/\I n ρ':=by
 have:=IV (j:=j) (body:=body) I (rangeT 0 n) (fun i hi ρ hI=>by
  have hi':i<n:=by rw[MF] at hi;exact hi
  obtain⟨ρ',e,q⟩:=h i hi' ρ hI;refine⟨ρ',.inl ?_,q⟩;rw[aDc];exact e) ρ h0
 rwa [MF] at this
theorem AD (a b:Nat):Builtin.bitAnd (a:Int) (b:Int)=((a&&&b:Nat):Int):=by
 unfold Builtin.bitAnd;simp
theorem AE (a b:Nat):Builtin.bitOr (a:Int) (b:Int)=((a|||b:Nat):Int):=by
 unfold Builtin.bitOr Builtin.bitAnd Builtin.bitNot;have h1:¬ (0 <= -(a:Int)-1):=by lia
 have h2:¬ (0 <= -(b:Int)-1):=by lia
 rw[decide_eq_false h1,decide_eq_false h2];show -(-(((-(-(a:Int)-1)-1).toNat|||(-(-(b:Int)-1)-1).toNat:Nat):Int)-1)-1=_;have e1:(-(-(a:Int)-1)-1).toNat=a:=by lia
 have e2:(-(-(b:Int)-1)-1).toNat=b:=by lia
 rw[e1,e2];lia
theorem aAc {a b:Nat}(h:a<2^64) (h2:b<=1000000):dQ (.int (a:Int)) (.int (b:Int))=some (.int ((a*2^b:Nat):Int)):=by
 rw[aAb (by lia) (by lia) (by lia)];simp
theorem fW {b:Nat}(h2:b<=1000000):dQ (.int 1) (.int (b:Int))=some (.int ((2^b:Nat):Int)):=by
 have:=aAc (a:=1) (b:=b) (by decide) h2;rw[Nat.one_mul] at this;exact this
theorem LS {α:Type}(xs:List α) (a:Nat):∀ k,((List.range k).map (a + ·)).filterMap (xs[·]?)=(xs.drop a).take k
 | 0=>by simp
 | k+1=>by
  rw[List.range_succ,List.map_append,List.filterMap_append,LS xs a k,List.take_add_one]
  congr 1
  simp only[aJy,aK0,aJb,List.filterMap_nil,List.getElem?_drop];cases xs[a+k]?<;>rfl
theorem NQ {α:Type}(xs:List α) (lo hi:Option Int):cF xs lo hi none=(xs.drop (lo.elim 0 (clipAt xs.length))).take ((hi.elim xs.length (clipAt xs.length))-(lo.elim 0 (clipAt xs.length))):=by
 unfold cF;rw[sliceBounds_plain,sliceRange_one,LS]
theorem HB {n:Nat}{i:Int}(h:0<=i):clipAt n i=min i.toNat n:=by unfold clipAt;lia
theorem rM {α:Type}(xs:List α) {i:Int}(h:0<=i):cF xs (some i) none none=xs.drop i.toNat:=by
 rw[NQ];simp only[Option.elim,HB h];rw[List.take_of_length_le (by simp)]
 by_cases h':i.toNat<=xs.length
 ·rw[Nat.min_eq_left h']
 ·rw[Nat.min_eq_right (by lia),aJa (aKe _),aJa (by lia)]
theorem EI {α:Type}(xs:List α) {i:Int}(h:0<=i):cF xs none (some i) none=xs.take i.toNat:=by
 rw[NQ];simp only[Option.elim,HB h,List.drop_zero,Nat.sub_zero]
 by_cases h':i.toNat<=xs.length
 ·rw[Nat.min_eq_left h']
 ·rw[Nat.min_eq_right (by lia),List.take_of_length_le (by lia),List.take_of_length_le (by lia)]
def dX {α:Type} (xs:List α) (i:Int) (y:α):List α:=xs.take (min i.toNat xs.length)++y::xs.drop (min i.toNat xs.length)
def aD5:V->List V->Hp->VK->Prop:=fun x vs H Q=>∃ l xs i y,x=.ref l/\vs=[.int i,y]/\H l=some (.lst xs)/\0<=i/\i<2^63/\xs.length<sizeLine/\Q .non (upd H l (.lst (dX xs i y)))
theorem aGa {xs:List V}{us:List Value}(h:aL xs us):∀ n,aL (xs.take n) (us.take n):=by
 induction h with
 | nil=>intro n;simp;exact .nil
 | cons r t ih=>
  intro n;cases n with
  | zero=>exact .nil
  | succ n=>exact .cons r (ih n)
theorem aG9 {xs:List V}{us:List Value}(h:aL xs us):∀ n,aL (xs.drop n) (us.drop n):=by
 induction h with
 | nil=>intro n;simp;exact .nil
 | cons r t ih=>
  intro n;cases n with
  | zero=>exact .cons r t
  | succ n=>exact ih n
theorem ZL {X:Cx}:MtM X "list.insert" aD5:=by
 intro pins s σ H x vs v us Q I rx rv h;obtain⟨l,xs,i,y,rfl,rfl,hH,h0,h1,hz,q⟩:=h;cases rx;obtain⟨u1,u,rfl,r1,ru⟩:=rv.two;obtain⟨tk,rfl⟩:=r1;obtain⟨z,its,n,r,hl,e⟩:=I.lstM hH;refine call_meets PySem.F.slot_list_insert ⟨_,e,rfl⟩ PySem.F.entry_list_insert (PySem.F.args_list_insert_3 _ _ _) (PySem.AutoListH.list_insert_list_int_val_1 l its.toArray n i tk u (by unfold Builtin.List.listFitsIndex;simp;lia) (by rw[aIr];lia)) ⟨e,?_⟩;refine⟨.non,_,I.lset (its':=dX its i u) hH e ?_ ?_ ?_,rfl,q⟩
 ·unfold dX
  have h0':¬ i<0:=by lia
  simp[h0'];exact List.take_of_length_le (by simp)
 ·unfold dX
  rw[hl];exact (aGa r _).append (.cons ru (aG9 r _))
 ·unfold dX;simp;lia
def DP (i:Nat) (fk f:Rho->Option T):Rho->Option Out:=fun ρ=>(aA i ρ).bind fun t=>(fk ρ).bind fun k=>(f ρ).bind fun x=>match t,k with | .lst ts,.int j=>if ts.length<cap/\0<=j/\j<2^63 then some (.nx (ρ.set i (some (.lst (dX ts j x))))) else none | _,_=>none
@[simp] theorem rIns_at (i:Nat) (fk f:Rho->Option T) (ρ:Rho):DP i fk f ρ=(aA i ρ).bind fun t=>(fk ρ).bind fun k=>(f ρ).bind fun x=>match t,k with | .lst ts,.int j=>if ts.length<cap/\0<=j/\j<2^63 then some (.nx (ρ.set i (some (.lst (dX ts j x))))) else none | _,_=>none:=rfl
theorem aDi {K:PySem.W.Frag}{H:Hp}{A:Addr->Prop}{ts:List T}{xs:List V}{t:T}{x:V}(h:RepL K H A ts xs) (r:Rep K H A t x) (i:Int):RepL K H A (dX ts i t) (dX xs i x):=by
 unfold dX;rw[h.length];exact RepL.app (h.take _) ⟨x,_,rfl,r,h.drop _⟩
section
variable {X:Cx}{B:Hp}{fl:List Nat}{e k:Expr}{f fk:Rho->Option T}{n n' nk:Bool}{l l' lk:Nat}{pos pos':Pos}{x:Str}
theorem WT (i:Nat) {apos p2:Pos}(hk:GE X B fl k fk nk lk) (he:GE X B fl e f n' l') (h1:(decide (fl.getD i 1=0)&&decide (lc fl<=l'))=true) (hN:X.N[i]?=some x:=by rfl) (hv:Vis X.env.scope x:=by first | exact Or.inl rfl | exact Or.inr (Or.inl rfl) | exact Or.inr (Or.inr rfl))
  (hd:(x == ("__debug__" : Str))=false:=by decide) (hcd:(x == ("__classdict__" : Str))=false:=by decide)
  (hbase:attributeBase (.Name x p2) "insert" X.env (eval (.Name x p2) X.env)=eval (.Name x p2) X.env:=by rfl)
  (hfew:((backTo pos' (starEach [k,e] X.env)).all (fun x=>!x.1)&&(backToKw pos' (keywordEach [] X.env)).all (fun x=>x.1.isSome)
   && decide (([k,e]:List Expr).length+([]:List Keyword).length+(if ([]:List Keyword).isEmpty then 0 else 1)<30))=true:=by rfl)
  (hline:(apos.endLine == pos'.line)=true:=by rfl) (hs:starEach [k,e] X.env=(false,eval k X.env)::starEach [e] X.env:=by rfl) (hs2:starEach [e] X.env=[(false,eval e X.env)]:=by rfl) (hpl:(backTo pos' (starEach [e] X.env)).any (·.1)=false:=by rfl) (hsw:swapsWith (.Call (.Attribute (.Name x p2) "insert" apos) [k,e] [] pos') none pos.line X.env=pure false:=by rfl):
  GS X B fl n l (.Expr (.Call (.Attribute (.Name x p2) "insert" apos) [k,e] [] pos') pos) (DP i fk f):=by
 simp only[aIw,decide_eq_true_eq] at h1;refine gT (yA (nS PySem.F.plainAttrs_list PySem.F.slot_list_insert PySem.F.type_list_insert ZL (pv (X:=X) i hN hv hd hcd) (bI hk (bI he cB hs2) hs) hbase hfew hline hs hpl) hsw) ?_;rintro D σ H ⟨Ex,ρ,M,o,S,hr,q⟩;obtain⟨t,e1,hr⟩:=bind_some hr;obtain⟨j,e0,hr⟩:=bind_some hr;obtain⟨y,e2,hr⟩:=bind_some hr;cases t<;>first | (cases hr;done) | skip
 cases j<;>first | (cases hr;done) | skip
 dsimp only at hr;split at hr
 ·rename_i hl
  cases (aIi hr);have e1':=wW e1;have lcl:=qX fl;have lcp:=sW fl;obtain⟨a,ts,xs,e3,e4,e5,e6,e7⟩:=S.muL i _ e1' h1.1;cases e3;refine⟨_,e4,.inl ⟨rfl,xs,SqL.of e5⟩,?_⟩;refine⟨Ex,ρ,M,_,S,e0,fun v0 H0 s0 r0=>?_⟩;cases (aM.scal rfl).mp r0;have S0:=S.grow s0;refine⟨Ex,ρ,M,y,S0,e2,fun v H1 s1 rx=>?_⟩;refine⟨a,xs,_,v,rfl,rfl,s1 _ _ (s0 _ _ e5),hl.2.1,hl.2.2,by rw[<- e6.length];exact gJ (aKd hl.1),?_⟩;refine q σ M _ ((S0.grow s1).write h1.1 e1' e4 e7 (s1 _ _ (s0 _ _ e5)) (aDi (((e6.grow s0).grow s1).weak fun b x=>x.any (by lia)) ((rx.rep S0).weak fun b x=>?_) _));exact⟨fun z=>x.1 (by lia),fun z=>x.2.1 (by lia),fun z=>by lia⟩
 ·cases hr
end
section
variable {X:Cx}{pins:List (Addr × Obj)}{σ:St}{H:Hp}{s:Shared}{h':Heap}
theorem BN {t':Nat}{fs:List Addr}{T:Addr}{ys:List V}(I:Inv X pins σ H s) (hT:s.heap.objs.size<=T) (k:∀ b o,b ∉ fs->s.heap.get? b=some o->h'.get? b=some o) (hf:∀ b∈fs,fE X pins H b)
  (new:dU X.prog X.w (upd H T (.tup ys)) h' T (.tup ys)):Inv X pins σ (upd H T (.tup ys)) { s with heap:=h',toks:=t' }:=by
 have hn:H T=none:=I.hok.fresh hT;have nfs:∀ b u,H b=some u->b ∉ fs:=fun b u e z=>by rw[(hf b z).1] at e;cases e
 have nT:∀ b (o:Obj),s.heap.get? b=some o->b≠T:=fun b o e z=>absurd (aIq (aJ3 e) (by rw[z];exact hT)) (aKg _);refine I.step (g':=s.gens) (d':=s.drawn) (ch:=fs) (fun b hb=>⟨(hf b hb).2.2.2.1,(hf b hb).2.1,(hf b hb).2.2.2.2.1,(hf b hb).2.2.2.2.2⟩) (fun b o _ _ hc e _=>k b o hc e) (fun b o _ _ hc e _=>⟨o.slots,k b o hc e⟩)
  (fun b o hc e n=>by rw[aU (nT b o e)];exact n) (fun b o hc e=>⟨o,k b o hc e⟩) (fun b xs e=>by rw[aU (cQ e hn)];exact e) (fun b o u e=>by rw[aU (cQ e hn)];exact e) (fun b ps e=>⟨#[],by rw[aU (cQ e hn),e];simp⟩) (fun m hm=>?_) (fun b u e=>?_) I.bare
 ·obtain⟨o,es,ep,ho,r⟩:=hm
  exact⟨o,es,ep,k _ o (fun z=>(hf _ z).2.1 rfl) ho,r⟩
 ·by_cases hb:b=T
  ·subst hb;rw[bN] at e;cases e;exact new
  ·rw[aU hb] at e
   refine (I.hok b u e).stay (fun c v hc q=>k c v ?_ q) (fun c q=>by rw[aU (cQ q hn)];exact q) fun c xs q=>by rw[aU (cQ q hn)];exact q
   rcases hc with z | z
   ·rw[z];exact nfs b u e
   ·exact nfs c _ z
theorem BM {t':Nat}{fs:List Addr}(I:Inv X pins σ H s) (k:∀ b o,b ∉ fs->s.heap.get? b=some o->h'.get? b=some o) (hf:∀ b∈fs,fE X pins H b):Inv X pins σ H { s with heap:=h',toks:=t' }:=by
 have nfs:∀ b u,H b=some u->b ∉ fs:=fun b u e z=>by rw[(hf b z).1] at e;cases e
 refine I.step (g':=s.gens) (d':=s.drawn) (ch:=fs) (fun b hb=>⟨(hf b hb).2.2.2.1,(hf b hb).2.1,(hf b hb).2.2.2.2.1,(hf b hb).2.2.2.2.2⟩) (fun b o _ _ hc e _=>k b o hc e) (fun b o _ _ hc e _=>⟨o.slots,k b o hc e⟩)
  (fun _ _ _ _ n=>n) (fun b o hc e=>⟨o,k b o hc e⟩) (fun _ _ e=>e) (fun _ _ _ e=>e) (fun b ps e=>⟨#[],by rw[e];simp⟩) (fun m hm=>?_) (fun b u e=>?_) I.bare
 ·obtain⟨o,es,ep,ho,r⟩:=hm
  exact⟨o,es,ep,k _ o (fun z=>(hf _ z).2.1 rfl) ho,r⟩
 ·refine (I.hok b u e).stay (fun c v hc q=>k c v ?_ q) (fun _ q=>q) fun _ _ q=>q
  rcases hc with z | z
  ·rw[z];exact nfs b u e
  ·exact nfs c _ z
end
def Ite (K:PySem.W.Frag) (a:Addr):It:=
 ⟨fun i H=>∃ xs x,SqL K H a xs/\xs[i]?=some x,fun i H x H'=>∃ T y,(∀ xs,SqL K H a xs->xs[i]?=some y)/\H T=none/\x=.ref T/\H'=upd H T (.tup [.int (i:Nat),y]),fun i H=>∃ xs,SqL K H a xs/\xs.length<=i⟩
theorem cO {h:Heap}{a b:Addr}{o o':Obj}(e:h.get? a=some o) (e':h.get? b=some o') (hc:o.cls≠o'.cls):a≠b:=fun z=>by
 subst z;rw[e] at e';cases e';exact hc rfl
theorem aFz {P:Program}{w:World}{K:PySem.W.Frag}{elts:List Expr}{k:Nat}{pos:Pos}(a e it:Addr) (hei:e≠it):Turn P w K (.Tuple elts k pos) (Ite K a) [e,it] e (fun i h=>(∃ old,IsEnum h e it i old)/\h.IsListIter it a i) where
 mem:=by simp
 obj:=fun i h st b hb=>by
  obtain⟨⟨old,he⟩,hit⟩:=st;rcases aIu.mp hb with rfl | hb
  ·exact⟨_,he,fun v z=>by cases (show Data.fields _=Data.cell v from z)⟩
  ·have eb:b=it:=by simpa using hb
   subst eb;obtain⟨o,q,c,d⟩:=hit;exact⟨o,q,fun v z=>by rw[d] at z;cases z⟩
 keep:=fun i h h' st kp=>by
  obtain⟨⟨old,he⟩,hit⟩:=st;exact⟨⟨old,kp e (by simp) _ he⟩,hit.at fun o q=>kp it (by simp) o q⟩
 item:=by
  intro X hP hw hK hc i pins s σ H E I hf st hg;subst hP hw hK;obtain⟨xs,x,hq,hx⟩:=hg;obtain⟨its,rv,p,hz⟩:=I.list hq;obtain⟨u,hu,ru⟩:=rv.get hx;obtain⟨⟨old,he⟩,hit⟩:=st;obtain⟨oit,eit,cit,dit⟩:=id hit;obtain⟨ol,el,cl,nl,dl⟩:=id p.isList;have hle:a≠e:=cO el he (by rw[cl];simp);have hli:a≠it:=cO el eit (by rw[cl,cit];simp);have W:=WalksT.enumerate (prog:=X.prog) (w:=X.w) (I.ok.hd hc) e it a hei hle hli its.toArray;have hi:i<its.toArray.size:=by
   have:=(aIn.mp hu).1
   simpa using this
  refine W.item i s _ E hi ⟨⟨old,he⟩,hit,p.isList⟩ fun T vals h1 tk hPt hT hTup hMid keep1=>⟨_,rfl,?_⟩;refine W.go elts k pos i T { s with heap:=h1,toks:=tk } _ E hMid fun h2 hSt keep2=>?_;obtain⟨t,v,hv,rfl⟩:=hPt;have hvu:v=u:=by
   have:its[i]?=some v:=by simpa using hv
   rw[hu] at this;exact (aIi this).symm
  subst hvu;have hTw:=W.apart i T h1 hMid;obtain⟨oT,eT,cT,nT,dT⟩:=hTup;have eT2:h2.get? T=some oT:=keep2 T oT hTw eT;have new:dU X.prog X.w (upd H T (.tup [.int (i:Nat),x])) h2 T (.tup [.int (i:Nat),x]):=by
   refine⟨by rw[sizeLine_eq];show 2<=16777216;decide,[.int (i:Nat) t,v],.cons ⟨t,rfl⟩ (.cons ru .nil),⟨oT,eT2,cT,nT,dT⟩⟩
  have I2:Inv X pins σ (upd H T (.tup [.int (i:Nat),x])) { s with heap:=h2,toks:=tk }:=BN (fs:=[e,it]) I hT (fun b o hb q=>keep2 b o hb (keep1 b o hb q)) hf new;refine⟨.ref T,_,I2,rfl,⟨T,x,fun ys hy=>by rw[I.list_inj hy hq];exact hx,I.hok.fresh hT,rfl,rfl⟩,⟨hSt.1,hSt.2.1⟩,fun b hb=>?_⟩;rw[aU (fun z=>hTw (by rw[<- z];exact hb))];exact (hf b hb).1
 done:=by
  intro X hP hw hK hc i pins s σ H E I hf st hg;subst hP hw hK;obtain⟨xs,hq,hx⟩:=hg;obtain⟨its,rv,p,hz⟩:=I.list hq;obtain⟨⟨old,he⟩,hit⟩:=st;obtain⟨oit,eit,cit,dit⟩:=id hit;obtain⟨ol,el,cl,nl,dl⟩:=id p.isList;have hle:a≠e:=cO el he (by rw[cl];simp);have hli:a≠it:=cO el eit (by rw[cl,cit];simp);have hl:=rv.length;exact wpAny_pyNext_enum_end (I.ok.hd hc) he hit p.isList (by simp;lia) fun h' hx=>⟨rfl,BM (t':=s.toks) (fs:=[e,it]) I (fun b o hb q=>hx b o (fun z=>hb (by simp[z])) q) hf⟩
 self:=fun A i s Q E st h=>by
  obtain⟨⟨old,he⟩,hit⟩:=st;exact wpAny_pyIter_enum he h
def Itz (K:PySem.W.Frag) (a b:Addr):It:=
  ⟨fun i H=>∃ xs ys x y,SqL K H a xs/\SqL K H b ys/\xs[i]?=some x/\ys[i]?=some y,
   fun i H x H'=>∃ T y z,(∀ xs,SqL K H a xs->xs[i]?=some y)/\(∀ ys,SqL K H b ys->ys[i]?=some z)/\H T=none/\x=.ref T/\H'=upd H T (.tup [y,z]),
   fun i H=>∃ xs ys,SqL K H a xs/\SqL K H b ys/\(xs.length<=i\/ys.length<=i)⟩
structure ZA (z TI TO i1 i2:Addr):Prop where
 TIz:TI≠z
 TOz:TO≠z
 i1z:i1≠z
 i2z:i2≠z
 TITO:TI≠TO
 TIi1:TI≠i1
 TIi2:TI≠i2
 TOi1:TO≠i1
 TOi2:TO≠i2
 i12:i1≠i2
theorem aGk (n:Nat):ZA (n+4) (n+2) (n+3) n (n+1):=by
 have h:∀ a b:Nat,a<b->(a:Addr)≠b/\(b:Addr)≠a:=fun a b q=>⟨aKm q,aKl q⟩;exact⟨(h _ _ (by lia)).1,(h _ _ (by lia)).1,(h _ _ (by lia)).1,(h _ _ (by lia)).1,(h _ _ (by lia)).1,(h _ _ (by lia)).2,(h _ _ (by lia)).2,(h _ _ (by lia)).2,(h _ _ (by lia)).2,(h _ _ (by lia)).1⟩
theorem aG5 {P:Program}{w:World}{K:PySem.W.Frag}{elts:List Expr}{k:Nat}{pos:Pos}(a b z TI TO i1 i2:Addr) (A0:ZA z TI TO i1 i2):Turn P w K (.Tuple elts k pos) (Itz K a b) [z,TI,TO,i1,i2] z
  (fun i h=>IsZip h z TI TO .none/\IsPair h TI (.ref i1) (.ref i2)/\(∃ a b,IsPair h TO a b)/\h.IsListIter i1 a i/\h.IsListIter i2 b i) where
 mem:=by simp
 obj:=fun i h st c hc=>by
  obtain⟨hz,hTI,⟨u,v,hTO⟩,h1,h2⟩:=st;simp only[aIu,List.mem_nil_iff,or_false] at hc;rcases hc with rfl | rfl | rfl | rfl | rfl
  ·exact⟨_,hz,fun v z=>by cases (show Data.fields _=Data.cell v from z)⟩
  ·exact⟨_,hTI,fun v z=>by cases (show Data.seq _ _=Data.cell v from z)⟩
  ·exact⟨_,hTO,fun v z=>by cases (show Data.seq _ _=Data.cell v from z)⟩
  ·obtain⟨o,q,c,d⟩:=h1
   exact⟨o,q,fun v z=>by rw[d] at z;cases z⟩
  ·obtain⟨o,q,c,d⟩:=h2
   exact⟨o,q,fun v z=>by rw[d] at z;cases z⟩
 keep:=fun i h h' st kp=>by
  obtain⟨hz,hTI,⟨u,v,hTO⟩,h1,h2⟩:=st;exact⟨kp z (by simp) _ hz,kp TI (by simp) _ hTI,⟨u,v,kp TO (by simp) _ hTO⟩,h1.at fun o q=>kp i1 (by simp) o q,h2.at fun o q=>kp i2 (by simp) o q⟩
 item:=by
  intro X hP hw hK hc i pins s σ H E I hf st hg;subst hP hw hK;obtain⟨xs,ys,x,y,hq,hq',hx,hy⟩:=hg;obtain⟨its,rv,p,hzl⟩:=I.list hq;obtain⟨its',rv',p',hzl'⟩:=I.list hq';obtain⟨u,hu,ru⟩:=rv.get hx;obtain⟨u',hu',ru'⟩:=rv'.get hy;obtain⟨hz,hTI,⟨w1,w2,hTO⟩,h1,h2⟩:=st;obtain⟨o1,e1,c1,d1⟩:=id h1;obtain⟨o2,e2,c2,d2⟩:=id h2;obtain⟨ol,el,cl,nl,dl⟩:=id p.isList;obtain⟨ol',el',cl',nl',dl'⟩:=id p'.isList;have D:ZipApart z TI TO i1 i2 a b:=⟨A0.TIz,A0.TOz,A0.i1z,A0.i2z,A0.TITO,A0.TIi1,A0.TIi2,A0.TOi1,A0.TOi2,A0.i12,
   cO el hz (by rw[cl];simp),cO el hTO (by rw[cl];simp),cO el e1 (by rw[cl,c1];simp),cO el e2 (by rw[cl,c2];simp),
   cO el' hz (by rw[cl'];simp),cO el' hTO (by rw[cl'];simp),cO el' e1 (by rw[cl',c1];simp),cO el' e2 (by rw[cl',c2];simp)⟩
  have W:=WalksT.zip2 (prog:=X.prog) (w:=X.w) (I.ok.hd hc) z TI TO i1 i2 a b D its.toArray its'.toArray;have hi:i<min its.toArray.size its'.toArray.size:=by
   have a1:=(aIn.mp hu).1;have a2:=(aIn.mp hu').1;simp;lia
  refine W.item i s _ E hi ⟨hz,hTI,⟨w1,w2,hTO⟩,h1,h2,p.isList,p'.isList⟩ fun T vals h1 tk hPt hT hTup hMid keep1=>⟨_,rfl,?_⟩;refine W.go elts k pos i T { s with heap:=h1,toks:=tk } _ E hMid fun h2 hSt keep2=>?_;obtain⟨v,v',hv,hv',rfl⟩:=hPt;have hvu:v=u:=by
   have:its[i]?=some v:=by simpa using hv
   rw[hu] at this;exact (aIi this).symm
  have hvu':v'=u':=by
   have:its'[i]?=some v':=by simpa using hv'
   rw[hu'] at this;exact (aIi this).symm
  subst hvu hvu';have hTw:=W.apart i T h1 hMid;obtain⟨oT,eT,cT,nT,dT⟩:=hTup;have eT2:h2.get? T=some oT:=keep2 T oT hTw eT;have new:dU X.prog X.w (upd H T (.tup [x,y])) h2 T (.tup [x,y]):=by
   refine⟨by rw[sizeLine_eq];show 2<=16777216;decide,[v,v'],.cons ru (.cons ru' .nil),⟨oT,eT2,cT,nT,dT⟩⟩
  have hsub:∀ c∈[z,TO,i1,i2],c∈[z,TI,TO,i1,i2]:=by simp
  have I2:Inv X pins σ (upd H T (.tup [x,y])) { s with heap:=h2,toks:=tk }:=BN (fs:=[z,TO,i1,i2]) I hT (fun b o hb q=>keep2 b o hb (keep1 b o hb q)) (fun b hb=>hf b (hsub b hb)) new;have hTn:∀ c∈[z,TI,TO,i1,i2],c≠T:=fun c hcm zz=>by
   by_cases hcT:c=TI
   ·exact absurd (aIq (aJ3 hTI) hT) (by rw[<- hcT,zz];exact aKg _)
   ·refine hTw ?_
    rw[<- zz];simp only[aIu,List.mem_nil_iff,or_false] at hcm ⊢;rcases hcm with q | q | q | q | q
    ·exact .inl q
    ·exact absurd q hcT
    ·exact .inr (.inl q)
    ·exact .inr (.inr (.inl q))
    ·exact .inr (.inr (.inr q))
  refine⟨.ref T,_,I2,rfl,⟨T,x,y,fun zs hz=>by rw[I.list_inj hz hq];exact hx,fun zs hz=>by rw[I.list_inj hz hq'];exact hy,I.hok.fresh hT,rfl,rfl⟩,⟨hSt.1,hSt.2.1,hSt.2.2.1,hSt.2.2.2.1,hSt.2.2.2.2.1⟩,fun c hcm=>?_⟩;rw[aU (hTn c hcm)];exact (hf c hcm).1
 done:=by
  intro X hP hw hK hc i pins s σ H E I hf st hg;subst hP hw hK;obtain⟨xs,ys,hq,hq',hx⟩:=hg;obtain⟨its,rv,p,hzl⟩:=I.list hq;obtain⟨its',rv',p',hzl'⟩:=I.list hq';obtain⟨hz,hTI,⟨w1,w2,hTO⟩,h1,h2⟩:=st;obtain⟨o1,e1,c1,d1⟩:=id h1;obtain⟨o2,e2,c2,d2⟩:=id h2;obtain⟨ol,el,cl,nl,dl⟩:=id p.isList;obtain⟨ol',el',cl',nl',dl'⟩:=id p'.isList;have D:ZipApart z TI TO i1 i2 a b:=⟨A0.TIz,A0.TOz,A0.i1z,A0.i2z,A0.TITO,A0.TIi1,A0.TIi2,A0.TOi1,A0.TOi2,A0.i12,
   cO el hz (by rw[cl];simp),cO el hTO (by rw[cl];simp),cO el e1 (by rw[cl,c1];simp),cO el e2 (by rw[cl,c2];simp),
   cO el' hz (by rw[cl'];simp),cO el' hTO (by rw[cl'];simp),cO el' e1 (by rw[cl',c1];simp),cO el' e2 (by rw[cl',c2];simp)⟩
  have hl:=rv.length;have hl':=rv'.length;have hend:its.toArray[i]?=none\/its'.toArray[i]?=none:=by
   rcases hx with hx | hx
   ·exact .inl (by simp;lia)
   ·exact .inr (by simp;lia)
  exact wpAny_pyNext_zip_end (I.ok.hd hc) D hz hTI hTO h1 h2 p.isList p'.isList hend fun h' hk=>⟨rfl,BM (t':=s.toks) (fs:=[z,TI,TO,i1,i2]) I (fun b o hb q=>hk b o (fun x=>hb (by simp[x])) (fun x=>hb (by simp[x])) (fun x=>hb (by simp[x])) (fun x=>hb (by simp[x])) q) hf⟩
 self:=fun A i s Q E st h=>wpAny_pyIter_zip st.1 h
section
variable {X:Cx}{elts:List Expr}{k:Nat}{p2:Pos}
def XH (K:PySem.W.Frag) (ta:TA):TI:=fun σ H R=>ta σ H fun vs H1=>∃ l xs,vs=[.ref l]/\SqL K H1 l xs/\R (Ite K l) H1
theorem aCm {a:Expr}{ta:TA}{p pos:Pos}(hg:Gl X "enumerate") (hm:X.mg "enumerate" = none) (ha:PA X [a] ta) (hs:starEach [a] X.env=[(false,eval a X.env)]:=by rfl):PI X (.Tuple elts k p2) (.Call (.Name "enumerate" p) [a] [] pos) (XH X.K ta):=by
 intro pins s σ H R I h;refine Call_ (mI I hg hm PyProof.Rows.boot_enumerate (PyProof.Rows.callWith_type1 (thn (ha pos pins s σ H _ I h) fun us s1 ⟨vs,H1,I1,r1,q1⟩=>?_) hs rfl));obtain⟨l,xs,e,hq,q⟩:=q1;subst e;cases r1 with
 | cons r rr=>
  cases rr;cases r;obtain⟨its,rv,p,hz⟩:=I1.list hq;refine call_enumerate_list p.isList fun h' he hit hsz keep=>wpAny_pyIter_enum he ?_;refine⟨_,[s1.heap.objs.size+1,s1.heap.objs.size],_,_,H1,rfl,I1.kept (t':=s1.toks) keep,aFz l _ _ (aKl (aKj _)),⟨⟨_,he⟩,hit⟩,fun b hb=>?_,q⟩;have hb':s1.heap.objs.size<=b:=by
   simp only[aIu,List.mem_nil_iff,or_false] at hb;rcases hb with rfl | rfl<;>lia
  exact I1.fpOk hb' (I1.hok.fresh hb')
def XO (K:PySem.W.Frag) (ta:TA):TI:=fun σ H R=>ta σ H fun vs H1=>∃ l l' xs ys,vs=[.ref l,.ref l']/\SqL K H1 l xs/\SqL K H1 l' ys/\R (Itz K l l') H1
theorem aCq {a b:Expr}{ta:TA}{p pos:Pos}(hg:Gl X "zip") (hm:X.mg "zip" = none) (ha:PA X [a,b] ta) (hs:starEach [a,b] X.env=[(false,eval a X.env),(false,eval b X.env)]:=by rfl) (hs2:starEach [b] X.env=[(false,eval b X.env)]:=by rfl):PI X (.Tuple elts k p2) (.Call (.Name "zip" p) [a,b] [] pos) (XO X.K ta):=by
 intro pins s σ H R I h;refine Call_ (mI I hg hm PyProof.Rows.boot_zip (PyProof.Rows.callWith_type1 (thn (ha pos pins s σ H _ I h) fun us s1 ⟨vs,H1,I1,r1,q1⟩=>?_) (by rw[hs,hs2]) (by rw[hs2];rfl)));obtain⟨l,l',xs,ys,e,hq,hq',q⟩:=q1;subst e;cases r1 with
 | cons r rr=>
  cases rr with
  | cons r' rr=>
   cases rr;cases r;cases r';obtain⟨its,rv,p,hz⟩:=I1.list hq;obtain⟨its',rv',p',hz'⟩:=I1.list hq';refine call_zip_2 p.isList p'.isList fun h' a1 a2 a3 a4 a5 hsz keep=>wpAny_pyIter_zip a1 ?_;refine⟨_,[s1.heap.objs.size+4,s1.heap.objs.size+2,s1.heap.objs.size+3,s1.heap.objs.size,s1.heap.objs.size+1],_,_,H1,rfl,I1.kept (t':=s1.toks) keep,aG5 l l' _ _ _ _ _ (aGk _),⟨a1,a2,⟨_,_,a3⟩,a4,a5⟩,fun b hb=>?_,q⟩;have hb':s1.heap.objs.size<=b:=by
    simp only[aIu,List.mem_nil_iff,or_false] at hb;rcases hb with rfl | rfl | rfl | rfl | rfl<;>lia
   exact I1.fpOk hb' (I1.hok.fresh hb')
end
def fF (n:Nat):List T->List T
 | []=>[]
 | u::us=>.tup [.int (n:Int),u]::fF (n+1) us
theorem AL:∀ (us:List T) (n i:Nat),(fF n us)[i]?=(us[i]?).map fun u=>.tup [.int ((n+i:Nat):Int),u]
 | [],n,i=>by simp[fF]
 | u::us,n,0=>by simp[fF]
 | u::us,n,i+1=>by
  rw[fF,List.getElem?_cons_succ,AL us (n+1) i,List.getElem?_cons_succ]
  congr 2
  funext u
  congr 4
  omega
theorem IE:∀ (us:List T) (n:Nat),(fF n us).length=us.length
 | [],n=>rfl
 | u::us,n=>by simp[fF,IE us (n+1)]
def sE (fi:Rho->Option (List T)):Rho->Option (List T):=fun ρ=>(fi ρ).map (fF 0)
@[simp] theorem fEnum_at (fi:Rho->Option (List T)) (ρ:Rho):sE fi ρ=(fi ρ).map (fF 0):=rfl
def kS (xs ys:List T):List T:=List.zipWith (fun x y=>.tup [x,y]) xs ys
def sH (fi gi:Rho->Option (List T)):Rho->Option (List T):=fun ρ=>(fi ρ).bind fun xs=>(gi ρ).map fun ys=>kS xs ys
@[simp] theorem fZip_at (fi gi:Rho->Option (List T)) (ρ:Rho):sH fi gi ρ=(fi ρ).bind fun xs=>(gi ρ).map fun ys=>kS xs ys:=rfl
theorem AA {K:PySem.W.Frag}{H H':Hp}{A:Addr->Prop}{u:T}{y:V}{sc:Bool}(hsc:sc=true->im u=true) (s:aK H H') (r:Rep K H A u y):Rep K H' (Am sc A H) u y:=by
 cases sc with
 | false=>exact (r.grow s).weak fun b x=>⟨rfl,.inl x⟩
 | true=>exact rC u (hsc rfl) (r.grow s)
theorem aGb {K:PySem.W.Frag}{a:Addr}{us:List T}{sc:Bool}(hsc:sc=true->cC us=true):qJ K (Ite K a) [(.lst us,.ref a)] (fF 0 us) sc:=by
 intro H A hA i;obtain⟨a',xs,e,hs,hr⟩:=(hA _ aIm).sqL;cases e;refine⟨fun t ht=>?_,fun hi=>⟨xs,hs,by rw[<- hr.length,<- IE us 0];exact hi⟩⟩;rw[AL] at ht;cases hu:us[i]? with
 | none=>rw[hu] at ht;cases ht
 | some u=>
  rw[hu] at ht;cases (aIi ht);obtain⟨y,hy,ry⟩:=hr.get hu;refine⟨⟨xs,y,hs,hy⟩,fun x H' hx=>?_⟩;obtain⟨T,y',hy',hT,rfl,rfl⟩:=hx;have:=hy' xs hs;rw[hy] at this;cases (aIi this);have sn:=cK hT (.tup [.int (i:Nat),y]);refine⟨sn,T,[.int (i:Nat),y],rfl,.inl (.inl bN),.int (i:Nat),[y],rfl,?_,y,[],rfl,AA (fun z=>aIo.mp (hsc z) u (List.mem_of_getElem? hu)) sn ry,rfl⟩;show V.int _=V.int _
  congr 1
  omega
theorem aGd {K:PySem.W.Frag}{a b:Addr}{us ws:List T}{sc:Bool}(hsc:sc=true->cC us=true/\cC ws=true):qJ K (Itz K a b) [(.lst us,.ref a),(.lst ws,.ref b)] (kS us ws) sc:=by
 intro H A hA i;obtain⟨a',xs,e,hs,hr⟩:=(hA _ aIm).sqL;obtain⟨b',ys,e',hs',hr'⟩:=(hA _ (aIl _ aIm)).sqL;cases e;cases e';refine⟨fun t ht=>?_,fun hi=>⟨xs,ys,hs,hs',?_⟩⟩
 ·unfold kS at ht
  rw[List.getElem?_zipWith] at ht;cases hu:us[i]? with
  | none=>rw[hu] at ht;cases ht
  | some u=>
   cases hw:ws[i]? with
   | none=>rw[hu,hw] at ht;cases ht
   | some w=>
    rw[hu,hw] at ht;cases (aIi ht);obtain⟨y,hy,ry⟩:=hr.get hu;obtain⟨z,hz,rz⟩:=hr'.get hw;refine⟨⟨xs,ys,y,z,hs,hs',hy,hz⟩,fun x H' hx=>?_⟩;obtain⟨T,y',z',hy',hz',hT,rfl,rfl⟩:=hx;have q1:=hy' xs hs;have q2:=hz' ys hs';rw[hy] at q1;rw[hz] at q2;cases (aIi q1);cases (aIi q2);have sn:=cK hT (.tup [y,z]);exact⟨sn,T,[y,z],rfl,.inl (.inl bN),y,[z],rfl,AA (fun z=>aIo.mp (hsc z).1 u (List.mem_of_getElem? hu)) sn ry,z,[],rfl,AA (fun z=>aIo.mp (hsc z).2 w (List.mem_of_getElem? hw)) sn rz,rfl⟩
 ·unfold kS at hi
  rw[List.length_zipWith] at hi;rw[<- hr.length,<- hr'.length];omega
section
variable {X:Cx}{B:Hp}{fl:List Nat}{e e':Expr}{f g:Rho->Option T}{n n':Bool}{l l':Nat}{pos p' p2:Pos}{x:Str}{elts:List Expr}{k:Nat}
theorem Ad.min3 {H:Hp}{M:List Addr}{a:Addr}(h:Ad B H M (min l 3) a):Ad B H M l a:=⟨fun z=>h.1 (by omega),fun z=>h.2.1 (by omega),fun z=>h.2.2 (by omega)⟩
theorem BP {t:T}{us:List T}(h:jD t=some us):t=.lst us/\cC us=true:=by
 cases t<;>first | (cases h;done) | skip
 unfold jD at h;dsimp only at h;split at h
 ·rename_i hfl
  cases (aIi h);exact⟨rfl,hfl⟩
 ·cases h
theorem WG {sc:Bool}{fi:Rho->Option (List T)}(hfi:∀ ρ us,fi ρ=some us->f ρ=some (.lst us)/\(sc=true->cC us=true)) (hx:x = "enumerate") (hg:Gl X x) (hm:X.mg x=none) (he:GE X B fl e f n l) (hs:starEach [e] X.env=[(false,eval e X.env)]):
  GI X B fl (.Tuple elts k p2) (.Call (.Name x p') [e] [] pos) (sE fi) l sc:=by
 subst hx;refine tX (aCm hg hm (aF he aH hs) hs) ?_;rintro σ H R ⟨Ex,ρ,M,ts,S,hf,q⟩;unfold sE at hf;cases hu:fi ρ with
 | none=>rw[hu] at hf;cases hf
 | some us=>
  rw[hu] at hf;cases (aIi hf);obtain⟨h1,h2⟩:=hfi ρ us hu;refine⟨Ex,ρ,M,[.lst us],S,by unfold aD aE;rw[h1];rfl,fun vs H1 s1 r1=>?_⟩;obtain⟨y,rfl,ry⟩:=dR r1;obtain⟨p,xs,rfl,h3,h4⟩:=ry.sqL;exact⟨p,xs,rfl,h3,q _ H1 [(.lst us,.ref p)] s1 (fun pv hp=>by cases aK7.mp hp;exact ry.weak fun b x=>x.min3) (aGb h2)⟩
theorem WH (hx:x = "enumerate") (hg:Gl X x) (hm:X.mg x=none) (he:GE X B fl e f n l) (hs:starEach [e] X.env=[(false,eval e X.env)]:=by rfl):
  GI X B fl (.Tuple elts k p2) (.Call (.Name x p') [e] [] pos) (sE (fFL f)) l true:=
 WG (fun ρ us h=>by
  obtain⟨t,h1,h2⟩:=bind_some h;obtain⟨h3,h4⟩:=BP h2;exact⟨by rw[h1,h3],fun _=>h4⟩) hx hg hm he hs
theorem WK {sc:Bool}{fi gi:Rho->Option (List T)}(hfi:∀ ρ us,fi ρ=some us->f ρ=some (.lst us)/\(sc=true->cC us=true)) (hgi:∀ ρ us,gi ρ=some us->g ρ=some (.lst us)/\(sc=true->cC us=true)) (hx:x = "zip") (hg:Gl X x) (hm:X.mg x=none) (he:GE X B fl e f n l) (he':GE X B fl e' g n' l')
  (hs:starEach [e,e'] X.env=[(false,eval e X.env),(false,eval e' X.env)]) (hs2:starEach [e'] X.env=[(false,eval e' X.env)]):
  GI X B fl (.Tuple elts k p2) (.Call (.Name x p') [e,e'] [] pos) (sH fi gi) (min l l') sc:=by
 subst hx;refine tX (aCq hg hm (aF he (aF he' aH hs2) (by rw[hs,hs2])) hs hs2) ?_;rintro σ H R ⟨Ex,ρ,M,ts,S,hf,q⟩;obtain⟨us,hu,hf⟩:=bind_some hf;cases hw:gi ρ with
 | none=>rw[hw] at hf;cases hf
 | some ws=>
  rw[hw] at hf;cases (aIi hf);obtain⟨h1,h2⟩:=hfi ρ us hu;obtain⟨h1',h2'⟩:=hgi ρ ws hw;refine⟨Ex,ρ,M,[.lst us,.lst ws],S,by simp only[aD,aE,h1,h1',aKq],fun vs H1 s1 r1=>?_⟩;obtain⟨y,r,rfl,ry,r2⟩:=r1;obtain⟨z,rfl,rz⟩:=dR r2;obtain⟨p,xs,rfl,h3,h4⟩:=ry.sqL;obtain⟨p2,ys,rfl,h3',h4'⟩:=rz.sqL;have wk:∀ a,Ad B H M (min l (min l' 3)) a->Ad B H M (min l l') a:=fun a h=>⟨fun z=>h.1 (by omega),fun z=>h.2.1 (by omega),fun z=>h.2.2 (by omega)⟩;refine⟨p,p2,xs,ys,rfl,h3,h3',q _ H1 [(.lst us,.ref p),(.lst ws,.ref p2)] s1 (fun pv hp=>?_) (aGd fun z=>⟨h2 z,h2' z⟩)⟩;rcases aIu.mp hp with rfl | hp
  ·exact ry.weak wk
  ·cases aK7.mp hp
   exact rz.weak wk
theorem JD (hx:x = "zip") (hg:Gl X x) (hm:X.mg x=none) (he:GE X B fl e f n l) (he':GE X B fl e' g n' l') (hs:starEach [e,e'] X.env=[(false,eval e X.env),(false,eval e' X.env)]:=by rfl) (hs2:starEach [e'] X.env=[(false,eval e' X.env)]:=by rfl):
  GI X B fl (.Tuple elts k p2) (.Call (.Name x p') [e,e'] [] pos) (sH (fFL f) (fFL g)) (min l l') true:=
 WK (fun ρ us h=>by
  obtain⟨t,h1,h2⟩:=bind_some h;obtain⟨h3,h4⟩:=BP h2;exact⟨by rw[h1,h3],fun _=>h4⟩) (fun ρ us h=>by
  obtain⟨t,h1,h2⟩:=bind_some h;obtain⟨h3,h4⟩:=BP h2;exact⟨by rw[h1,h3],fun _=>h4⟩) hx hg hm he he' hs hs2
end
def setL (ρ:Rho):List Nat->List T->Option Rho
 | [],[]=>some ρ
 | j::js,t::ts=>setL (ρ.set j (some t)) js ts
 | _,_=>none
def jR (σ:St):List Nat->List V->St
 | j::js,v::vs=>jR (σ.set j (some v)) js vs
 | _,_=>σ
def gNs (js:List Nat):TGs:=fun vs σ H Q=>vs.length=js.length/\Q (jR σ js vs) H
theorem nK {X:Cx}:PGs X [] (gNs []):=by
 intro pins s σ H vs us Q I r h;refine DJ pins s σ H vs us Q I r ⟨List.length_eq_zero_iff.mp h.1,?_⟩;have e:=List.length_eq_zero_iff.mp h.1;subst e;exact h.2
theorem eJ {X:Cx}{j:Nat}{x:Str}{pos:Pos}{es:List Expr}{js:List Nat}(hN:X.N.Nodup) (hi:X.N[j]?=some x) (hx:Loc X.env.scope x) (h2:PGs X es (gNs js)) (hf:X.fn x=true\/X.env.scope.names.lookup x=some .local:=by first | exact .inl rfl | exact .inr rfl | assumption)
  (hs:(assignEach ((.Name x pos)::es) X.env).map (·.2)=assign (.Name x pos) X.env::(assignEach es X.env).map (·.2):=by rfl):PGs X ((.Name x pos)::es) (gNs (j::js)):=by
 intro pins s σ H vs us Q I r h;refine tV (mN hN hi hx hf) h2 hs pins s σ H vs us Q I r ?_
 match vs,h with
 | v::vr,h=>exact⟨v,vr,rfl,by simpa using h.1,h.2⟩
theorem NO:∀ (js:List Nat) (vs:List V) (σ:St),(jR σ js vs).length=σ.length
 | [],_,_=>rfl
 | _::_,[],_=>rfl
 | j::js,v::vs,σ=>by rw[jR,NO js vs];simp
theorem NN:∀ (js:List Nat) (vs:List V) (σ:St) (i:Nat),i ∉ js->(jR σ js vs)[i]?=σ[i]?
 | [],_,_,_,_=>rfl
 | _::_,[],_,_,_=>rfl
 | j::js,v::vs,σ,i,h=>by
  have h1:i≠j:=fun z=>h (by rw[z];exact aIm);have h2:i ∉ js:=fun z=>h (aIl _ z);rw[jR,NN js vs _ i h2,aIs (Ne.symm h1)]
theorem EF:∀ (js:List Nat) (ts:List T) (ρ ρ':Rho),setL ρ js ts=some ρ'->ts.length=js.length
 | [],[],_,_,_=>rfl
 | [],_::_,_,_,h=>by cases h
 | _::_,[],_,_,h=>by cases h
 | j::js,t::ts,ρ,ρ',h=>by simp[EF js ts _ ρ' h]
theorem Sl.setL {K:PySem.W.Frag}{B H:Hp}{fl:List Nat}{Ex:List (T × V)}{M:List Addr}{lv:Nat}:∀ (js:List Nat) (ts:List T) (vs:List V) {σ:St}{ρ ρ':Rho},Sl K B fl Ex σ ρ M H->(∀ j∈js,j<fl.length/\1<=fl.getD j 1/\min (fl.getD j 1) 2<=lv)->RepL K H (Ad B H M lv) ts vs->G.setL ρ js ts=some ρ'->Sl K B fl Ex (jR σ js vs) ρ' M H
 | [],[],vs,σ,ρ,ρ',S,_,r,h=>by
  cases (aIi h);cases (show vs=[] from r);exact S
 | [],_::_,_,_,_,_,_,_,_,h=>by cases h
 | _::_,[],_,_,_,_,_,_,_,h=>by cases h
 | j::js,t::ts,vs,σ,ρ,ρ',S,hj,r,h=>by
  obtain⟨v,vr,rfl,r1,r2⟩:=r;have h0:=hj j aIm;exact Sl.setL js ts vr (S.set h0.1 (.inl h0.2.1) (r1.weak fun b x=>⟨fun z=>x.1 (by omega),fun z=>x.2.1 (by omega),fun z=>by omega⟩)) (fun i hi=>hj i (aIl _ hi)) r2 h
def eH (js:List Nat) (body:Rho->Option Out):List T->Rho->Option Out
 | [],ρ=>some (.nx ρ)
 | .tup us::ts,ρ=>(setL ρ js us).bind fun ρ1=>(body ρ1).bind fun o=>match o with | .nx ρ'=>eH js body ts ρ' | .ct ρ'=>eH js body ts ρ' | .bk ρ'=>some (.nx ρ') | .rt t=>some (.rt t)
 | _::_,_=>none
def rA (js:List Nat) (fi:Rho->Option (List T)) (body:Rho->Option Out):Rho->Option Out:=fun ρ=>(fi ρ).bind fun ts=>eH js body ts ρ
@[simp] theorem rForT_at (js:List Nat) (fi:Rho->Option (List T)) (body:Rho->Option Out) (ρ:Rho):rA js fi body ρ=(fi ρ).bind fun ts=>eH js body ts ρ:=rfl
theorem VC {js:List Nat}{body:Rho->Option Out}{t:T}{ts:List T}{ρ:Rho}{o:Out}(h:eH js body (t::ts) ρ=some o):∃ us ρ1 o1,t=.tup us/\setL ρ js us=some ρ1/\body ρ1=some o1/\(match o1 with | .nx ρ'=>eH js body ts ρ' | .ct ρ'=>eH js body ts ρ' | .bk ρ'=>some (.nx ρ') | .rt t=>some (.rt t))=some o:=by
 cases t with
 | tup us=>
  obtain⟨ρ1,h1,h⟩:=bind_some h;obtain⟨o1,h2,h⟩:=bind_some h;exact⟨us,ρ1,o1,rfl,h1,h2,h⟩
 | exc _=>cases h
 | dct _=>cases h
 | own _=>cases h
 | non=>cases h
 | bl _=>cases h
 | int _=>cases h
 | str _=>cases h
 | lst _=>cases h
theorem MW {K:PySem.W.Frag}{H:Hp}{A:Addr->Prop}{us:List T}{v:V}(h:Rep K H A (.tup us) v):∃ a xs,v=.ref a/\SqT K H a xs/\RepL K H A us xs:=h.sqT
theorem wZ {X:Cx}{B:Hp}{fl:List Nat}{n:Bool}{l:Nat}{body:List Stmt}{r:Rho->Option Out}{pos p2:Pos}{k m:Nat}(js:List Nat) {iter:Expr}{elts:List Expr}{fi:Rho->Option (List T)}{li:Nat}{sc:Bool}(hp:PassesOwn (model X.prog X.w) X.A X.env X.xe) (hc:X.calm=true) (hi:GI X B fl (.Tuple elts k p2) iter fi li sc)
  (hg:PGs X elts (gNs js)) (hb:GSs X B fl n l body r) (hfl:(js.all fun j=>decide (j<fl.length)&&decide (fl.getD j 1=1))=true) (hli:decide (1<=li)=true)
  (hn:(assignEach elts X.env).length=m:=by rfl) (hst:(assignEach elts X.env).findIdx? (·.1)=none:=by rfl) (hm:js.length=m:=by rfl)
  (hs:∀ x,foldedSetIterable iter X.env x=pure x:=by intro _;rfl):
  GS X B fl n l (.For (.Tuple elts k p2) iter body [] pos) (rA js fi r):=by
 have hfl':∀ j∈js,j<fl.length/\1<=fl.getD j 1/\min (fl.getD j 1) 2<=1:=fun j hj=>by
  have:=aIo.mp hfl j hj;simp only[aIw,decide_eq_true_eq] at this;exact⟨this.1,by omega,by omega⟩
 have hli:=of_decide_eq_true hli;refine gT (yB hp hc hi (xZ hc hg hn hst) hb hs) ?_;rintro D σ H ⟨Ex,ρ,M,o,S,hr,q⟩;obtain⟨ts,hts,hr⟩:=bind_some hr;refine⟨Ex,ρ,M,ts,S,hts,fun J H1 ps s1 rp wk=>?_⟩;refine⟨fun i m σ1 H2=>m=ts.length-i/\i<=ts.length/\∃ ρ1 M1,Sl X.K B fl (ps++Ex) σ1 ρ1 M1 H2/\eH js r (ts.drop i) ρ1=some o,⟨ts.length,by simp,aKo _,ρ,M,(S.grow s1).plus (fun p hp=>(rp p hp).weak fun b x=>⟨fun z=>x.1 (by omega),fun z=>by omega,fun z=>by omega⟩),hr⟩,?_⟩;rintro i m' σ1 H2 ⟨rfl,hi,ρ1,M1,S1,e1⟩;have w:=wk H2 _ (fun p hp=>S1.ex p (List.mem_append_left _ hp)) i
 by_cases hlt:i<ts.length
 ·have et:ts[i]?=some ts[i]:=aIk hlt
  obtain⟨go,yl⟩:=w.1 _ et;rw[aJ9 hlt] at e1;obtain⟨us,ρ2,o1,eu,h0,h1,e1⟩:=VC e1;refine .inr ⟨go,fun σ' H'=>∃ ρ1 M1,Sl X.K B fl (ps++Ex) σ' ρ1 M1 H'/\eH js r (ts.drop (i+1)) ρ1=some o,fun σ' H' ⟨ρ',M',S',e'⟩=>⟨ts.length-(i+1),by omega,rfl,hlt,ρ',M',S',e'⟩,fun y H3 hy=>?_⟩;obtain⟨s23,ry⟩:=yl y H3 hy;have ry':Rep X.K H3 (Ad B H3 M1 1) ts[i] y:=ry.weak fun c hc=>by
   obtain⟨_,hc⟩:=hc;rcases hc with hc | hc
   ·exact⟨fun z=>hc.1 (aKe _),fun z=>by omega,fun z=>by omega⟩
   ·exact⟨fun _ z=>(S1.mB c z).2 hc,fun z=>by omega,fun z=>by omega⟩
  rw[eu] at ry';obtain⟨a,xs,rfl,hsq,rl⟩:=MW ry';have hlen:xs.length=js.length:=by rw[<- rl.length];exact EF js us ρ1 ρ2 h0
  refine⟨a,xs,rfl,hsq,by rw[hlen,hm],hlen,?_⟩;refine⟨ps++Ex,_,M1,o1,(S1.grow s23).setL js us xs hfl' rl h0,h1,?_⟩;cases o1 with
  | nx ρ'=>exact fun σ' M' H' S'=>⟨ρ',M',S',e1⟩
  | ct ρ'=>exact fun σ' M' H' S'=>⟨ρ',M',S',e1⟩
  | bk ρ'=>cases (aIi e1);exact fun σ' M' H' S'=>q σ' M' H' S'.fewer
  | rt t=>cases (aIi e1);exact q
 ·have ei:i=ts.length:=by omega
  subst ei;rw[aJa (aKe _)] at e1;cases (aIi (show some (Out.nx ρ1)=some o from e1));exact .inl ⟨w.2 (aKe _),q σ1 M1 H2 S1.fewer⟩
def eB (js:List Nat) (p:Rho->Option Bool) (f:Rho->Option T) (ρ:Rho):List T->Option (List T)
 | []=>some []
 | .tup us::ts=>(setL ρ js us).bind fun ρ1=>(p ρ1).bind fun b=>if b then (f ρ1).bind fun y=>(eB js p f ρ ts).map (y :: ·) else eB js p f ρ ts
 | _::_=>none
def qP (js:List Nat) (fi:Rho->Option (List T)) (src:List (Option Nat)) (p:Rho->Option Bool) (f:Rho->Option T):Rho->Option T:=fun ρ=>
 (fi ρ).bind fun ts=>(eB js p f (bK src ρ) ts).bind fun us=>if us.length<=cap then some (.lst us) else none
@[simp] theorem fCompT_at (js:List Nat) (fi:Rho->Option (List T)) (src:List (Option Nat)) (p:Rho->Option Bool) (f:Rho->Option T) (ρ:Rho):qP js fi src p f ρ =
 (fi ρ).bind fun ts=>(eB js p f (bK src ρ) ts).bind fun us=>if us.length<=cap then some (.lst us) else none:=rfl
theorem SY {js:List Nat}{p:Rho->Option Bool}{f:Rho->Option T}{ρ:Rho}{t:T}{ts us:List T}(h:eB js p f ρ (t::ts)=some us):
  ∃ xs ρ1 b,t=.tup xs/\setL ρ js xs=some ρ1/\p ρ1=some b/\((b=true/\∃ y r,f ρ1=some y/\eB js p f ρ ts=some r/\us=y::r)\/(b=false/\eB js p f ρ ts=some us)):=by
 cases t with
 | tup xs=>
  obtain⟨ρ1,h1,h⟩:=bind_some h;obtain⟨b,h2,h⟩:=bind_some h;refine⟨xs,ρ1,b,rfl,h1,h2,?_⟩;cases b with
  | true=>
   obtain⟨y,h3,h⟩:=bind_some (show ((f ρ1).bind fun y=>(eB js p f ρ ts).map (y :: ·))=some us from h);cases e:eB js p f ρ ts with
   | none=>rw[e] at h;cases h
   | some r=>rw[e] at h;cases (aIi h);exact .inl ⟨rfl,y,r,h3,rfl,rfl⟩
  | false=>exact .inr ⟨rfl,h⟩
 | exc _=>cases h
 | dct _=>cases h
 | own _=>cases h
 | non=>cases h
 | bl _=>cases h
 | int _=>cases h
 | str _=>cases h
 | lst _=>cases h
structure FlT (X:Cx) (N':List Str) (src:List (Option Nat)) (fl fl':List Nat) (li:Nat) (sc:Bool) (js:List Nat):Prop where
 nd:N'.Nodup
 own:∀ j∈js,src[j]?=some none
 cap:∀ (j i:Nat),src[j]?=some (some i)->fl'.getD j 1=fl.getD i 1
 pos:∀ j∈js,1<=fl'.getD j 1
 le:sc=false->∀ j∈js,fl'.getD j 1<=li
 xN:∀ (j i:Nat),src[j]?=some (some i)->N'[j]?=X.N[i]?/\j<N'.length
 lf:fl'.length=src.length
 lcs:lc fl'<=lc fl\/∀ j,fl'.getD j 1≠0
def HA (N N':List Str) (src:List (Option Nat)) (fl fl':List Nat) (li:Nat) (sc:Bool) (js:List Nat):Bool:=
 sZ N'&&(js.all fun j=>(match src[j]? with | some none=>true | _=>false)&&decide (1<=fl'.getD j 1)&&(sc||decide (fl'.getD j 1<=li)))&&(fl'.length == src.length)&&(src.length == N'.length) &&
 (List.range src.length).all (fun j=>match src[j]? with | some (some i)=>(match N'[j]?,N[i]? with | some a,some b=>a == b | _,_=>false)&&(fl'.getD j 1 == fl.getD i 1) | _=>true)&&(decide (lc fl'<=lc fl) || !fl'.contains 0)
theorem AU {X:Cx}{N':List Str}{src:List (Option Nat)}{fl fl':List Nat}{li:Nat}{sc:Bool}{js:List Nat}(h:HA X.N N' src fl fl' li sc js=true):FlT X N' src fl fl' li sc js:=by
 unfold HA at h;have h8:=KG (aIx.mp h).2;simp only[aIw] at h;obtain⟨⟨⟨⟨⟨h1,h2⟩,h5⟩,h6⟩,h7⟩,_⟩:=h;have key:∀ j i,src[j]?=some (some i)->(N'[j]?=X.N[i]?/\j<N'.length)/\fl'.getD j 1=fl.getD i 1:=fun j i e=>by
  have hj:j<src.length:=(aIn.mp e).1;have t:=aIo.mp h7 j (aIp.mpr hj);rw[e] at t;simp only[aIw] at t;refine⟨⟨?_,by rw[<- eq_of_beq h6];exact hj⟩,eq_of_beq t.2⟩;have t1:=t.1;cases q:N'[j]? with
  | none=>rw[q] at t1;cases t1
  | some a=>
   cases q2:X.N[i]? with
   | none=>rw[q,q2] at t1;cases t1
   | some b=>
    rw[q,q2] at t1;rw[eq_of_beq t1]
 have own:∀ j∈js,src[j]?=some none/\1<=fl'.getD j 1/\(sc=false->fl'.getD j 1<=li):=fun j hj=>by
  have t:=aIo.mp h2 j hj;simp only[aIw,decide_eq_true_eq] at t;refine⟨?_,t.1.2,fun z=>by simpa [z] using t.2⟩;have t1:=t.1.1;cases q:src[j]? with
  | none=>rw[q] at t1;cases t1
  | some o=>
   cases o with
   | none=>rfl
   | some _=>rw[q] at t1;cases t1
 exact⟨jG h1,fun j hj=>(own j hj).1,fun j i e=>(key j i e).2,fun j hj=>(own j hj).2.1,fun z j hj=>(own j hj).2.2 z,fun j i e=>(key j i e).1,eq_of_beq h5,h8⟩
section
variable {X:Cx}{K:PySem.W.Frag}{B H:Hp}{fl fl':List Nat}{src:List (Option Nat)}{N':List Str}{Ex:List (T × V)}{σ σ1:St}{ρ:Rho}{M:List Addr}{li:Nat}{sc:Bool}{js:List Nat}
theorem Sl.block0 (F:FlT X N' src fl fl' li sc js) (S:Sl K B fl Ex σ ρ M H) (h0:∀ j,j ∉ js->σ1[j]?=(dG src σ)[j]?) (hl:σ1.length=src.length):Sl K B fl' Ex σ1 (bK src ρ) M H:=by
 have get:∀ j u,(bK src ρ)[j]?=some (some u)->∃ i,src[j]?=some (some i)/\ρ[i]?=some (some u)/\j ∉ js:=fun j u e=>by
  obtain⟨i,e1,e2⟩:=OI e;exact⟨i,e1,e2,fun z=>by rw[F.own j z] at e1;cases e1⟩
 have put:∀ j i v,j ∉ js->src[j]?=some (some i)->σ[i]?=some (some v)->σ1[j]?=some (some v):=fun j i v hj e1 e2=>by
  rw[h0 j hj];exact OJ e1 e2
 obtain⟨g,hg,ap⟩:=S.mu;refine⟨S.same,fun j u e k=>?_,⟨fun j=>g (((src[j]?).join).getD 0),fun j u e k hm=>?_,fun j j' c d u u' us ws hne e e' k k' hm hm'=>?_⟩,S.ex,S.mB,by rw[hl];exact Nat.le_of_eq F.lf⟩
 ·obtain⟨i,e1,e2,hj⟩:=get j u e
  rw[F.cap j i e1] at k ⊢;obtain⟨v,e3,r3⟩:=S.slot i u e2 k;exact⟨v,put j i v hj e1 e3,r3⟩
 ·obtain⟨i,e1,e2,hj⟩:=get j u e
  rw[F.cap j i e1] at k;obtain⟨v,e4,e5,e6⟩:=hg i u e2 k hm;simp only[show ((src[j]?).join).getD 0=i by rw[e1];rfl];refine⟨v,put j i _ hj e1 e4,e5,fun c us h=>?_⟩;obtain⟨xs,q1,q2,q3⟩:=e6 c us h;rcases F.lcs with lk | lk
  ·exact⟨xs,q1,q2.weak fun b x=>x.le lk,q3⟩
  ·exact absurd ((F.cap j i e1).trans k) (lk j)
 ·obtain⟨i,e1,e2,hj⟩:=get j u e
  obtain⟨i',e1',e2',hj'⟩:=get j' u' e';rw[F.cap j i e1] at k;rw[F.cap j' i' e1'] at k';have hii:j≠j'->i≠i':=fun hjj z=>by
   subst z;have q1:=F.xN j i e1;have q2:=F.xN j' i e1';have:N'[j]?=N'[j']?:=q1.1.trans q2.1.symm;rw[aIk q1.2,aIk q2.2] at this;exact hjj ((List.getElem_inj F.nd).mp (aIi this))
  simp only[show ((src[j]?).join).getD 0=i by rw[e1];rfl,show ((src[j']?).join).getD 0=i' by rw[e1'];rfl];exact ap i i' c d u u' us ws (hne.imp hii id) e2 e2' k k' hm hm'
end
def RM (K:PySem.W.Frag) (H₁:Hp) (J:It) (ps:List (T × V)) (ts:List T) (sc:Bool):Prop:=
 ∀ (H:Hp) (A:Addr->Prop),aK H₁ H->(∀ p∈ps,Rep K H A p.1 p.2)->∀ i:Nat,(∀ t,ts[i]?=some t->J.go i H/\∀ x H',J.yld i H x H'->aK H H'/\Rep K H' (Am sc A H) t x)/\(ts.length<=i->J.stop i H)
def EQ (K:PySem.W.Frag) (B:Hp) (fl:List Nat) (f:Rho->Option (List T)) (l:Nat) (sc:Bool):TI:=fun σ H R=>
 ∃ Ex ρ M ts,Sl K B fl Ex σ ρ M H/\f ρ=some ts/\∀ J H' ps,aK H H'->(∀ p∈ps,Rep K H' (Ad B H M l) p.1 p.2)->RM K H' J ps ts sc->R J H'
def GIc (X:Cx) (B:Hp) (fl:List Nat) (tg e:Expr) (f:Rho->Option (List T)) (l:Nat) (sc:Bool):Prop:=PI X tg e (EQ X.K B fl f l sc)
theorem GI.c {X:Cx}{B:Hp}{fl:List Nat}{tg e:Expr}{f:Rho->Option (List T)}{l:Nat}{sc:Bool}(h:GI X B fl tg e f l sc):GIc X B fl tg e f l sc:=
 tX h fun _ _ _ ⟨Ex,ρ,M,ts,S,hf,q⟩=>⟨Ex,ρ,M,ts,S,hf,fun J H' ps s r w=>q J H' ps s r fun H2 A _ hA=>w H2 A hA⟩
section
variable {X:Cx}{B:Hp}{fl fl':List Nat}{elt iter:Expr}{elts:List Expr}{ifs:List Expr}{scope:Scope}{pos p2:Pos}{N':List Str}{src:List (Option Nat)}{fi:Rho->Option (List T)}{p:Rho->Option Bool}{f:Rho->Option T}{n sc:Bool}{l li k m:Nat}{js:List Nat}
theorem TB (F:FlT X N' src fl fl' li sc js) (hl1':1<=l) (hm:js.length=m) {σ:St}{H:Hp}{Q:VK}(h:tG X.K B fl (qP js fi src p f) true l σ H Q):
  vV (EQ X.K B fl fi li sc) (dG src) (sI X.K m (gNs js)) (tGT X.K B fl' p) (tG X.K B fl' f n l) σ H Q:=by
 obtain⟨Ex,ρ,M,t,S,hf,q⟩:=h;obtain⟨ts,hts,hf⟩:=bind_some hf;obtain⟨fin,hfin,hf⟩:=bind_some hf;split at hf
 rotate_left
 ·cases hf
 rename_i hcap;cases (aIi hf);refine⟨Ex,ρ,M,ts,S,hts,fun J H1 ps s01 rp wk=>?_⟩;intro D hD;refine⟨fun i m σ1 H2=>m=ts.length-i/\i<=ts.length/\aK H1 H2/\σ1.length=src.length/\(∀ j,j ∉ js->σ1[j]?=(dG src σ)[j]?) /\
  ∃ us rest xs,us++rest=fin/\eB js p f (bK src ρ) (ts.drop i)=some rest/\H2 D=some (.lst xs)/\RepL X.K H2 (fun b=>Ad B H M l b/\b≠D) us xs,?_,?_⟩
 ·refine⟨ts.length,by simp,aKo _,cK hD _,by unfold dG;simp,fun _ _=>rfl,[],fin,[],rfl,by simpa using hfin,bN,rfl⟩
 ·rintro i m' σ1 H2 ⟨rfl,hi,s12,hl1,hσ,us,rest,xs,e1,e2,e3,e4⟩
  have hD2:H2 D≠none:=by rw[e3];simp
  have S2:=(S.grow s01).more hD s12 hD2;have rp1:∀ pv∈ps,Rep X.K H1 (fun b=>Ad B H M li b/\b≠D) pv.1 pv.2:=fun pv hpv=>Rep.keep (fun _ _ e=>e) (fun _ _ _ e=>e) (fun b x y=>⟨x,fun z=>y (z ▸ hD)⟩) pv.1 (rp pv hpv);have w:=wk H2 _ s12 (fun pv hpv=>(rp1 pv hpv).grow s12) i
  by_cases hlt:i<ts.length
  ·refine .inr ?_
   have et:ts[i]?=some ts[i]:=aIk hlt;obtain⟨go,yl⟩:=w.1 _ et;refine⟨go,fun x H3 hy=>?_⟩;obtain⟨s23,rx⟩:=yl x H3 hy;rw[aJ9 hlt] at e2;obtain⟨ws,ρ1,b,ew,hset,hb,hcase⟩:=SY e2;have S3:=S2.grow s23;have rx':Rep X.K H3 (Ad B H3 (D::M) (if sc then 2 else min li 2)) ts[i] x:=rx.weak fun c hc=>by
    obtain⟨h0,hc⟩:=hc;rw[if_neg (by rw[h0];simp)];rcases hc with hc | hc
    ·refine⟨fun z w=>?_,fun z=>hc.1.2.1 (by omega),fun z=>by omega⟩
     rcases aIu.mp w with rfl | w
     ·exact hc.2 rfl
     ·exact hc.1.1 (by omega) w
    ·exact⟨fun _ z=>(S2.mB c z).2 hc,fun _=>S2.same.free hc,fun z=>by omega⟩
   rw[ew] at rx';obtain⟨a,vs,rfl,hsq,rl⟩:=MW rx';have hlen:vs.length=js.length:=by rw[<- rl.length];exact EF js ws _ _ hset
   have hjs:∀ j∈js,j<fl'.length/\1<=fl'.getD j 1/\min (fl'.getD j 1) 2<=(if sc then 2 else min li 2):=fun j hj=>by
    refine⟨by rw[F.lf];exact (aIn.mp (F.own j hj)).1,F.pos j hj,?_⟩;cases hsc:sc with
    | true=>simp only[if_true];omega
    | false=>
     have:=F.le hsc j hj;simp only[aJ0,if_false];omega
   have Sb:=(Sl.block0 (σ1:=σ1) F S3 hσ hl1).setL js ws vs hjs rl hset;refine⟨a,vs,rfl,hsq,by rw[hlen,hm],hlen,?_⟩;show tGT X.K B fl' p (jR σ1 js vs) H3 _;refine⟨Ex,_,D::M,b,Sb,hb,fun H5 s35=>?_⟩;have hσ':∀ j,j ∉ js->(jR σ1 js vs)[j]?=(dG src σ)[j]?:=fun j hj=>by rw[NN js vs σ1 j hj];exact hσ j hj
   have hl1'':(jR σ1 js vs).length=src.length:=by rw[NO];exact hl1
   rcases hcase with ⟨rfl,y,r,hy',hr,rfl⟩ | ⟨rfl,hr⟩
   ·refine fS ⟨Ex,_,D::M,y,Sb.grow s35,hy',fun v H6 s56 rv=>?_⟩
    have s26:=(s23.trans s35).trans s56;have e5:=s26 _ _ e3;have hl:xs.length<sizeLine:=by
     rw[<- e4.length];refine gJ (aKf ?_ hcap);rw[<- e1];simp
    refine⟨xs,e5,hl,ts.length-(i+1),by omega,rfl,hlt,?_,hl1'',hσ',us++[y],r,xs++[v],by rw[<- e1];simp,hr,bN,?_⟩
    ·intro c o hc
     have:c≠D:=fun z=>by rw[z,hD] at hc;cases hc
     rw[aU this];exact (s12.trans s26) c o hc
    ·have k1:RepL X.K H6 (fun b=>Ad B H M l b/\b≠D) us xs:=e4.grow s26
     have k2:Rep X.K H6 (fun b=>Ad B H M l b/\b≠D) y v:=by
      have z:=rv.rep (Sb.grow s35);exact z.weak fun c hc=>⟨⟨fun k w=>hc.1 k (aIl _ w),hc.2.1,fun k=>((s01.trans s12).trans (s23.trans s35)).free (hc.2.2 k)⟩,fun w=>hc.1 hl1' (by rw[w];exact aIm)⟩
     exact (RepL.app k1 (RepL.one k2)).keep (fun c _ e=>fY e5 e) (fun c o hc e=>by rw[aU hc.2];exact e) (fun c hc _=>hc) _
   ·refine cY ⟨ts.length-(i+1),by omega,rfl,hlt,(s12.trans s23).trans s35,hl1'',hσ',us,rest,xs,e1,hr,(s23.trans s35) _ _ e3,e4.grow (s23.trans s35)⟩
  ·have ei:i=ts.length:=by omega
   subst ei;refine .inl ⟨w.2 (aKe _),?_⟩;rw[aJa (aKe _)] at e2;cases (aIi (show some []=some rest from e2));rw[List.append_nil] at e1;subst e1;exact q _ H2 (s01.trans s12) ⟨D,xs,rfl,s01.free hD,e3,e4⟩
theorem BB (S:BlkOk X scope N' src) (F:FlT X N' src fl fl' li sc js) (hl1:1<=l) (hc:X.calm=true) (hi:GI X B fl (.Tuple elts k p2) iter fi li sc)
  (hg:∀ cl C s H ex,PG (cxB X scope N' cl C s H ex) (.Tuple elts k p2) (sI X.K m (gNs js))) (hm:js.length=m)
  (hb:∀ cl C s H ex,GIf (cxB X scope N' cl C s H ex) B fl' ifs p/\GE (cxB X scope N' cl C s H ex) B fl' elt f n l)
  (hs:∀ x,foldedSetIterable iter X.env x=pure x:=by intro _;rfl):GE X B fl (.ListComp elt [⟨.Tuple elts k p2,iter,ifs,0⟩] scope pos) (qP js fi src p f) true l:=
 bD (DF (wi:=EQ X.K B fl fi li sc) (g:=sI X.K m (gNs js)) (tc:=tGT X.K B fl' p) (te:=tG X.K B fl' f n l) S hc hi.c (fun cl C s H ex=>⟨hg cl C s H ex,(hb cl C s H ex).1,(hb cl C s H ex).2⟩) hs) fun σ H Q h=>TB F hl1 hm h
end
theorem pgT {X:Cx}{elts:List Expr}{k m:Nat}{p2:Pos}{js:List Nat}(hc:X.calm=true) (h:PGs X elts (gNs js)) (hn:(assignEach elts X.env).length=m:=by rfl) (hst:(assignEach elts X.env).findIdx? (·.1)=none:=by rfl):PG X (.Tuple elts k p2) (sI X.K m (gNs js)):=xZ hc h hn hst
def XX:Expr->Option Int
 | .Constant (.int i) _ _=>some i
 | _=>none
def xC:List Expr->Option (List Int)
 | []=>some []
 | e::es=>(XX e).bind fun i=>(xC es).map (i :: ·)
theorem IW {X:Cx}{B:Hp}{fl:List Nat}:∀ (es:List Expr) (ns:List Int),xC es=some ns->GA X B fl es (fun _=>some (tI ns)) 3
 | [],ns,h=>by
  cases (aIi h);exact aH
 | e::es,ns,h=>by
  obtain⟨i,h1,h⟩:=bind_some h;cases h2:xC es with
  | none=>rw[h2] at h;cases h
  | some ms=>
   rw[h2] at h;cases (aIi h);have ih:=IW (X:=X) (B:=B) (fl:=fl) es ms h2;cases e<;>first | (cases h1;done) | skip
   rename_i c j pos;cases c<;>first | (cases h1;done) | skip
   cases (aIi h1);have:=aF (X:=X) (B:=B) (fl:=fl) (ge_int (i:=i) (j:=j) (pos:=pos)) ih (by rfl);exact this
theorem VP {X:Cx}{B:Hp}{fl:List Nat}{es:List Expr}{pos:Pos}{ns:List Int}(h:xC es=some ns) (hl:decide (ns.length<=cap)=true):GE X B fl (.List es pos) (fC (.lst (tI ns))) true 3:=by
 refine bD (eI (B:=B) (fl:=fl) (IW es ns h)) ?_;rintro σ H Q ⟨Ex,ρ,M,t,S,hf,q⟩;refine⟨Ex,ρ,M,t,S,?_,q⟩;cases (aIi hf);show (if (tI ns).length<=cap then some (T.lst (tI ns)) else none)=_;rw[if_pos (by rw[tI_length];exact of_decide_eq_true hl)]
@[simp] theorem setL_nil (ρ:Rho):setL ρ [] []=some ρ:=rfl
@[simp] theorem setL_cons (ρ:Rho) (j:Nat) (js:List Nat) (t:T) (ts:List T):setL ρ (j::js) (t::ts)=setL (ρ.set j (some t)) js ts:=rfl
theorem HE {f:Rho->Option T}{ρ:Rho}(h:Int->Int->Int) (h2:∀ x y:Int,f ((ρ.set 0 (some (.int x))).set 1 (some (.int y)))=some (.int (h x y))):∀ (ns ms:List Int),eB [0,1] aO f ρ (kS (tI ns) (tI ms))=some (tI (List.zipWith h ns ms))
 | [],_=>rfl
 | _::_,[]=>rfl
 | n::ns,m::ms=>by
  have ih:=HE h h2 ns ms;show (setL ρ [0,1] [.int n,.int m]).bind _=_;simp only[setL_cons,setL_nil,aKq,aO,if_true];rw[h2 n m];show ((eB [0,1] aO f ρ (kS (tI ns) (tI ms))).map (T.int (h n m) :: ·))=_;rw[ih]
  rfl
theorem AX {j:Nat}{body:Rho->Option Out}(I:Rho->Prop) (c:T->Option T):∀ ts:List T,(∀ t∈ts,∀ ρ,I ρ->(c t=none/\∃ ρ',body (ρ.set j (some t))=some (.nx ρ')/\I ρ')\/(∃ r,c t=some r/\body (ρ.set j (some t))=some (.rt r)))->∀ ρ,I ρ ->
  (ts.findSome? c=none/\∃ ρ',dJ j body ts ρ=some (.nx ρ')/\I ρ')\/(∃ r,ts.findSome? c=some r/\dJ j body ts ρ=some (.rt r))
 | [],_,ρ,h=>.inl ⟨rfl,ρ,rfl,h⟩
 | t::ts,hb,ρ,h=>by
  rw[AW];rcases hb t aIm ρ h with ⟨h1,ρ',h2,h3⟩ | ⟨r,h1,h2⟩
  ·rw[h2]
   simp only[aKq,aJd,h1];exact AX I c ts (fun u hu=>hb u (aIl _ hu)) ρ' h3
  ·rw[h2]
   simp only[aKq,aJd,h1];exact .inr ⟨r,rfl,rfl⟩
theorem IU {js:List Nat}{body:Rho->Option Out}(I:Rho->Prop) (c:T->Option T):∀ ts:List T,(∀ t∈ts,∀ ρ,I ρ->∃ us ρ1,t=.tup us/\setL ρ js us=some ρ1/\((c t=none/\∃ ρ',body ρ1=some (.nx ρ')/\I ρ')\/(∃ r,c t=some r/\body ρ1=some (.rt r))))->∀ ρ,I ρ ->
  (ts.findSome? c=none/\∃ ρ',eH js body ts ρ=some (.nx ρ')/\I ρ')\/(∃ r,ts.findSome? c=some r/\eH js body ts ρ=some (.rt r))
 | [],_,ρ,h=>.inl ⟨rfl,ρ,rfl,h⟩
 | t::ts,hb,ρ,h=>by
  obtain⟨us,ρ1,rfl,hs,hc⟩:=hb t aIm ρ h;have e:eH js body (.tup us::ts) ρ=(body ρ1).bind fun o=>match o with | .nx ρ'=>eH js body ts ρ' | .ct ρ'=>eH js body ts ρ' | .bk ρ'=>some (.nx ρ') | .rt t=>some (.rt t):=by
   show (setL ρ js us).bind _=_;rw[hs];rfl
  rw[e];rcases hc with ⟨h1,ρ',h2,h3⟩ | ⟨r,h1,h2⟩
  ·rw[h2]
   simp only[aKq,aJd,h1];exact IU I c ts (fun u hu=>hb u (aIl _ hu)) ρ' h3
  ·rw[h2]
   simp only[aKq,aJd,h1];exact .inr ⟨r,rfl,rfl⟩
theorem IF (ns:List Int):fF 0 (tI ns)=(List.range ns.length).map fun p=>.tup [.int (p:Int),.int (ns.getD p 0)]:=by
 apply List.ext_getElem?
 intro i;rw[AL,aFd,aJk,Nat.zero_add]
 by_cases h:i<ns.length
 ·rw[List.getElem?_range h,aIk h]
  simp[aIj,h]
 ·rw[List.getElem?_eq_none (Nat.le_of_not_lt h),List.getElem?_eq_none (by simpa using h)];rfl
theorem IL {α β:Type}(q:α->Bool) (g:α->β):∀ l:List α,l.findSome? (fun x=>if q x then some (g x) else none)=(l.find? q).map g
 | []=>rfl
 | a::l=>by
  rw[aJd,List.find?_cons];cases q a with
  | true=>rfl
  | false=>exact IL q g l
theorem wM {α β:Type}{f g:α->Option β}:∀ {l:List α},(∀ x∈l,f x=g x)->l.findSome? f=l.findSome? g
 | [],_=>rfl
 | a::l,h=>by
  rw[aJd,aJd,h a aIm,wM fun x hx=>h x (aIl _ hx)]
section
variable {X:Cx}{B:Hp}{fl:List Nat}{e:Expr}{es:List Expr}{f:Rho->Option T}{fa:Rho->Option (List T)}{n n':Bool}{l l' k:Nat}{pos p' p2:Pos}{x:Str}{ps:List Str}{F:List T->Option T}
theorem sJ {i:Int}(hg:Gl X x) (hm:∃ tk,X.mg x=some (.int i tk)) (hd:(x == ("__debug__" : Str))=false:=by decide):GE X B fl (.Name x pos) (fC (.int i)) true 3:=by
 obtain⟨tk,hm⟩:=hm;refine bD (LM (v:=.int i) hg hm ⟨tk,rfl⟩ hd) ?_;rintro σ H Q ⟨Ex,ρ,M,t,S,hf,q⟩;cases (aIi hf);exact q _ H (aK.refl H) ((aM.scal rfl).mpr rfl)
variable {a b:Expr}{g:Rho->Option T}
def gU (f:Rho->Option T):Rho->Option Out:=fun ρ=>(f ρ).map fun _=>.nx ρ
theorem mF (he:GE X B fl e f n' l') (hs:swapsWith e none pos.line X.env=pure false:=by rfl):GS X B fl n l (.Expr e pos) (gU f):=by
 refine gT (yA he hs) ?_;rintro D σ H ⟨Ex,ρ,M,o,S,hr,q⟩;unfold gU at hr;cases e1:f ρ with
 | none=>rw[e1] at hr;cases hr
 | some t=>
  rw[e1] at hr;cases (aIi hr);exact⟨Ex,ρ,M,t,S,e1,fun v H1 s1 rx=>q _ M H1 (S.grow s1)⟩
end
@[simp] theorem rDrop_at (f:Rho->Option T) (ρ:Rho):gU f ρ=(f ρ).map fun _=>.nx ρ:=id rfl
theorem SC (g k:Nat):(g / 2^k%2 == 1)=g.testBit k:=by
 rw[Nat.testBit_eq_decide_div_mod_eq];rw[aIz];simp
theorem UY {a b:Nat}(h:∀ i,a.testBit i=b.testBit i):a=b:=Nat.eq_of_testBit_eq h
def gvS (row:List Int):List Nat->Nat->Int
 | [],_=>0
 | k::ks,g=>(if g.testBit k then row.getD k 0 else 0)+gvS row ks g
def gv (row:List Int) (g:Nat):Int:=gvS row (List.range row.length) g
theorem JL (row:List Int) (g:Nat):∀ ks:List Nat,((ks.filter fun k=>g / 2^k%2 == 1).map fun k=>row.getD k 0).sum=gvS row ks g
 | []=>rfl
 | k::ks=>by
  have ih:=JL row g ks;rw[List.filter_cons,gvS,<- ih,SC];cases g.testBit k<;>simp
theorem JM (row:List Int) (a b:Nat):∀ ks:List Nat,gvS row ks (a|||b)+gvS row ks (a&&&b)=gvS row ks a+gvS row ks b
 | []=>rfl
 | k::ks=>by
  have ih:=JM row a b ks;simp only[gvS,Nat.testBit_or,Nat.testBit_and];generalize row.getD k 0=x;cases a.testBit k<;>cases b.testBit k<;>simp<;>lia
theorem WZ (row:List Int) (a b:Nat):gv row (a|||b)+gv row (a&&&b)=gv row a+gv row b:=JM row a b _
def Sub (n:Nat) (t:List Int):Prop:=∀ a b,a<2^n->b<2^n->t.getD (a|||b) 0+t.getD (a&&&b) 0<=t.getD a 0+t.getD b 0
def dH (g:Nat):Nat:=g%2+g / 2%2+g / 4%2+g / 8%2+g / 16%2+g / 32%2
def mn (a:Nat) (m:Int):Int:=if m<(a:Int) then m else (a:Int)
def sq (k:Nat):Nat:=dH k*dH k
theorem aA5 {x:T}(h:dep x<=60):oEq x x=some (.bl true):=by unfold oEq;rw[if_pos (by lia),AO]
theorem KZ {x:T}(h:dep x<=60):oNe x x=some (.bl false):=by unfold oNe;rw[if_pos (by lia),AO];rfl
@[simp] theorem oLen_tup (ts:List T):cD [.tup ts]=some (.int ts.length):=rfl
@[simp] theorem oList_tup (ts:List T):KW [.tup ts]=some (.lst ts):=rfl
def tP {α:Type} (tp:α->List T) (xs:List α):List T:=xs.map fun x=>.tup (tp x)
theorem HH {α:Type}{f:Rho->Option T}{ρ:Rho}(P:α->Prop) (tp:α->T) (h:∀ i:Int,∃ x,P x/\f (ρ.set 0 (some (.int i)))=some (tp x)):∀ ns:List Int,∃ xs:List α,bC aO f ρ (tI ns)=some (xs.map tp)/\xs.length=ns.length/\∀ x∈xs,P x
 | []=>⟨[],rfl,rfl,fun x hx=>by cases hx⟩
 | n::ns=>by
  obtain⟨x,px,e⟩:=h n;obtain⟨xs,e2,hl,hP⟩:=HH P tp h ns;refine⟨x::xs,?_,by simp[hl],fun y hy=>?_⟩
  ·rw[tI_cons]
   unfold bC;simp[e,e2]
  ·rcases aIu.mp hy with rfl | hy
   ·exact px
   ·exact hP y hy
theorem AG {α:Type}{js:List Nat}{p:Rho->Option Bool}{f:Rho->Option T}{ρ:Rho}(tp:α->List T) (c:α->Bool) (h:α->T):∀ xs:List α,(∀ x∈xs,∃ ρ1,setL ρ js (tp x)=some ρ1/\p ρ1=some (c x)/\(c x=true->f ρ1=some (h x)))->eB js p f ρ (tP tp xs)=some ((xs.filter c).map h)
 | [],_=>rfl
 | x::xs,hx=>by
  have ih:=AG tp c h xs fun y hy=>hx y (aIl _ hy);obtain⟨ρ1,e1,e2,e3⟩:=hx x aIm;show (setL ρ js (tp x)).bind _=_;rw[e1,aKq,e2,aKq,List.filter_cons];cases hc:c x with
  | true=>
   rw[if_pos rfl,if_pos rfl,e3 hc,aKq];show ((eB js p f ρ (tP tp xs)).map _)=_;rw[ih];rfl
  | false=>
   rw[if_neg (by decide),if_neg (by decide)];exact ih
theorem AV {α:Type}{js:List Nat}{body:Rho->Option Out}(tp:α->List T) (I:List α->Rho->Prop):∀ (xs ys:List α),(∀ x∈xs,∀ ys ρ,I ys ρ->∃ ρ1 ρ',setL ρ js (tp x)=some ρ1/\body ρ1=some (.nx ρ')/\I (ys++[x]) ρ')->∀ ρ,I ys ρ->∃ ρ',eH js body (tP tp xs) ρ=some (.nx ρ')/\I (ys++xs) ρ'
 | [],ys,_,ρ,h=>⟨ρ,rfl,by simpa using h⟩
 | x::xs,ys,hx,ρ,h=>by
  obtain⟨ρ1,ρ',e1,e2,h2⟩:=hx x aIm ys ρ h;obtain⟨ρ'',e3,h3⟩:=AV tp I xs (ys++[x]) (fun y hy=>hx y (aIl _ hy)) ρ' h2;refine⟨ρ'',?_,by simpa using h3⟩;show (setL ρ js (tp x)).bind _=_;rw[e1,aKq,e2];exact e3
theorem IS {α:Type}(tp:α->List T) (h:∀ x,imL (tp x)=true) (xs:List α):cC (tP tp xs)=true:=by
 unfold cC tP;rw[aIo];intro t ht;obtain⟨x,_,rfl⟩:=aK4.mp ht;unfold im;exact h x
theorem sU {ts:List T}(h:cC ts=true):jD (.lst ts)=some ts:=by simp[jD,h]
theorem sY {m g:Nat}{f:Nat->Int}(h:g<m):((List.range m).map f).getD g 0=f g:=by
 simp[aIj,h]
theorem EO {n:Nat}{f:Nat->Int}(h:∀ a b,a<2^n->b<2^n->f (a|||b)+f (a&&&b)<=f a+f b):Sub n ((List.range (2^n)).map f):=fun a b ha hb=>by
 rw[sY (Nat.or_lt_two_pow ha hb),sY (Nat.lt_of_le_of_lt Nat.and_le_left ha),sY ha,sY hb];exact h a b ha hb
def eS:List (Int × Nat)->Nat->Int
 | [],_=>0
 | p::ps,g=>(if p.2&&&g != 0 then p.1 else 0)+eS ps g
theorem HI (g:Nat):∀ ps:List (Int × Nat),((ps.filter fun p=>p.2&&&g != 0).map fun p=>p.1).sum=eS ps g
 | []=>rfl
 | p::ps=>by
  have ih:=HI g ps;rw[List.filter_cons,eS,<- ih];cases (p.2&&&g != 0)<;>simp
theorem HJ (a b:Nat):∀ ps:List (Int × Nat),(∀ p∈ps,0<=p.1)->eS ps (a|||b)+eS ps (a&&&b)<=eS ps a+eS ps b
 | [],_=>by simp[eS]
 | p::ps,h=>by
  have ih:=HJ a b ps fun q hq=>h q (aIl _ hq);have hp:=h p aIm;simp only[eS];have e1:p.2&&&(a|||b)=(p.2&&&a)|||(p.2&&&b):=Nat.and_or_distrib_left ..;have e2:p.2&&&(a&&&b)=(p.2&&&a)&&&b:=(Nat.and_assoc ..).symm;have e3:p.2&&&(a&&&b)=(p.2&&&b)&&&a:=by rw[Nat.and_comm a b,Nat.and_assoc]
  by_cases h1:p.2&&&a=0
  ·have z:p.2&&&(a&&&b)=0:=by rw[e2,h1,Nat.zero_and]
   rw[h1,Nat.zero_or] at e1;rw[e1,z,h1];simp;lia
  ·by_cases h2:p.2&&&b=0
   ·have z:p.2&&&(a&&&b)=0:=by rw[e3,h2,Nat.zero_and]
    rw[h2,Nat.or_zero] at e1;rw[e1,z,h2];simp;lia
   ·have n1:(p.2&&&a != 0)=true:=by simpa using h1
    have n2:(p.2&&&b != 0)=true:=by simpa using h2
    rw[n1,n2,if_pos rfl];have:=ite_le2 (p.2&&&(a|||b) != 0) hp;have:=ite_le2 (p.2&&&(a&&&b) != 0) hp;lia
where ite_le2 (c:Bool) {x:Int} (h:0<=x):(if c then x else 0)<=x:=by cases c<;>simp<;>lia
def kA (g:Nat) (p:Nat × Nat × Int):Bool:=g.testBit p.1 && !g.testBit p.2.1
def eU:List (Nat × Nat × Int)->Nat->Int
 | [],_=>0
 | p::ps,g=>(if kA g p then p.2.2 else 0)+eU ps g
theorem HK (g:Nat):∀ ps:List (Nat × Nat × Int),((ps.filter fun p=>kA g p).map fun p=>p.2.2).sum=eU ps g
 | []=>rfl
 | p::ps=>by
  have ih:=HK g ps;rw[List.filter_cons,eU,<- ih];cases kA g p<;>simp
theorem HL (a b:Nat):∀ ps:List (Nat × Nat × Int),(∀ p∈ps,0<=p.2.2)->eU ps (a|||b)+eU ps (a&&&b)<=eU ps a+eU ps b
 | [],_=>by simp[eU]
 | p::ps,h=>by
  have ih:=HL a b ps fun q hq=>h q (aIl _ hq);have hp:=h p aIm;simp only[eU,kA,Nat.testBit_or,Nat.testBit_and];generalize p.2.2=w at hp;rcases Bool.eq_false_or_eq_true (a.testBit p.1) with h1 | h1<;>rcases Bool.eq_false_or_eq_true (b.testBit p.1) with h2 | h2<;>rcases Bool.eq_false_or_eq_true (a.testBit p.2.1) with h3 | h3<;>rcases Bool.eq_false_or_eq_true (b.testBit p.2.1) with h4 | h4<;>simp[h1,h2,h3,h4]<;>lia
theorem aGf (g k:Nat):((2^k&&&g:Nat) == 2^k)=g.testBit k:=by
 rw[aIz,beq_iff_eq]
 constructor
 ·intro h
  have:=congrArg (fun x=>x.testBit k) h
  simpa [Nat.testBit_and,Nat.testBit_two_pow_self] using this
 ·intro h
  refine UY fun i=>?_;rw[Nat.testBit_and,Nat.testBit_two_pow]
  by_cases hk:k=i
  ·subst hk;simp[h]
  ·simp[hk]
section
variable {n:Nat}{f g:List Int}
end
def upT (n:Nat):List Int:=(List.range n).map fun (i:Nat)=>(i:Int)
@[simp] theorem upT_length (n:Nat):(upT n).length=n:=by simp[upT]
section
variable {X:Cx}{B:Hp}{fl:List Nat}{a:Expr}{fa:Rho->Option (List T)}{l:Nat}{pos:Pos}
end
section
variable {X:Cx}{B:Hp}{fl:List Nat}{a b:Expr}{f g:Rho->Option T}{n n':Bool}{l l':Nat}{pos:Pos}
def aA7:T->T->Option T
 | .bl a,.bl b=>some (.bl (a == b))
 | _,_=>none
def qZ:T->T->Option T
 | .bl a,.bl b=>some (.bl (!(a == b)))
 | _,_=>none
theorem aBu:OpR X (compareOp .IsNot) (fun x y H Q=>∃ a b,x=.bl a/\y=.bl b/\Q (.bl (!(a == b))) H):=by
 intro pins s σ H x y v u Q I rx ry h;obtain⟨a,b,rfl,rfl,q⟩:=h;cases rx;cases ry;exact wpAny_pure (bV I q (by cases a<;>cases b<;>rfl))
theorem WO {K:PySem.W.Frag}:GOp K (fun x y H Q=>∃ a b,x=.bl a/\y=.bl b/\Q (.bl (!(a == b))) H) qZ:=by
 intro x y t h;cases x<;>first | (cases h;done) | skip
 cases y<;>first | (cases h;done) | skip
 cases (aIi h);exact⟨rfl,fun H A A' vx vy rx ry Q q=>⟨_,_,rx,ry,q⟩⟩
theorem WY (ha:GE X B fl a f n l) (hb:GE X B fl b g n' l'):GT X B fl (.Compare a [.IsNot] [b] pos) (fB (f2 f g qZ)):=kD aBu WO ha hb (eE _)
@[simp] theorem oIsNotB_bl (a b:Bool):qZ (.bl a) (.bl b)=some (.bl (!(a == b))):=rfl
@[simp] theorem oIsB_bl (a b:Bool):aA7 (.bl a) (.bl b)=some (.bl (a == b)):=rfl
end
def YC:T->Bool
 | .lst _=>true
 | _=>false
@[simp] theorem isLs_lst (ts:List T):YC (.lst ts)=true:=id rfl
section
variable {X:Cx}{B:Hp}{fl:List Nat}{e:Expr}{es:List Expr}{fa:Rho->Option (List T)}{l:Nat}{pos p':Pos}{x:Str}
end
section
variable {P:Program}{w:World}{K:PySem.W.Frag}{mg:Str->Option Value}{base:Heap}
end
section
variable {X:Cx}{B:Hp}{fl:List Nat}{e:Expr}{es:List Expr}{fa:Rho->Option (List T)}{n:Bool}{l l' k:Nat}{pos p':Pos}{x:Str}{ps:List Str}{F:List T->Option T}
end
section
variable {X:Cx}{B:Hp}{fl:List Nat}{e kv:Expr}{f g:Rho->Option T}{n n':Bool}{l l':Nat}{pos p kpos:Pos}
end
section
variable {X:Cx}{B:Hp}{fl:List Nat}{e:Expr}{es:List Expr}{f:Rho->Option T}{fa:Rho->Option (List T)}{n n':Bool}{l l':Nat}{pos p' p2:Pos}{x:Str}
theorem SE:eY X (.builtin "abs") (fun xs H Q=>∃ i:Int,xs=[.int i]/\Q (.int (if i<0 then -i else i)) H):=by
 intro pins s σ H xs us Q I r h;obtain⟨i,rfl,q⟩:=h;obtain⟨u,rfl,t,rfl⟩:=gD r;exact call_abs_int fun u tk=>⟨.int _,H,I.tok _,⟨_,rfl⟩,q⟩
def xI:List T->Option T
 | [.int i]=>some (.int (if i<0 then -i else i))
 | _=>none
theorem aA4 (i:Int):xI [.int i]=some (.int (i.natAbs:Int)):=by
 show some (T.int (if i<0 then -i else i))=_
 congr 2
 split<;>lia
theorem VJ (hx:x = "abs") (hg:Gl X x) (hm:X.mg x=none) (ha:GA X B fl (e::es) fa l)
  (he:starEach (e::es) X.env=(false,eval e X.env)::starEach es X.env:=by rfl) (hpl:(backTo pos (starEach es X.env)).any (·.1)=false:=by rfl):GE X B fl (.Call (.Name x p') (e::es) [] pos) (aG fa xI) true 3:=by
 subst hx;refine bD (gQ SE hg hm PyProof.Rows.boot_abs ha (by decide) (by decide) he hpl) ?_;rintro σ H Q ⟨Ex,ρ,M,t,S,hf,q⟩;obtain⟨ts,hts,hf⟩:=bind_some hf;refine⟨Ex,ρ,M,ts,S,hts,fun vs H1 s1 r1=>?_⟩
 match ts,hf with
 | [.int i],hf=>
  cases (aIi hf);obtain⟨y,rfl,ry⟩:=dR r1;cases (show _=_ from ry);exact⟨i,rfl,q _ H1 s1 ((aM.scal rfl).mpr rfl)⟩
end
end G
namespace G
section
variable {n:Nat}{t w:List Int}
end
end G
namespace G
section
variable {n:Nat}{t w:List Int}
end
end G
namespace G
open PySem PySem.Spec PyProof.Rows L2
section
variable {X:Cx}{B:Hp}{fl:List Nat}{k:Expr}{fk:Rho->Option T}{n nk:Bool}{l lk:Nat}{pos pos' pos2:Pos}{x y:Str}
end
abbrev FA (K:PySem.W.Frag) (x:Str) (f:Addr):Prop:=PySem.W.nsIn K mainGlobals x=some (some (.ref f))
abbrev FL (K:PySem.W.Frag) (f:Addr) (x:Str) (st:Stmt) (df oc:Value) (od:Option Addr) (kV dc pm:Value) (an:Option Addr) (cd ct:Value) (sl:Array (Option Value)):Prop:=K.lookup f=some ⟨oc,od,.func (PySem.W.fnOf x x (defArgs st) (defBody st) (defScope st) df kV dc pm an cd ct),sl⟩
abbrev FC (K:PySem.W.Frag) (cd:Value) (x:Str):Prop:=PySem.W.codeIn K cd x=true
abbrev FK (K:PySem.W.Frag) (f:Addr):Prop:=PySem.W.keepIn K (.ref f)=true
theorem zz0 {α:Type _}{a:α}{l:List α}:(a::l)[0]?=some a:=List.getElem?_cons_zero
theorem zz1 {α:Type _}{a:α}{i:Nat}{l:List α}:(a::l)[i+1]?=l[i]?:=List.getElem?_cons_succ
theorem zz2 {α β:Type _}(a:α) (f:α->Option β):(some a).bind f=f a:=aKq a f
theorem zz3 {α β:Type _}(a:α) (f:α->β):(some a).map f=some (f a):=Option.map_some ..
end G
namespace G
section
variable {n:Nat}{t w:List Int}
end
end G
namespace G
open PySem PySem.Spec PyProof.Rows L2
section
variable {X:Cx}{B:Hp}{fl:List Nat}{n:Bool}{l l':Nat}{e:Expr}{f:Rho->Option T}{x y:Str}{pos pos':Pos}
end
section
variable {X:Cx}{B:Hp}{fl:List Nat}{n n':Bool}{l l' k:Nat}{e:Expr}{es:List Expr}{f:Rho->Option T}{fa:Rho->Option (List T)}{x y:Str}{ps:List Str}{F:List T->Option T}{pos pos' p' cpos:Pos}
end
def aC8:Out->Option T
 | .rt t=>some t
 | _=>none
@[simp] theorem outO_rt (t:T):aC8 (.rt t)=some t:=id rfl
end G
set_option maxRecDepth 100000
namespace HD
open PySem PySem.W PySem.Calls PyProof.Rows
noncomputable def uB (thr ok:Thread->Bool) (stp:SharedT->Thread->Option (SharedT × Thread)) (n:Nat):SharedT->Thread->Option SharedT:=
 @Nat.rec (fun _=>SharedT->Thread->Option SharedT) (fun _ _=>none)
  (fun _ ih s t=>@Bool.rec (fun _=>Option SharedT) (@Bool.rec (fun _=>Option SharedT) none
   (@Option.rec (SharedT × Thread) (fun _=>Option SharedT) none (fun r=>ih r.1 r.2) (stp s t)) (ok t)) (some s) (thr t)) n
theorem MY {tb:String->Option Builtin}{p:Program}{w:World}{n₀:Nat}{ann:Option Value}:∀ {n:Nat}{s s':SharedT}{t:Thread},
  uB through (stepOk n₀ ann) (stepT (denote tb) p w) n s t=some s'->topRun tb p w n₀ ann n s.abs t=some s'.abs
 | 0,_,_,_,h=>by cases h
 | n+1,s,s',t,h=>by
  have e:uB through (stepOk n₀ ann) (stepT (denote tb) p w) (n+1) s t=@Bool.rec (fun _=>Option SharedT) (@Bool.rec (fun _=>Option SharedT) none
   (@Option.rec (SharedT × Thread) (fun _=>Option SharedT) none (fun r=>uB through (stepOk n₀ ann) (stepT (denote tb) p w) n r.1 r.2) (stepT (denote tb) p w s t)) (stepOk n₀ ann t)) (some s) (through t):=rfl
  rw[e] at h;unfold topRun;cases h1:through t with
  | true=>rw[h1] at h;cases h;rfl
  | false=>
   rw[h1] at h;cases h2:stepOk n₀ ann t with
   | false=>rw[h2] at h;cases h
   | true=>
    rw[h2] at h;cases h3:stepT (denote tb) p w s t with
    | none=>rw[h3] at h;cases h
    | some r=>
     obtain⟨s₂,t₂⟩:=r;rw[h3] at h;rw[stepT_spec h3];exact MY h
theorem YS {p q:Program}{loose:List Str}{Xt:Shared->Bool}{α:Type}{Yf:Shared->α}{Ya:World->α}{N:Nat}{g0:Bool}{B:Params->BT}{b:Nat}{life:Life}{m₀:Nat}{ann:Option Value}{M:Nat}
  (open_:∀ w:World,(fencedOpening treeTable p w N).map (fun s=>(s.heap,s.gens,s.drawn,s.toks))=some (boot_heap w.params,Array.mk [],boot_drawn,boot_toks))
  (hb:∀ P:Params,absHeap (B P) b life=boot_heap P)
  (size:∀ w:World,((boot_heap w.params).isNs mainGlobals&&(Array.mk []:Array GenState).size == 0,(boot_heap w.params).objs.size,(boot_heap w.params).nsMap mainGlobals "__annotations__")=(true,m₀,ann))
  (le:Nat.ble M N=true)
  (ev:∀ (w:World) (os:OsState),(uB through (stepOk m₀ ann) (stepT (denote treeTable) p w) M ⟨B w.params,b,life,Array.mk [],boot_drawn,boot_toks,os⟩ (topStub p)).map (fun s=>
    ((staticsOk (importedModules p.main.body) (boot_heap w.params) s.abs.heap&&namesBound p s.abs.heap&&gensDone s.abs&&laidKept (boot_heap w.params) s.abs.heap),
    openSeen q loose (importedModules p.main.body) Xt g0 s.abs,Yf s.abs))=some (true,openGood q loose,Ya w)):LeftO p q loose Xt Yf Ya N g0:=fun w=>by
 obtain⟨⟨h,gs,d,k,os⟩,e,e'⟩:=Option.map_eq_some_iff.mp (open_ w);obtain⟨rfl,rfl,rfl,rfl⟩:h=boot_heap w.params/\gs=Array.mk []/\d=boot_drawn/\k=boot_toks:=by simpa using e'
 obtain⟨z1,z2,z3⟩:_/\_/\_:=by simpa only [Prod.mk.injEq] using size w
 obtain⟨s₁,r0,r1⟩:=Option.map_eq_some_iff.mp (ev w os);obtain⟨l1,l2,l3⟩:_/\_/\_:=by simpa only [Prod.mk.injEq] using r1
 have r:=topRun_mono (N-M) _ _ _ _ (MY r0);rw[show M+(N-M)=N by have:=Nat.le_of_ble_eq_true le;lia] at r;have r:topRun treeTable p w m₀ ann N ⟨absHeap (B w.params) b life,Array.mk [],boot_drawn,boot_toks,os⟩ (topStub p)=some s₁.abs:=r;rw[hb] at r;have t:topFrom treeTable p w N ⟨boot_heap w.params,Array.mk [],boot_drawn,boot_toks,os⟩=some s₁.abs:=by
  unfold topFrom;dsimp only;rw[z1,z2,z3,r];show (match staticsOk (importedModules p.main.body) (boot_heap w.params) s₁.abs.heap&&namesBound p s₁.abs.heap&&gensDone s₁.abs&&laidKept (boot_heap w.params) s₁.abs.heap with | true=>_ | false=>_)=_
  rw[l1]
 unfold openEnds;rw[e];show (topFrom treeTable p w N _).map _=_;rw[t];exact congrArg some (Prod.ext l2 l3)
noncomputable def bT (P:Params):BT:=(BT.node (boot_o_0 P) (BT.node (boot_o_1 P) (BT.node (boot_o_3 P) (BT.node (boot_o_7 P) BT.nil BT.nil) BT.nil) (BT.node (boot_o_5 P) (BT.node (boot_o_9 P) BT.nil BT.nil) BT.nil)) (BT.node (boot_o_2 P) (BT.node (boot_o_4 P) (BT.node (boot_o_8 P) BT.nil BT.nil) BT.nil) (BT.node (boot_o_6 P) (BT.node (boot_o_10 P) BT.nil BT.nil) BT.nil)))
theorem RZ:∀ P:Params,absHeap (bT P) 11 {}=boot_heap P:=fun P=>by kernel_rfl
theorem SA:∀ w:World,((boot_heap w.params).isNs mainGlobals&&(Array.mk []:Array GenState).size == 0,(boot_heap w.params).objs.size,(boot_heap w.params).nsMap mainGlobals "__annotations__")=(true,11,some (.ref 6)):=fun w=>by kernel_rfl
theorem left_of {p q:Program}{loose:List Str}{Xt:Shared->Bool}{α:Type}{Yf:Shared->α}{Ya:World->α}{N:Nat}
  (open_:∀ w:World,(fencedOpening treeTable p w N).map (fun s=>(s.heap,s.gens,s.drawn,s.toks))=some (boot_heap w.params,Array.mk [],boot_drawn,boot_toks))
  (ev:∀ (w:World) (os:OsState),(uB through (PySem.W.Fast.tw6613529449190102663 11 (some (.ref 6))) (PySem.W.Fast.tw10156331382660048174 (PySem.W.Fast.tw11892475500146522536 PySem.W.Fast.tw14364793385576792824) p w) N ⟨bT w.params,11,{},Array.mk [],boot_drawn,boot_toks,os⟩ (topStub p)).map (fun s=>
    ((staticsOk (importedModules p.main.body) (boot_heap w.params) s.abs.heap&&namesBound p s.abs.heap&&gensDone s.abs&&laidKept (boot_heap w.params) s.abs.heap),
    PySem.W.Fast.tw4187177175401517315 q loose (importedModules p.main.body) Xt true s.abs,Yf s.abs))=some (true,openGood q loose,Ya w)):LeftO p q loose Xt Yf Ya N:=
 YS open_ RZ SA (Nat.ble_eq_true_of_le (aKe N)) (by
  rw[PySem.W.Fast.te6613529449190102663,PySem.W.Fast.te10156331382660048174,PySem.W.Fast.te11892475500146522536,PySem.W.Fast.te14364793385576792824,PySem.W.Fast.te4187177175401517315];exact ev)
theorem said_of {l:OpenLaw}(h:PySem.W.Fast.tw9446332074065402090 l=true):l.wellSaid=true:=by rw[PySem.W.Fast.te9446332074065402090];exact h
noncomputable def kE (P:Params) (x:Str) (t:Nat) (v:Value):DictEntry:=⟨PyData.keyHash P x,.str x t,v⟩
noncomputable def kC (a:Str) (t:Nat) (l m x:Int) (r:Addr) (b:Bool) (u:Int) (r2:Addr) (v1 v2 v3 v4:Value) (z:Nat):Obj:=
 ⟨.type "code",none,.fields #[.str a t,.str a (t+1),.str "/claim/cut.py" (t+2),.int l 0,.int m 0,.int 0 0,.int 0 0,.int x 0,.ref r,.bool b,.int u 0,.ref r2,v1,v2,v3,v4,.int (z:Int) 0,.int l 0,.str "/claim/cut.py" (z+1)],#[]⟩
end HD
namespace G
open PySem PySem.Spec PyProof.Rows L2
section
variable {X:Cx}{B:Hp}{fl:List Nat}{n n':Bool}{l l':Nat}{e:Expr}{f:Rho->Option T}{x:Str}{pos pos':Pos}
end
section
variable {prog:Program}{w:World}{A:Around}{E:Value->Shared->Prop}{s:Shared}
end
section
variable {prog:Program}{w:World}{A:Around}{E:Value->Shared->Prop}{s:Shared}
end
section
variable {X:Cx}{elts:List Expr}{k:Nat}{p2:Pos}
end
section
variable {X:Cx}{B:Hp}{fl:List Nat}{e e' e'':Expr}{f g h:Rho->Option T}{n n' n'':Bool}{l l' l'':Nat}{pos p' p2:Pos}{x:Str}{elts:List Expr}{k:Nat}
end
end G
namespace G
open PySem
def iv:Value->Int
 | .int i _=>i
 | _=>0
section
variable {prog:Program}{w:World}{A:Around}{E:Value->Shared->Prop}{s:Shared}{a:Addr}{b:Bool}{ks:List Int}
end
def met (ns:List Int):List Int:=ns.foldl (fun ks k=>if k∈ks then ks else k::ks) []
section
variable {prog:Program}{w:World}{A:Around}{R:Result->Shared->Prop}{I:Addr}{fp wr:List Addr}{GG:Array GenState->Array GenState->Prop}{n:Nat}{P:Nat->Value->Prop}{St:Nat->Shared->Prop}{b:Bool}
end
section
variable {prog:Program}{w:World}{A:Around}{E:Value->Shared->Prop}{s:Shared}
end
section
variable {prog:Program}{w:World}{A:Around}{E:Value->Shared->Prop}{s:Shared}{a:Addr}{o:Obj}{es:Array (Int × Value)}{ep:Nat}{t:SetTable}
end
section
variable {prog:Program}{w:World}{A:Around}{E:Value->Shared->Prop}{s:Shared}{a it:Addr}{o:Obj}{es:Array (Int × Value)}{ep i:Nat}{t:SetTable}{first:Value}
end
section
variable {prog:Program}{w:World}{A:Around}{E:Value->Shared->Prop}{s:Shared}{a it T:Addr}{o:Obj}{es:Array (Int × Value)}{ep i:Nat}{t:SetTable}
end
section
variable {prog:Program}{w:World}{A:Around}{E:Value->Shared->Prop}{s:Shared}{a it:Addr}{o:Obj}{es:Array (Int × Value)}{ep:Nat}{t:SetTable}
end
end G
namespace G
open PySem PyProof.Rows
section
variable {prog:Program}{w:World}{A:Around}{E:Value->Shared->Prop}{s:Shared}{a:Addr}{ks:List Int}
end
end G
namespace G
open PySem PySem.Spec PyProof.Rows L2
section
variable {X:Cx}{pins:List (Addr × Obj)}{σ:St}{H:Hp}{s:Shared}{h':Heap}
end
section
variable {X:Cx}{B:Hp}{fl:List Nat}{e:Expr}{f:Rho->Option T}{n:Bool}{l:Nat}{p1 p2 p3 p4 q1 q2 q3 q4:Pos}
end
end G
namespace G
open PySem PySem.Calls PyProof.Rows
section
variable {prog:Program}{w:World}{A:Around}{E:Value->Shared->Prop}{s:Shared}
end
end G
namespace G
open PySem PySem.Spec PyProof.Rows L2
section
variable {prog:Program}{w:World}{A:Around}{E:Value->Shared->Prop}{s:Shared}{env:Env}{x y:Str}{cx pl:Addr}{m:Str->Option Value}{j:Int}{tj:Tok}{its:List Value}
end
section
variable {prog:Program}{w:World}{A:Around}
end
section
variable {X:Cx}{pins:List (Addr × Obj)}{σ:St}{H:Hp}{s:Shared}
end
section
variable {X:Cx}
end
section
variable {X:Cx}{B:Hp}{fl:List Nat}{e:Expr}{fa:Rho->Option (List T)}{l':Nat}
end
section
variable {X:Cx}{B:Hp}{fl:List Nat}{e:Expr}{es:List Expr}{f:Rho->Option T}{fa:Rho->Option (List T)}{n n':Bool}{l l' k:Nat}{pos p':Pos}{x:Str}{ps:List Str}{F:List T->Option T}{Pt:Addr}{o:HO}
end
section
variable {P:Program}{w:World}{K:PySem.W.Frag}{mg:Str->Option Value}{base:Heap}
end
section
variable {X:Cx}{B:Hp}{fl:List Nat}{e:Expr}{es:List Expr}{fa:Rho->Option (List T)}{l:Nat}{pos p':Pos}{x:Str}
end
section
variable {X:Cx}{B:Hp}{fl:List Nat}{n:Bool}{l:Nat}{pos pos':Pos}{x:Str}
end
section
variable {X:Cx}{B:Hp}{fl:List Nat}{a b:Expr}{f g:Rho->Option T}{n n':Bool}{l l':Nat}{pos:Pos}
open SeqAt in
end
section
variable {K:PySem.W.Frag}{B H H':Hp}{fl:List Nat}{Ex:List (T × V)}{σ:St}{ρ:Rho}{M:List Addr}{i:Nat}
end
section
variable {X:Cx}{B:Hp}{fl:List Nat}{a b k:Expr}{f g fk:Rho->Option T}{n n' nk:Bool}{l l' lk i:Nat}{pos pos' dpos p2 p3:Pos}{x:Str}
end
section
variable {X:Cx}{B:Hp}{fl:List Nat}{n:Bool}{l:Nat}{pos pos' dpos tpos p2 p3 p4 p5:Pos}{x d y:Str}
end
end G
namespace GN
open PySem PySem.Builtin PySem.Builtin.Str PySem.Builtin.Int PySem.Calls PySem.NumText PyProof.Rows
set_option maxRecDepth 100000
section
variable {prog:Program}{w:World}{A:Around}{E:Value->Shared->Prop}{s:Shared}{a:Int}{t:Tok}
theorem aDm {Q:Value->Shared->Prop}(hn:s.heap.NoDigits) (hl:a.natAbs<10^4300) (h1:Q (.str (toString a) s.toks) { s with toks:=s.toks+1 }):
  wpAny (model prog w) A (call (.builtin "int.__repr__") [.int a t]) Q E s:=by
 refine wpAny_call_entry F.slot_int_repr (typeIs_int s a t) F.entry_int_repr ?_ (F.args_int_repr_1 _);unfold Builtin.«int.__repr__»;show wpAny _ _ (do let r <- Builtin.overDigitLimit? a;_) _ _ s;refine wpAny_bind (overDigitLimit_any hn (fun hlt=>?_) (fun hge=>absurd hl (Nat.not_lt.mpr hge)));exact wpAny_bind (wpAny_mkStr (wpAny_pure ⟨_,rfl,h1⟩) (int_text_fits10 hlt))
theorem aEt {Q:Value->Shared->Prop}(hn:s.heap.NoDigits) (hl:a.natAbs<10^4300) (h1:Q (.str (toString a) s.toks) { s with toks:=s.toks+1 }):
  wpAny (model prog w) A (PySem.Builtin.Str.strOf (.int a t)) Q E s:=by
 unfold PySem.Builtin.Str.strOf;rw[show isExactStr (.int a t)=false from rfl];have hv:[Value.int a t].any Value.onHeap=false:=rfl;simp only[cRoomFor,hv,aJ0,if_false,pure_bind];refine wpAny_bind (m:=callSpecial? (.int a t) (Str.ofString "__str__")) (wpAny_callSpecial?_slot (name:=Str.ofString "__str__") (typeIs_int s a t) F.slot_int_str ?_);refine wpAny_call_entry F.slot_int_str (typeIs_int s a t) entry_object_str ?_ (args_object_str _);unfold Builtin.«object.__str__»;refine wpAny_bind (m:=slotArgs "__str__" 0 _) (wpAny_pure ?_);simp only[cRoomFor,hv,aJ0,if_false,pure_bind];refine wpAny_bind (m:=callSpecialIfBound? (.int a t) (Str.ofString "__repr__")) (wpAny_callSpecialIfBound?_slot (name:=Str.ofString "__repr__") (typeIs_int s a t) F.slot_int_repr (aDm hn hl ?_));exact wpAny_pure ⟨_,rfl,wpAny_pure h1⟩
theorem str_big {Q:Value->Shared->Prop}(hn:s.heap.NoDigits) (hl:a.natAbs<10^4300) (h1:Q (.str (toString a) s.toks) { s with toks:=s.toks+1 }):
  wpAny (model prog w) A (call (.type "str") [.int a t]) Q E s:=
 callType_new F.called_str (by decide) (F.typeCall_str_1 _) (F.newCall_str_1 _) (fun obj=>F.args_object_init_2 obj _) F.entry_str_new
  (meets_str_new (S:=fun _ R s=>s.heap.NoDigits/\R (.ok (.ret (.str (toString a) s.toks))) { s with toks:=s.toks+1 }) fun _ _ _ _ _ hq=>aEt hq.1 hl hq.2)
  ⟨hn,typeIs_str _ _ _,h1⟩
end
theorem aGh {M:Model}{A:Around}{E:Value->Shared->Prop}{s:Shared}{Q:Value->Shared->Prop}{v:Value}{text:List Nat}{n:Int}(hn:s.heap.NoDigits)
  (hs:¬ (text.takeWhile (· != 0)).length<=640) (hr:(int_private% "readNumeral") 4300 10 (text.takeWhile (· != 0))=(int_private% "Numeral.value") n)
  (ha:((text.takeWhile (· != 0)).length == text.length)=true) (h:Q (.int n s.toks) { s with toks:=s.toks+1 }):
  wpAny M A ((int_private% "intFromText") v text 10) Q E s:=by
 obtain⟨mc,hns,hnone⟩:=hn;refine wpAny_ite_false (c:=(text.takeWhile (· != 0)).length<=640) (decide_eq_false hs) ?_;refine wpAny_bind (m:=Builtin.intMaxStrDigits) ?_;unfold Builtin.intMaxStrDigits;refine wpAny_bind (wpAny_nsGet hns ?_);rw[hnone];refine wpAny_pure ?_;dsimp only;rw[hr];dsimp only;rw[if_pos ha];exact wpAny_mkInt h
theorem aGg {M:Model}{A:Around}{E:Value->Shared->Prop}{s:Shared}{Q:Value->Shared->Prop}{v:Value}{text:List Nat}{n:Int}(hn:s.heap.NoDigits)
  (hr:(int_private% "readNumeral") (if (text.takeWhile (· != 0)).length<=640 then 0 else 4300) 10 (text.takeWhile (· != 0))=(int_private% "Numeral.value") n)
  (ha:((text.takeWhile (· != 0)).length == text.length)=true) (h:Q (.int n s.toks) { s with toks:=s.toks+1 }):
  wpAny M A ((int_private% "intFromText") v text 10) Q E s:=by
 by_cases hs:(text.takeWhile (· != 0)).length<=640
 ·rw[if_pos hs] at hr
  exact PySem.W.KIN.wp_text hs hr ha h
 ·rw[if_neg hs] at hr
  exact aGh hn hs hr ha h
theorem ZS {x:PySem.Str}{u:Tok}{n:Int}(hl:x.length<=sizeLine) (hn:PySem.intText? x=some n):GivesAt (fun s=>s.heap.NoDigits) (Builtin.«int.__new__» ⟨[.type "int",.str x u],[]⟩) (.int n):=by
 intro prog w A R s hP h;have hr:(int_private% "readNumeral") (numLimitOf x) 10 (numSeenOf x)=(int_private% "Numeral.value") n/\((numSeenOf x).length == (numTextOf x).length)=true:=by
  rcases readAny x hl with ⟨m,h1,h2,h3⟩ | ⟨h1,_⟩
  ·rw[hn] at h1
   injection h1 with h1
   subst h1;exact⟨h3,h2⟩
  ·rw[hn] at h1
   cases h1
 obtain⟨hp,g,d,tk,os⟩:=s;have f1:=F.conv_sub_int;have f2:=F.madeHere_int;have f3:=PySem.W.KIN.str_int;have f4:=PySem.W.KIN.str_idx;have f5:=PySem.W.KIN.str_trunc;have f6:typeOf (.str x u)=pure (.type "str"):=rfl;have hk:=PySem.W.KIN.Hid.mk hr;have hP':=PySem.W.KIN.Hid.mk hP;have h':R (.ok (.ret (.int n tk))) ⟨hp,g,d,tk+1,os⟩:=h
 clear hr hl hn hP h
 repeat (any_goals (first
  | assumption
  | ((with_reducible show wpAny _ _ ((int_private% "intFromText") _ _ _) _ _ _);refine aGg hP'.out hk.out.1 hk.out.2 ?_)
  | wp_step))
theorem int_big {prog:Program}{w:World}{A:Around}{E:Value->Shared->Prop}{s:Shared}{Q:Value->Shared->Prop}{x:PySem.Str}{t:Tok}{n:Int}(hd:s.heap.NoDigits) (hl:x.length<=sizeLine) (hn:PySem.intText? x=some n) (h:Q (.int n s.toks) { s with toks:=s.toks+1 }):
  wpAny (model prog w) A (call (.type "int") [.str x t]) Q E s:=by
 have g:=ZS (u:=t) hl hn;exact call_int_1 (S:=fun A R s=>s.heap.NoDigits/\(Made.int n).post (fun v s'=>R (.ok (.ret v)) s') s) (fun prog w A R s h=>g prog w A R s h.1 h.2) ⟨hd,show (Made.int n).post _ s from ⟨rfl,h⟩⟩
end GN
namespace G
open PySem PySem.Spec PyProof.Rows L2
def bS:T->T->Option T
 | .str x,.str y=>if x.length+y.length<=cap then some (.str (x++y)) else none
 | _,_=>none
def nR (x y:Str):Bool:=!(Builtin.Str.occurrences y x 0 y.length 1).isEmpty
def xK:T->T->Option T
 | .str x,.str y=>some (.bl (nR x y))
 | _,_=>none
def eK:T->T->Option T
 | .str x,.int i=>if 0<=i/\i<2^63 then (x.cps[i.toNat]?).map fun c=>.str ⟨#[c]⟩ else none
 | _,_=>none
def mM:List T->Option T
 | [.str x]=>if x.length<=cap then some (.int x.length) else none
 | _=>none
@[irreducible] def figLim:Nat:=10^4300
theorem IJ:figLim=10^4300:=by unfold figLim;rfl
def kJ:List T->Option T
 | [.int i]=>if i.natAbs<figLim then some (.str (toString i)) else none
 | _=>none
theorem wE {n:Nat}(h:n<=cap):n<=sizeLine:=aKf h (by unfold cap;decide)
section
variable {X:Cx}{B:Hp}{fl:List Nat}{a b e:Expr}{es:List Expr}{f g:Rho->Option T}{fa:Rho->Option (List T)}{n n':Bool}{l l':Nat}{pos p':Pos}{x:Str}
theorem aEn:SOp (fun x y H Q=>∃ i j,x=.str i/\y=.str j/\i.length+j.length<=sizeLine/\Q (.str (i++j)) H) bS:=by
 intro x y t e;cases x<;>first | (cases e;done) | skip
 cases y<;>first | (cases e;done) | skip
 rename_i i j;unfold bS at e;dsimp only at e;split at e
 ·rename_i k
  cases e;exact⟨rfl,rfl,rfl,fun H Q q=>⟨i,j,rfl,rfl,wE k,q⟩⟩
 ·cases e
theorem gL (ha:GE X B fl a f n l) (hb:GE X B fl b g n' l'):GE X B fl (.BinOp a .Add b pos) (f2 f g bS) true 3:=fH aBp aEn ha hb
theorem aEo:SOp (fun x y H Q=>∃ i j,x=.str i/\y=.str j/\Q (.bl (!(Builtin.Str.occurrences j i 0 j.length 1).isEmpty)) H) xK:=by
 intro x y t e;cases x<;>first | (cases e;done) | skip
 cases y<;>first | (cases e;done) | skip
 rename_i i j;cases (aIi (show some (T.bl (nR i j))=some t from e));exact⟨rfl,rfl,rfl,fun H Q q=>⟨i,j,rfl,rfl,q⟩⟩
theorem IY (ha:GE X B fl a f n l) (hb:GE X B fl b g n' l') (hm:behindInMarks .In b=false:=by rfl):GE X B fl (.Compare a [.In] [b] pos) (f2 f g xK) true 3:=wP aBt aEo ha hb hm
theorem wQ (ha:GE X B fl a f n l) (hb:GE X B fl b g n' l') (hs:FT b:=by exact fun _ _=>rfl):GE X B fl (.Subscript a b pos) (f2 f g eK) true 3:=by
 refine bD (aCd ha hb hs) ?_;rintro σ H Q ⟨Ex,ρ,M,t,S,hf,q⟩;obtain⟨u,hu,hf⟩:=bind_some hf;obtain⟨y,hy,hf⟩:=bind_some hf;have h2:∃ z i,u=.str z/\y=.int i:=by
  cases u<;>first | (cases hf;done) | skip
  cases y<;>first | (cases hf;done) | exact⟨_,_,rfl,rfl⟩
 obtain⟨z,i,rfl,rfl⟩:=h2;unfold eK at hf;dsimp only at hf;split at hf
 rotate_left
 ·cases hf
 rename_i hi;cases hc:z.cps[i.toNat]? with
 | none=>rw[hc] at hf;cases hf
 | some c=>
  rw[hc] at hf;cases (aIi hf);refine⟨Ex,ρ,M,_,S,hu,fun vx H1 s1 rx=>⟨Ex,ρ,M,_,S.grow s1,hy,fun vy H2 s2 ry=>?_⟩⟩;cases (show vx=.str z from (aM.scal rfl).mp rx);cases (show vy=.int i from (aM.scal rfl).mp ry);have hlt:i.toNat<z.cps.size:=(Array.getElem?_eq_some_iff.mp hc).1;have hlen:z.length=z.cps.size:=rfl;exact⟨z,i,c,rfl,rfl,hi.1,hi.2,by rw[hlen];lia,hc,q _ H2 (s1.trans s2) ((aM.scal rfl).mpr rfl)⟩
theorem wR (hx:x = "len") (hg:Gl X x) (hm:X.mg x=none) (ha:GA X B fl (e::es) fa l)
  (he:starEach (e::es) X.env=(false,eval e X.env)::starEach es X.env:=by rfl) (hpl:(backTo pos (starEach es X.env)).any (·.1)=false:=by rfl):GE X B fl (.Call (.Name x p') (e::es) [] pos) (aG fa mM) true 3:=by
 subst hx;refine bD (gQ SK hg hm PySem.boot_len ha (by decide) (by decide) he hpl) ?_;rintro σ H Q ⟨Ex,ρ,M,t,S,hf,q⟩;obtain⟨ts,hts,hf⟩:=bind_some hf;refine⟨Ex,ρ,M,ts,S,hts,fun vs H1 s1 r1=>?_⟩
 match ts,hf with
 | [.str z],hf=>
  have hf:(if z.length<=cap then some (T.int z.length) else none)=some t:=hf;split at hf
  ·rename_i hz
   cases (aIi hf);obtain⟨y,rfl,ry⟩:=dR r1;cases (show _=_ from ry);exact⟨z,rfl,wE hz,q _ H1 s1 ((aM.scal rfl).mpr rfl)⟩
  ·cases hf
theorem SQ:eY X (.type "str") (fun xs H Q=>∃ i:Int,xs=[.int i]/\i.natAbs<figLim/\Q (.str (toString i)) H):=by
 intro pins s σ H xs us Q I r h;obtain⟨i,rfl,hz,q⟩:=h;obtain⟨u,rfl,t,rfl⟩:=gD r;exact GN.str_big I.nodig (IJ ▸ hz) ⟨.str (toString i),H,I.tok _,⟨_,rfl⟩,q⟩
theorem wU (hx:x = "str") (hg:Gl X x) (hm:X.mg x=none) (hv:bootBuiltins x=some (.type "str")) (ha:GA X B fl (e::es) fa l)
  (he:starEach (e::es) X.env=(false,eval e X.env)::starEach es X.env:=by rfl) (hpl:(backTo pos (starEach es X.env)).any (·.1)=false:=by rfl):GE X B fl (.Call (.Name x p') (e::es) [] pos) (aG fa kJ) true 3:=by
 subst hx;refine bD (xW SQ hg hm hv ha (by decide) (by decide) he hpl) ?_;rintro σ H Q ⟨Ex,ρ,M,t,S,hf,q⟩;obtain⟨ts,hts,hf⟩:=bind_some hf;refine⟨Ex,ρ,M,ts,S,hts,fun vs H1 s1 r1=>?_⟩
 match ts,hf with
 | [.int i],hf=>
  have hf:(if i.natAbs<figLim then some (T.str (toString i)) else none)=some t:=hf;split at hf
  ·rename_i hz
   cases (aIi hf);obtain⟨y,rfl,ry⟩:=dR r1;cases (show _=_ from ry);exact⟨i,rfl,hz,q _ H1 s1 ((aM.scal rfl).mpr rfl)⟩
  ·cases hf
end
theorem aEi {X:Cx}{pins:List (Addr × Obj)}{σ:St}{H:Hp}{s:Shared}{z:Str}{t:Tok}{vl vu:Value}{lo hi:Option Int}{Q:VK}(I:Inv X pins σ H s) (pl:IsPart vl lo) (pu:IsPart vu hi) (hz:z.length<=sizeLine) (q:Q (.str (Txt.slice z lo hi)) H):
  ItemOn (model X.prog X.w) X.A X.xe (.str z t) (.ref s.heap.objs.size) (EP X pins σ Q) { s with heap:=s.heap.push { cls:=.type "slice",data:=.fields #[vl,vu,.none] } }:=by
 have hk:KeptH (fun h=>∀ b u,s.heap.get? b=some u->h.get? b=some u):=fun h ob k b u e=>aIt _ (k b u e);have fin:∀ (h':Heap) (t':Tok) (k:Nat),(∀ b u,s.heap.get? b=some u->h'.get? b=some u)->EP X pins σ Q (.str (Txt.slice z lo hi) t') { s with heap:=h',toks:=k }:=fun h' t' k hh=>⟨.str (Txt.slice z lo hi),H,I.kept hh,⟨_,rfl⟩,q⟩;cases pl with
 | none=>
  cases pu with
  | none=>exact SBH.sliceItem_nn hk (fun b u e=>e) fin hz
  | int j uj=>exact SBH.sliceItem_ns hk (fun b u e=>e) fin hz
 | int i ui=>
  cases pu with
  | none=>exact SBH.sliceItem_sn hk (fun b u e=>e) fin hz
  | int j uj=>exact SBH.sliceItem_ss hk (fun b u e=>e) fin hz
def AR (f:Rho->Option T) (lo hi:Rho->Option (Option Int)):Rho->Option T:=fun ρ=>(f ρ).bind fun x=>(lo ρ).bind fun a=>(hi ρ).bind fun b=>
 match x with
 | .str z=>if z.length<=cap then some (.str (Txt.slice z a b)) else none
 | _=>none
@[simp] theorem fSliceS_at (f:Rho->Option T) (lo hi:Rho->Option (Option Int)) (ρ:Rho):AR f lo hi ρ=(f ρ).bind fun x=>(lo ρ).bind fun a=>(hi ρ).bind fun b=>
 match x with
 | .str z=>if z.length<=cap then some (.str (Txt.slice z a b)) else none
 | _=>none:=id rfl
theorem VY {X:Cx}{B:Hp}{fl:List Nat}{e:Expr}{f:Rho->Option T}{n:Bool}{l:Nat}{pos:Pos}{lo hi:Option Expr}{fl' fh:Rho->Option (Option Int)}{p2:Pos}(he:GE X B fl e f n l) (hl:GO X B fl lo fl') (hh:GO X B fl hi fh):
  GE X B fl (.Subscript e (.Slice lo hi none p2) pos) (AR f fl' fh) true 3:=by
 intro pins s σ H Q I hq;obtain⟨Ex,ρ,M,t,S,hf,q⟩:=hq;obtain⟨x,hx,hf⟩:=bind_some hf;obtain⟨a,ha,hf⟩:=bind_some hf;obtain⟨b,hb,hf⟩:=bind_some hf;have hx2:∃ z,x=.str z:=by
  cases x<;>first | (cases hf;done) | exact⟨_,rfl⟩
 obtain⟨z,rfl⟩:=hx2;dsimp only at hf;split at hf
 rotate_left
 ·cases hf
 rename_i hz;cases (aIi hf);refine Subscript_ (thn (he pins s σ H (fun v H1=>aK H H1/\v=.str z) I ⟨Ex,ρ,M,_,S,hx,fun v H1 s1 r1=>⟨s1,(aM.scal rfl).mp r1⟩⟩) fun v s1 ⟨x,H1,I1,r1,s01,rx⟩=>?_);subst rx;refine wpAny_Slice (thn (hl pins s1 σ H1 (fun o H2=>o=a/\aK H1 H2) I1 ⟨Ex,ρ,M,a,S.grow s01,ha,fun H2 s2=>⟨rfl,s2⟩⟩) fun vl s2 ⟨o,H2,I2,pl,e2,s12⟩=>?_);subst e2;refine thn (hh pins s2 σ H2 (fun o H3=>o=b/\aK H2 H3) I2 ⟨Ex,ρ,M,b,S.grow (s01.trans s12),hb,fun H3 s3=>⟨rfl,s3⟩⟩) fun vu s3 ⟨o2,H3,I3,pu,e3,s23⟩=>?_;subst e3;rw[evalPart_none];refine wpAny_pure ?_;obtain⟨tk,rfl⟩:=r1;obtain⟨T,id,hT,ht,hg⟩:=aEi (t:=tk) (Q:=Q) I3 pl pu (wE hz) (q _ H3 ((s01.trans s12).trans s23) ((aM.scal rfl).mpr rfl));show wpAny (model X.prog X.w) X.A (subscriptTail e (.Slice lo hi none p2) (.str z tk) (.ref s3.heap.objs.size)) (EP X pins σ Q) X.xe { s3 with heap:=s3.heap.push { cls:=.type "slice",data:=.fields #[vl,vu,.none] } };exact tail_any (ops:=[.ref s3.heap.objs.size,.str z tk]) ht hT hg (by with_unfolding_all rfl)
def CZ:T->T->Option T
 | .str x,.str y=>some (.bl (Txt.startswith x y))
 | _,_=>none
section
variable {X:Cx}{B:Hp}{fl:List Nat}{a b:Expr}{f g:Rho->Option T}{n n':Bool}{l l':Nat}{apos cpos:Pos}
theorem WA (ha:GE X B fl a f n l) (hb:GE X B fl b g n' l') (m:M1 X a "startswith" apos b cpos:=by exact⟨rfl,rfl,rfl,rfl⟩):GE X B fl (.Call (.Attribute a "startswith" apos) [b] [] cpos) (f2 f g CZ) true 3:=by
 intro pins s σ H Q I h;obtain⟨Ex,ρ,M,t,S,hf,q⟩:=h;obtain⟨u,hu,hf⟩:=bind_some hf;obtain⟨y,hy,hf⟩:=bind_some hf;have h2:∃ z w,u=.str z/\y=.str w:=by
  cases u<;>first | (cases hf;done) | skip
  cases y<;>first | (cases hf;done) | exact⟨_,_,rfl,rfl⟩
 obtain⟨z,w,rfl,rfl⟩:=h2;cases (aIi (show some (T.bl (Txt.startswith z w))=some t from hf));refine wpAny_Call_method_lateS m.base m.few m.line (thn (ha pins s σ H (fun v H1=>aK H H1/\v=.str z) I ⟨Ex,ρ,M,_,S,hu,fun v H1 s1 r1=>⟨s1,(aM.scal rfl).mp r1⟩⟩) fun v s1 ⟨x,H1,I1,r1,s01,rx⟩=>?_);subst rx;obtain⟨tk,rfl⟩:=r1;rw[m.trees];refine SB.startswith (thn (hb pins s1 σ H1 (fun v H2=>aK H1 H2/\v=.str w) I1 ⟨Ex,ρ,M,_,S.grow s01,hy,fun v H2 s2 r2=>⟨s2,(aM.scal rfl).mp r2⟩⟩) fun v2 s2 ⟨x2,H2,I2,r2,s12,rx2⟩=>?_);subst rx2;obtain⟨tk2,rfl⟩:=r2;exact⟨w,tk2,rfl,.bl (Txt.startswith z w),H2,I2,rfl,q _ H2 (s01.trans s12) ((aM.scal rfl).mpr rfl)⟩
end
def Its (x:Str):It:=⟨fun i _=>i<x.cps.size,fun i H v H'=>H'=H/\∃ c,x.cps[i]?=some c/\v=.str ⟨#[c]⟩,fun i _=>x.cps.size<=i⟩
theorem aG4 {P:Program}{w:World}{K:PySem.W.Frag}{tg:Expr}(x:Str) (t:Tok) (it:Addr):Turn P w K tg (Its x) [it] it (fun i h=>h.IsStrIter it "str_iterator" x t i) where
 mem:=by simp
 obj:=fun i h st b hb=>by
  have e:b=it:=by simpa using hb
  subst e;obtain⟨o,e,c,d⟩:=st;exact⟨o,e,fun v z=>by rw[d] at z;cases z⟩
 keep:=fun i h h' st k=>by
  obtain⟨o,e,r⟩:=st;exact⟨o,k it (by simp) o e,r⟩
 item:=by
  intro X hP hw hK hc i pins s σ H E I hf st hg;subst hP hw hK;have hg:i<x.cps.size:=hg;obtain⟨f0,f1,f2,f3,f4,f5⟩:=hf it (by simp);have hx:x.cps[i]?=some x.cps[i]:=Array.getElem?_eq_getElem hg;refine wpAny_pyNext_wide_item st hx fun h' st' sb=>?_;have I1:Inv X pins σ H { s with heap:=h',toks:=s.toks+1 }:=I.turned (t':=s.toks+1) (fun b o hb e=>(sb.2 b hb).trans e) f0 f1 f3 f4 f5;obtain⟨o,e,c,d⟩:=id st';exact⟨_,rfl,sN (s:={ s with heap:=h',toks:=s.toks+1 }) e c d (by decide) ⟨.str ⟨#[x.cps[i]]⟩,H,I1,⟨_,rfl⟩,⟨rfl,x.cps[i],hx,rfl⟩,st',fun b hb=>(hf b hb).1⟩⟩
 done:=by
  intro X hP hw hK hc i pins s σ H E I hf st hg;subst hP hw hK;have hg:x.cps.size<=i:=hg;obtain⟨f0,f1,f2,f3,f4,f5⟩:=hf it (by simp);exact wpAny_pyNext_wide_end (I.ok.hd hc) st (Array.getElem?_eq_none hg) fun h' eb=>⟨rfl,I.turned (t':=s.toks) (fun b o hb e=>eb b o hb e) f0 f1 f3 f4 f5⟩
 self:=fun _ _ _ _ _ st h=>wpAny_pyIter_striter_wide st h
theorem aG3 {P:Program}{w:World}{K:PySem.W.Frag}{tg:Expr}(x:Str) (t:Tok) (it:Addr):Turn P w K tg (Its x) [it] it (fun i h=>h.IsStrIter it "str_ascii_iterator" x t i) where
 mem:=by simp
 obj:=fun i h st b hb=>by
  have e:b=it:=by simpa using hb
  subst e;obtain⟨o,e,c,d⟩:=st;exact⟨o,e,fun v z=>by rw[d] at z;cases z⟩
 keep:=fun i h h' st k=>by
  obtain⟨o,e,r⟩:=st;exact⟨o,k it (by simp) o e,r⟩
 item:=by
  intro X hP hw hK hc i pins s σ H E I hf st hg;subst hP hw hK;have hg:i<x.cps.size:=hg;obtain⟨f0,f1,f2,f3,f4,f5⟩:=hf it (by simp);have hx:x.cps[i]?=some x.cps[i]:=Array.getElem?_eq_getElem hg;refine wpAny_pyNext_ascii_item st hx fun h' st' sb=>?_;have I1:Inv X pins σ H { s with heap:=h',toks:=s.toks+1 }:=I.turned (t':=s.toks+1) (fun b o hb e=>(sb.2 b hb).trans e) f0 f1 f3 f4 f5;obtain⟨o,e,c,d⟩:=id st';exact⟨_,rfl,sN (s:={ s with heap:=h',toks:=s.toks+1 }) e c d (by decide) ⟨.str ⟨#[x.cps[i]]⟩,H,I1,⟨_,rfl⟩,⟨rfl,x.cps[i],hx,rfl⟩,st',fun b hb=>(hf b hb).1⟩⟩
 done:=by
  intro X hP hw hK hc i pins s σ H E I hf st hg;subst hP hw hK;have hg:x.cps.size<=i:=hg;obtain⟨f0,f1,f2,f3,f4,f5⟩:=hf it (by simp);exact wpAny_pyNext_ascii_end (I.ok.hd hc) st (Array.getElem?_eq_none hg) fun h' eb=>⟨rfl,I.turned (t':=s.toks) (fun b o hb e=>eb b o hb e) f0 f1 f3 f4 f5⟩
 self:=fun _ _ _ _ _ st h=>wpAny_pyIter_striter_ascii st h
def signs (x:Str):List T:=x.cps.toList.map fun c=>.str ⟨#[c]⟩
def sG (f:Rho->Option T):Rho->Option (List T):=fun ρ=>(f ρ).bind fun t=>match t with | .str x=>some (signs x) | _=>none
@[simp] theorem fStr_at (f:Rho->Option T) (ρ:Rho):sG f ρ=(f ρ).bind fun t=>match t with | .str x=>some (signs x) | _=>none:=id rfl
theorem aGc {K:PySem.W.Frag}(x:Str):qJ K (Its x) [] (signs x) true:=by
 intro H A _ i;unfold signs;refine⟨fun t ht=>?_,fun hi=>by show x.cps.size<=i;simpa using hi⟩;rw[aJk] at ht;cases e:x.cps.toList[i]? with
 | none=>rw[e] at ht;cases ht
 | some c=>
  rw[e] at ht;cases (aIi ht);have e':x.cps[i]?=some c:=by rw[<- Array.getElem?_toList];exact e
  refine⟨(Array.getElem?_eq_some_iff.mp e').1,fun v H' hv=>?_⟩;obtain⟨rfl,c',h1,rfl⟩:=hv;rw[e'] at h1;cases (aIi h1);exact⟨aK.refl _,rfl⟩
theorem JC {X:Cx}{B:Hp}{fl:List Nat}{e tg:Expr}{f:Rho->Option T}{n:Bool}{l:Nat}(h:GE X B fl e f n l):GI X B fl tg e (sG f) 3 true:=by
 intro pins s σ H R I hq;obtain⟨Ex,ρ,M,ts,S,hf,q⟩:=hq;obtain⟨u,hu,hf⟩:=bind_some hf;have hx2:∃ z,u=.str z:=by
  cases u<;>first | (cases hf;done) | exact⟨_,rfl⟩
 obtain⟨z,rfl⟩:=hx2;cases (aIi (show some (signs z)=some ts from hf));refine thn (h pins s σ H (fun v H1=>aK H H1/\v=.str z) I ⟨Ex,ρ,M,_,S,hu,fun v H1 s1 r1=>⟨s1,(aM.scal rfl).mp r1⟩⟩) fun v s1 ⟨x,H1,I1,r1,s01,rx⟩=>?_;subst rx;obtain⟨tk,rfl⟩:=r1;have fp:∀ {H':Hp} {s':Shared},True->True:=fun _=>trivial;have Ik:∀ o:Obj,Inv X pins σ H1 { s1 with heap:=s1.heap.push o }:=fun o=>I1.kept (t':=s1.toks) fun b ob e=>aIt _ e;have fin:∀ b∈[s1.heap.objs.size],fE X pins H1 b:=fun b hb=>by
  have e:b=s1.heap.objs.size:=by simpa using hb
  subst e;exact I1.fpOk (aKe _) (I1.hok.fresh (aKe _))
 have last:=q (Its z) H1 [] s01 (fun p hp=>by cases hp) (aGc z);cases ha:z.cps.all (· < 128) with
 | false=>exact wpAny_pyIter_wide ha ⟨s1.heap.objs.size,[s1.heap.objs.size],_,_,H1,rfl,Ik _,aG4 z tk _,⟨_,aJ2 _ rfl,rfl,rfl⟩,fin,last⟩
 | true=>exact wpAny_pyIter_ascii ha ⟨s1.heap.objs.size,[s1.heap.objs.size],_,_,H1,rfl,Ik _,aG3 z tk _,⟨_,aJ2 _ rfl,rfl,rfl⟩,fin,last⟩
section
variable {X:Cx}{B:Hp}{fl:List Nat}{e:Expr}{es:List Expr}{fa:Rho->Option (List T)}{n:Bool}{l:Nat}{pos p':Pos}{x:Str}
theorem IX {z:Str}(hg:Gl X x) (hm:∃ tk,X.mg x=some (.str z tk)) (hd:(x == ("__debug__" : Str))=false:=by decide):GE X B fl (.Name x pos) (fC (.str z)) true 3:=by
 obtain⟨tk,hm⟩:=hm;refine bD (LM (v:=.str z) hg hm ⟨tk,rfl⟩ hd) ?_;rintro σ H Q ⟨Ex,ρ,M,t,S,hf,q⟩;cases (aIi hf);exact q _ H (aK.refl H) ((aM.scal rfl).mpr rfl)
theorem SI:eY X (.type "int") (fun xs H Q=>∃ x n,xs=[.str x]/\PySem.intText? x=some n/\x.length<=sizeLine/\Q (.int n) H):=by
 intro pins s σ H xs us Q I r h;obtain⟨x,n,rfl,hn,hz,q⟩:=h;obtain⟨u,rfl,t,rfl⟩:=gD r;exact GN.int_big I.nodig hz hn ⟨.int n,H,I.tok _,⟨_,rfl⟩,q⟩
def tE:List T->Option T
 | [.str x]=>if x.length<=cap then (PySem.intText? x).map .int else none
 | _=>none
theorem WC (hx:x = "int") (hg:Gl X x) (hm:X.mg x=none) (ha:GA X B fl (e::es) fa l)
  (he:starEach (e::es) X.env=(false,eval e X.env)::starEach es X.env:=by rfl) (hpl:(backTo pos (starEach es X.env)).any (·.1)=false:=by rfl):GE X B fl (.Call (.Name x p') (e::es) [] pos) (aG fa tE) true 3:=by
 subst hx;refine bD (xW SI hg hm PyProof.Rows.boot_int ha (by decide) (by decide) he hpl) ?_;rintro σ H Q ⟨Ex,ρ,M,t,S,hf,q⟩;obtain⟨ts,hts,hf⟩:=bind_some hf;refine⟨Ex,ρ,M,ts,S,hts,fun vs H1 s1 r1=>?_⟩
 match ts,hf with
 | [.str z],hf=>
  have hf:(if z.length<=cap then (PySem.intText? z).map T.int else none)=some t:=hf;split at hf
  ·rename_i hz
   cases hn:PySem.intText? z with
   | none=>rw[hn] at hf;cases hf
   | some m=>
    rw[hn] at hf;cases (aIi hf);obtain⟨y,rfl,ry⟩:=dR r1;cases (show _=_ from ry);exact⟨z,m,rfl,hn,wE hz,q _ H1 s1 ((aM.scal rfl).mpr rfl)⟩
  ·cases hf
end
section
variable {X:Cx}{B:Hp}{fl:List Nat}{tg e:Expr}{n n':Bool}{l l':Nat}{f:Rho->Option T}{x:Str}{pos pos':Pos}
end
section
variable {X:Cx}{B:Hp}{fl:List Nat}{e:Expr}{f:Rho->Option T}{n:Bool}{l:Nat}{pos apos cpos:Pos}{x:Str}{tab:List (Str × List Str)}
end
section
variable {prog:Program}{w:World}{A:Around}{E:Value->Shared->Prop}{s:Shared}
end
section
variable {prog:Program}{w:World}{A:Around}{E:Value->Shared->Prop}{s:Shared}
end
section
variable {X:Cx}{elts:List Expr}{k:Nat}{p2:Pos}
end
def YE:T->Option (List T)
 | .tup ts=>some ts
 | _=>none
@[simp] theorem isTp_tup (ts:List T):YE (.tup ts)=some ts:=rfl
section
variable {X:Cx}{B:Hp}{fl:List Nat}{e e':Expr}{f g:Rho->Option T}{n n':Bool}{l l':Nat}{pos p' p2:Pos}{x:Str}{elts:List Expr}{k:Nat}
end
def cW:List T->Option (List Str)
 | []=>some []
 | .str x::r=>(cW r).map (x :: ·)
 | _=>none
theorem nG:∀ l:List Str,cW (l.map T.str)=some l
 | []=>rfl
 | x::l=>by rw[aJy,cW,nG l];rfl
theorem rW:∀ {ts:List T}{l:List Str},cW ts=some l->ts=l.map T.str
 | [],l,h=>by cases (aIi h);rfl
 | .str x::r,l,h=>by
  cases e:cW r with
  | none=>rw[cW,e] at h;cases h
  | some m=>
   rw[cW,e] at h;cases (aIi h);rw[rW e];rfl
def xL:T->T->Option T
 | .str x,.lst ts=>(cW ts).map fun l=>.bl (l.contains x)
 | _,_=>none
theorem rB {K:PySem.W.Frag}{H:Hp}{A:Addr->Prop}:∀ {l:List Str}{xs:List V},RepL K H A (l.map T.str) xs->xs=l.map V.str
 | [],_,h=>h
 | n::ns,_,h=>by
  obtain⟨x,r,e,h1,h2⟩:=h;rw[e,rB h2,(show x=.str n from h1)];rfl
theorem JP (x:Str):∀ l:List Str,inV (.str x) (l.map V.str)=l.contains x
 | []=>rfl
 | n::ns=>by
  have ih:=JP x ns;unfold inV at ih ⊢;rw[aJy,List.any_cons,ih,List.contains_cons];have:eqV (.str n) (.str x)=(x == n):=by
   show (n == x)=(x == n);exact Bool.beq_comm
  rw[this]
theorem IQ:∀ l:List Str,(l.map V.str).all jB=true
 | []=>rfl
 | _::l=>by rw[aJy,List.all_cons,IQ l];rfl
theorem WM {K:PySem.W.Frag}:GOp K (rIn K false) xL:=by
 intro x y t h;cases x<;>first | (cases h;done) | skip
 rename_i i;cases y<;>first | (cases h;done) | skip
 rename_i us;have h:(cW us).map (fun ns=>T.bl (ns.contains i))=some t:=h;cases ea:cW us with
 | none=>rw[ea] at h;cases h
 | some ns=>
  rw[ea] at h;cases (aIi h);cases rW ea;refine⟨rfl,fun H A A' vx vy rx ry Q q=>?_⟩;cases (show _=_ from rx);obtain⟨p,xs,rfl,h1,h2⟩:=ry.sqL;cases rB h2;refine⟨p,_,rfl,.inl h1,rfl,IQ ns,?_⟩;rw[JP];exact q
section
variable {X:Cx}{B:Hp}{fl:List Nat}{a b:Expr}{f g:Rho->Option T}{n n':Bool}{l l':Nat}{pos:Pos}
theorem VN (ha:GE X B fl a f n l) (hb:GE X B fl b g n' l') (hm:behindInMarks .In b=false:=by rfl):GE X B fl (.Compare a [.In] [b] pos) (f2 f g xL) true 3:=BA LD WM ha hb hm
end
section
variable {K:PySem.W.Frag}{B H H':Hp}{fl:List Nat}{Ex:List (T × V)}{σ:St}{ρ:Rho}{M:List Addr}{i:Nat}
end
section
variable {X:Cx}{B:Hp}{fl:List Nat}{n n':Bool}{l l':Nat}{e:Expr}{es:List Expr}{f:Rho->Option T}{fa:Rho->Option (List T)}{pos pos' lpos:Pos}{i:Nat}{x:Str}
end
section
variable {X:Cx}{B:Hp}{fl:List Nat}{n:Bool}{l k:Nat}{x y:Str}{ps:List Str}{p' p2 pos epos:Pos}
end
section
variable {X:Cx}{q1 q2 q3 q4 q5 q6 q7 q8 q9 q10 q11 q12 q13:Pos}{j1 j2 j3 j4:Nat}{x:Str}
end
section
variable {P:Program}{w:World}{K:PySem.W.Frag}{mg:Str->Option Value}{base:Heap}
end
section
variable {X:Cx}{K:PySem.W.Frag}{B H:Hp}{fl fl':List Nat}{src:List (Option Nat)}{N':List Str}{Ex:List (T × V)}{σ σ1:St}{ρ:Rho}{M:List Addr}{li l:Nat}{sc n:Bool}{fi:Rho->Option (List T)}{p:Rho->Option Bool}{f:Rho->Option T}
end
section
variable {X:Cx}{B:Hp}{fl fl':List Nat}{elt iter:Expr}{x0:Str}{p0 pos:Pos}{ifs:List Expr}{scope:Scope}{N':List Str}{src:List (Option Nat)}{fi:Rho->Option (List T)}{li l:Nat}{sc n:Bool}{p:Rho->Option Bool}{f:Rho->Option T}
end
section
variable {X:Cx}{B:Hp}{fl:List Nat}{n:Bool}{l:Nat}{x y:Str}{pos pos':Pos}
end
end G
namespace G
open PySem PySem.Calls PyProof.Rows
section
variable {prog:Program}{w:World}{A:Around}{E:Value->Shared->Prop}{s:Shared}
end
end G
namespace G
open PySem PySem.Spec PyProof.Rows L2
section
variable {X:Cx}
end
section
variable {X:Cx}{pins:List (Addr × Obj)}{σ:St}{H:Hp}{s:Shared}
end
section
variable {X:Cx}
end
section
variable {X:Cx}{B:Hp}{fl:List Nat}{e:Expr}{fa:Rho->Option (List T)}{l':Nat}
end
section
variable {X:Cx}{pins:List (Addr × Obj)}{σ:St}{H:Hp}{s:Shared}
end
section
variable {X:Cx}
end
section
variable {X:Cx}{B:Hp}{fl:List Nat}{i:Nat}{W:List Nat}{dp:T->Bool}{body:List Stmt}{rp:Rho->Option Out}{e:Expr}{f:Rho->Option T}{x y:Str}{n':Bool}{l':Nat}{pos pos':Pos}
end
section
variable {K:PySem.W.Frag}{B H:Hp}{fl:List Nat}{Ex:List (T × V)}{σ:St}{ρ:Rho}{M:List Addr}
end
section
variable {K:PySem.W.Frag}
end
section
variable {P:Program}{w:World}{K:PySem.W.Frag}{mg:Str->Option Value}{base:Heap}
end
section
variable {X:Cx}{B:Hp}{fl:List Nat}{e:Expr}{es:List Expr}{f:Rho->Option T}{fa:Rho->Option (List T)}{n n':Bool}{l l' k i p:Nat}{pos p' pos' apos:Pos}{x y:Str}{ps:List Str}{F:List T->Option T}
end
end G
namespace G
open PySem PySem.Calls PySem.Spec PyProof.Rows L2
section
variable {prog:Program}{w:World}{A:Around}{E:Value->Shared->Prop}{s:Shared}
end
section
variable {X:Cx}{B:Hp}{fl:List Nat}{a b:Expr}{f g:Rho->Option T}{n n':Bool}{l l':Nat}{pos:Pos}
end
section
variable {X:Cx}{B:Hp}{fl:List Nat}{e:Expr}{es:List Expr}{fa:Rho->Option (List T)}{l:Nat}{pos p':Pos}{x:Str}
end
end G
namespace G
open PySem PySem.Spec PyProof.Rows L2
section
variable {X:Cx}{B:Hp}{fl:List Nat}{i k:Nat}{W:List Nat}{dp dq:T->Bool}{body:List Stmt}{rp:Rho->Option Out}{e:Expr}{f:Rho->Option T}{x y:Str}{n':Bool}{l':Nat}{pos pos':Pos}
end
end G
namespace G
open PySem PySem.Calls PyProof.Rows
structure J (R:Keyed->Keyed->Prop) (T out P Q:List Keyed):Prop where
 perm:(out++P++Q).Perm T
 so:out.Pairwise R
 sp:P.Pairwise R
 sq:Q.Pairwise R
 up:∀ x∈out,∀ y,y∈P\/y∈Q->R x y
section
variable {prog:Program}{w:World}{A:Around}{E:Value->Shared->Prop}{s:Shared}
end
section
variable {a b out:Array Keyed}{ia ib:Nat}
end
section
variable {prog:Program}{w:World}{A:Around}{E:Value->Shared->Prop}{s:Shared}
end
def tr (a:Array Keyed) (n:Nat):List Keyed:=(a.toList.take n).reverse
section
variable {a b out:Array Keyed}{na nb:Nat}
end
section
variable {prog:Program}{w:World}{A:Around}{E:Value->Shared->Prop}{s:Shared}
end
section
variable {prog:Program}{w:World}{A:Around}{E:Value->Shared->Prop}{s:Shared}
end
structure SB (a₀:Array Keyed) (pe:Array (Nat × Nat × Nat)) (st:SortSt):Prop where
 perm:(arrOf st).toList.Perm a₀.toList
 kind:PyProof.Rows.kindOf st=oneType'
 failed:failedOf st=none
 pend:pendingOf st=pe
section
variable {prog:Program}{w:World}{A:Around}{E:Value->Shared->Prop}{s:Shared}{a₀:Array Keyed}{pe:Array (Nat × Nat × Nat)}{st:SortSt}
end
section
variable {prog:Program}{w:World}{A:Around}{E:Value->Shared->Prop}{s:Shared}{a₀:Array Keyed}{pe:Array (Nat × Nat × Nat)}{st:SortSt}
end
end G
namespace G
open PySem PySem.Calls PySem.Spec PyProof.Rows L2
section
variable {prog:Program}{w:World}{A:Around}{E:Value->Shared->Prop}{s:Shared}
end
section
variable {X:Cx}{B:Hp}{fl:List Nat}{e:Expr}{es:List Expr}{fa:Rho->Option (List T)}{l:Nat}{pos p':Pos}{x:Str}
end
end G
namespace G
open PySem PySem.Spec PyProof.Rows L2
def FM (cs:List (Nat × Addr)) (σ:St):Prop:=∀ c∈cs,σ[c.1]?=some (some (.ref c.2))
def tCB (K:PySem.W.Frag) (B:Hp) (fl:List Nat) (cs:List (Nat × Addr)) (rp:Rho->Option Out):TS:=fun D σ H=>∃ Ex ρ M o,Sl K B fl Ex σ ρ M H/\FM cs σ/\rp ρ=some o /\
 match o with
 | .nx ρ'=>∀ σ' M' H',Sl K B fl Ex σ' ρ' M' H'->FM cs σ'->D.nx σ' H'
 | _=>False
section
variable {X:Cx}{B:Hp}{fl:List Nat}{cs:List (Nat × Addr)}{body rest:List Stmt}{st:Stmt}{rp rq:Rho->Option Out}{e k:Expr}{f fk:Rho->Option T}{x y:Str}{n' nk:Bool}{l' lk:Nat}{pos pos':Pos}
end
section
variable {K:PySem.W.Frag}
end
section
variable {P:Program}{w:World}{K:PySem.W.Frag}{mg:Str->Option Value}{base:Heap}
end
section
variable {X:Cx}{pins:List (Addr × Obj)}{σ:St}{H:Hp}{s:Shared}
end
section
variable {K:PySem.W.Frag}{H H':Hp}{A A':Addr->Prop}
mutual
theorem aDk (kt:∀ b (u:HO),((∃ ys,u=.tup ys)\/∃ φ,u=.ext φ)->Rd H b u->Rd H' b u):∀ (t:T) {v:V},im t=true->Rep K H A t v->Rep K H' A' t v
 | .non,_,_,h=>h
 | .bl _,_,_,h=>h
 | .int _,_,_,h=>h
 | .str _,_,_,h=>h
 | .lst _,_,e,_=>by simp[im] at e
 | .tup ts,_,e,h=>by
  obtain⟨a,xs,e1,c,r⟩:=h;refine⟨a,xs,e1,?_,repL_imt kt ts (by simpa [im] using e) r⟩;rcases c with c | c
  ·exact .inl (kt a _ (.inl ⟨_,rfl⟩) c)
  ·exact .inr c
 | .exc _,_,_,h=>by
  obtain⟨a,C,e,c,r⟩:=h;exact⟨a,C,e,c,kt a _ (.inr ⟨_,rfl⟩) r⟩
 | .dct _,_,e,_=>by simp[im] at e
 | .own _,_,e,_=>by simp[im] at e
theorem repL_imt (kt:∀ b (u:HO),((∃ ys,u=.tup ys)\/∃ φ,u=.ext φ)->Rd H b u->Rd H' b u):∀ (ts:List T) {xs:List V},imL ts=true->RepL K H A ts xs->RepL K H' A' ts xs
 | [],_,_,h=>h
 | t::ts,_,e,h=>by
  obtain⟨x,r,e1,h1,h2⟩:=h;have e':im t=true/\imL ts=true:=by simpa [imL] using e
  exact⟨x,r,e1,aDk kt t e'.1 h1,repL_imt kt ts e'.2 h2⟩
end
end
section
variable {X:Cx}{B:Hp}{fl:List Nat}{i0 i1 i2 i3 k:Nat}{ps:List Str}{F:List T->Option (List T)}{x y0 y1 y2 y3:Str}{p' q0 q1 q2 q3 pos epos:Pos}
end
section
variable {X:Cx}{B:Hp}{fl:List Nat}{i0 j0 j1 j2 j3 jc k:Nat}{ps:List Str}{F:List T->Option (List T)}{f:Rho->Option T}{x y0 y1 y2 y3 yt yc:Str}{p' q0 q1 q2 q3 pos epos p2 pc ip apos:Pos}{e:Expr}{elts:List Expr}{kt:Nat}{n n':Bool}{l:Nat}{rest:List Stmt}{rr:Rho->Option Out}
end
def tW (l:List Str):List T:=l.map T.str
def CY:T->T->Option T
 | .str x,.str y=>if (y.length == 0)=false/\x.length<=cap/\(Txt.split x y).length<=cap then some (.lst (tW (Txt.split x y))) else none
 | _,_=>none
theorem OQ:∀ (l:List Str) (k:Nat),aL (l.map V.str) (strsFrom k l)
 | [],_=>.nil
 | x::l,k=>.cons ⟨_,rfl⟩ (OQ l (k+1))
def aDa:V->List V->Hp->VK->Prop:=fun x vs H Q=>∃ i j,x=.str i/\vs=[.str j]/\(j.length == 0)=false/\i.length<=sizeLine/\(Txt.split i j).length<=sizeLine/\∀ p,H p=none->Q (.ref p) (upd H p (.lst ((Txt.split i j).map V.str)))
theorem CL {X:Cx}:MtM X "str.split" aDa:=by
 intro pins s σ H x vs v us Q I rx rv h;obtain⟨i,j,rfl,rfl,hj,hi,hl,q⟩:=h;obtain⟨t,rfl⟩:=rx;obtain⟨u,rfl,ru⟩:=rv.one;obtain⟨t2,rfl⟩:=ru;have hf:H s.heap.objs.size=none:=I.hok.fresh (aKe _);have one:Txt.split i j=[i]->(listOfItself i t) X.A (wants (EP X pins σ Q) X.xe) s:=fun e=>by
  rw[e] at q;refine⟨.ref s.heap.objs.size,upd H s.heap.objs.size (.lst [V.str i]),I.laid (t':=s.toks) (fun b u e=>aIt _ e) (aKe _) ?_,rfl,q _ hf⟩;exact⟨(show 1<=sizeLine by decide),[Value.str i t],0,.cons ⟨_,rfl⟩ .nil,aJ2 _ rfl⟩
 by_cases c:(decide (i.length<j.length)||decide (Builtin.Str.strKind i<Builtin.Str.strKind j))=true
 ·refine call_meets F.slot_str_split (typeIs_str s i t) F.entry_str_split (F.args_str_split_2 _ _) (meets_str_split_cannot_occur i j t t2 c) (one ?_)
  unfold Txt.split;rw[if_pos c]
 ·have c':(decide (i.length<j.length)||decide (Builtin.Str.strKind i<Builtin.Str.strKind j))=false:=by simpa using c
  by_cases d:(Builtin.Str.occurrences i j 0 i.length (i.length+1)).isEmpty=true
  ·refine call_meets F.slot_str_split (typeIs_str s i t) F.entry_str_split (F.args_str_split_2 _ _) (meets_str_split_not_found i j t t2 c' hj d) (one ?_)
   unfold Txt.split;rw[if_neg c,if_pos d]
  ·have d':(Builtin.Str.occurrences i j 0 i.length (i.length+1)).isEmpty=false:=by simpa using d
   have e:Txt.split i j=Builtin.Str.partsBetween i (Builtin.Str.occurrences i j 0 i.length (i.length+1)) j.length:=by
    unfold Txt.split;rw[if_neg c,if_neg d]
   rw[e] at q hl;refine call_meets F.slot_str_split (typeIs_str s i t) F.entry_str_split (F.args_str_split_2 _ _) (meets_str_split_sep i j t t2 c' hj d' hi hl) ?_;refine⟨.ref s.heap.objs.size,upd H s.heap.objs.size (.lst ((Builtin.Str.partsBetween i (Builtin.Str.occurrences i j 0 i.length (i.length+1)) j.length).map V.str)),I.laid (fun b u e=>aIt _ e) (aKe _) ?_,rfl,q _ hf⟩;exact⟨by rw[aJq];exact hl,_,0,OQ _ _,aJ2 _ rfl⟩
theorem uA (K:PySem.W.Frag) (H:Hp) (A:Addr->Prop):∀ l:List Str,RepL K H A (tW l) (l.map V.str)
 | []=>rfl
 | x::l=>⟨.str x,l.map V.str,rfl,rfl,uA K H A l⟩
section
variable {X:Cx}{B:Hp}{fl:List Nat}{a b:Expr}{f g:Rho->Option T}{n n':Bool}{l l':Nat}{apos cpos pos:Pos}
theorem VZ (ha:GE X B fl a f n l) (hb:GE X B fl b g n' l')
  (hbase:attributeBase a "split" X.env (eval a X.env)=eval a X.env:=by rfl)
  (hfew:((backTo cpos (starEach [b] X.env)).all (fun x=>!x.1)&&(backToKw cpos (keywordEach [] X.env)).all (fun x=>x.1.isSome)
   && decide (([b]:List Expr).length+([]:List Keyword).length+(if ([]:List Keyword).isEmpty then 0 else 1)<30))=true:=by rfl)
  (hline:(apos.endLine == cpos.line)=true:=by rfl) (hs:starEach [b] X.env=[(false,eval b X.env)]:=by rfl):GE X B fl (.Call (.Attribute a "split" apos) [b] [] cpos) (f2 f g CY) true 3:=by
 refine bD (nS PySem.F.plainAttrs_str PySem.F.slot_str_split PySem.F.type_str_split CL ha (bI hb cB hs) hbase hfew hline hs rfl) ?_;rintro σ H Q ⟨Ex,ρ,M,t,S,hf,q⟩;obtain⟨x,hx,hf⟩:=bind_some hf;obtain⟨y,hy,hf⟩:=bind_some hf;cases x<;>first | (cases y<;>cases hf;done) | skip
 cases y<;>first | (cases hf;done) | skip
 rename_i i _ j;have hf:(if (j.length == 0)=false/\i.length<=cap/\(Txt.split i j).length<=cap then some (T.lst (tW (Txt.split i j))) else none)=some t:=hf;split at hf
 ·rename_i hc
  cases (aIi hf);refine⟨Ex,ρ,M,_,S,hx,fun v H1 s1 rx=>?_⟩;cases (aM.scal rfl).mp rx;refine⟨rfl,Ex,ρ,M,_,S.grow s1,hy,fun v2 H2 s2 ry=>?_⟩;cases (aM.scal rfl).mp ry;exact⟨i,j,rfl,rfl,hc.1,aKd (gJ hc.2.1),aKd (gJ hc.2.2),fun p hp=>q _ _ ((s1.trans s2).trans (cK hp _)) (aM.laid (s1.trans s2) hp (uA _ _ _ _))⟩
 ·cases hf
def eL:T->T->Option T
 | .str x,.lst ts=>(cW ts).bind fun l=>if JoinOk x l=true then some (.str (Txt.join x l)) else none
 | _,_=>none
theorem zS:∀ {l:List Str}{us:List Value},aL (l.map V.str) us->∃ l':List (Str × Tok),us=strValues l'/\l'.map (·.1)=l
 | [],_,.nil=>⟨[],rfl,rfl⟩
 | x::l,_,.cons r t=>by
  obtain⟨l',e1,e2⟩:=zS t;obtain⟨k,rfl⟩:=r;exact⟨(x,k)::l',by rw[e1];rfl,by rw[aJy,e2]⟩
theorem qQ (ha:GE X B fl a f n l) (hb:GE X B fl b g n' l') (m:M1 X a "join" apos b cpos:=by exact⟨rfl,rfl,rfl,rfl⟩):GE X B fl (.Call (.Attribute a "join" apos) [b] [] cpos) (f2 f g eL) true 3:=by
 intro pins s σ H Q I h;obtain⟨Ex,ρ,M,t,S,hf,q⟩:=h;obtain⟨u,hu,hf⟩:=bind_some hf;obtain⟨y,hy,hf⟩:=bind_some hf;have h2:∃ z ts,u=.str z/\y=.lst ts:=by
  cases u<;>first | (cases hf;done) | skip
  cases y<;>first | (cases hf;done) | exact⟨_,_,rfl,rfl⟩
 obtain⟨z,ts,rfl,rfl⟩:=h2;obtain⟨ws,ea,hf⟩:=bind_some (show ((cW ts).bind fun l=>if JoinOk z l=true then some (T.str (Txt.join z l)) else none)=some t from hf);split at hf
 ·rename_i hj
  cases (aIi hf);cases rW ea;refine wpAny_Call_method_lateS m.base m.few m.line (thn (ha pins s σ H (fun v H1=>aK H H1/\v=.str z) I ⟨Ex,ρ,M,_,S,hu,fun v H1 s1 r1=>⟨s1,(aM.scal rfl).mp r1⟩⟩) fun v s1 ⟨x,H1,I1,r1,s01,rx⟩=>?_);subst rx;obtain⟨tk,rfl⟩:=r1;rw[m.trees];refine SB.join (thn (hb pins s1 σ H1 (fun v H2=>aK H1 H2/\∃ p,v=.ref p/\SqL X.K H2 p (ws.map V.str)) I1 ⟨Ex,ρ,M,_,S.grow s01,hy,fun v H2 s2 r2=>⟨s2,?_⟩⟩) fun v2 s2 ⟨x2,H2,I2,r2,s12,p,rx2,sq⟩=>?_)
  ·obtain⟨p,xs,rfl,h1,h2⟩:=(r2.rep (S.grow s01)).sqL
   cases rB h2;exact⟨p,rfl,h1⟩
  ·subst rx2
   cases r2;obtain⟨its,rv,⟨ob,nn,e1,e2,_,e4⟩,_⟩:=I2.list sq;obtain⟨l2,rfl,e5⟩:=zS rv;exact⟨p,l2,rfl,⟨ob,e1,e2,nn,e4⟩,ws,e5,hj,fun t' k=>⟨.str (Txt.join z ws),H2,I2.tok k,⟨_,rfl⟩,q _ H2 (s01.trans s12) ((aM.scal rfl).mpr rfl)⟩⟩
 ·cases hf
def jI:T->T->Option T
 | .str x,.int n=>if 0<=n/\n<=1000/\x.length<=1000 then some (.str (Txt.mul x n)) else none
 | _,_=>none
theorem ZP {x:Str}{n:Int}(h0:0<=n) (h1:n<=1000) (hx:x.length<=1000):MulOk x n:=by
 refine⟨?_,fun h _=>?_,fun _ _=>?_⟩
 ·rw[Bool.or_eq_false_iff]
  exact⟨decide_eq_false (by lia),decide_eq_false (by lia)⟩
 ·have hd:(1000:Int)<=(2^63-1) / n:=by
   rw[Int.le_ediv_iff_mul_le (by lia)];lia
  lia
 ·have k:x.length*n.toNat<=1000*1000:=Nat.mul_le_mul hx (by lia)
  have hs:1000*1000<=sizeLine:=by decide
  unfold Builtin.Str.tooLong;simp;lia
theorem aBx:OpR X (binaryOp .Mult) (fun x y H Q=>∃ i j,x=.str i/\y=.int j/\MulOk i j/\Q (.str (Txt.mul i j)) H):=by
 intro pins s σ H x y v u Q I rx ry h;obtain⟨i,j,rfl,rfl,hz,q⟩:=h;obtain⟨t,rfl⟩:=rx;obtain⟨t',rfl⟩:=ry;exact SB.mul hz fun t' k=>⟨.str (Txt.mul i j),H,I.tok k,⟨_,rfl⟩,q⟩
theorem aEp:SOp (fun x y H Q=>∃ i j,x=.str i/\y=.int j/\MulOk i j/\Q (.str (Txt.mul i j)) H) jI:=by
 intro x y t e;cases x<;>first | (cases e;done) | skip
 cases y<;>first | (cases e;done) | skip
 rename_i i j;have e:(if 0<=j/\j<=1000/\i.length<=1000 then some (T.str (Txt.mul i j)) else none)=some t:=e;split at e
 ·rename_i hc
  cases (aIi e);exact⟨rfl,rfl,rfl,fun H Q q=>⟨i,j,rfl,rfl,ZP hc.1 hc.2.1 hc.2.2,q⟩⟩
 ·cases e
theorem BE (ha:GE X B fl a f n l) (hb:GE X B fl b g n' l'):GE X B fl (.BinOp a .Mult b pos) (f2 f g jI) true 3:=fH aBx aEp ha hb
end
def tO:Option Int->T
 | some i=>.int i
 | none=>.non
def vO:Option Int->V
 | some i=>.int i
 | none=>.non
def eQ:List T->Option (List (Option Int))
 | []=>some []
 | .int i::r=>(eQ r).map (some i :: ·)
 | .non::r=>(eQ r).map (none :: ·)
 | _=>none
theorem zZ:∀ {ts:List T}{l:List (Option Int)},eQ ts=some l->ts=l.map tO
 | [],_,h=>by cases h;rfl
 | t::r,l,h=>by
  cases t<;>first | (cases h;done) | skip
  ·cases e:eQ r with
   | none=>rw[eQ,e] at h;cases h
   | some l'=>
    rw[eQ,e] at h;cases (aIi h);rw[zZ e];rfl
  ·cases e:eQ r with
   | none=>rw[eQ,e] at h;cases h
   | some l'=>
    rw[eQ,e] at h;cases (aIi h);rw[zZ e];rfl
theorem DS {K:PySem.W.Frag}{H:Hp}{A:Addr->Prop}:∀ {l:List (Option Int)}{xs:List V},RepL K H A (l.map tO) xs->xs=l.map vO
 | [],_,h=>h
 | n::ns,_,h=>by
  obtain⟨x,r,e,h1,h2⟩:=h;cases n with
  | none=>rw[e,DS h2,(show x=.non from h1)];rfl
  | some i=>rw[e,DS h2,(show x=.int i from h1)];rfl
def xJ:T->T->Option T
 | .non,.lst ts=>(eQ ts).map fun l=>.bl (l.any Option.isNone)
 | _,_=>none
theorem JO:∀ l:List (Option Int),inV .non (l.map vO)=l.any Option.isNone
 | []=>rfl
 | n::l=>by
  have ih:=JO l;unfold inV at ih ⊢;rw[aJy,List.any_cons,ih,List.any_cons];cases n<;>rfl
theorem AS:∀ l:List (Option Int),(l.map vO).all jB=true
 | []=>rfl
 | none::l=>by rw[aJy,List.all_cons,AS l];rfl
 | some i::l=>by rw[aJy,List.all_cons,AS l];rfl
theorem WL {K:PySem.W.Frag}:GOp K (rIn K false) xJ:=by
 intro x y t h;cases x<;>first | (cases h;done) | skip
 cases y<;>first | (cases h;done) | skip
 rename_i us;have h:(eQ us).map (fun ns=>T.bl (ns.any Option.isNone))=some t:=h;cases ea:eQ us with
 | none=>rw[ea] at h;cases h
 | some ns=>
  rw[ea] at h;cases (aIi h);cases zZ ea;refine⟨rfl,fun H A A' vx vy rx ry Q q=>?_⟩;cases (show _=_ from rx);obtain⟨p,xs,rfl,h1,h2⟩:=ry.sqL;cases DS h2;refine⟨p,_,rfl,.inl h1,rfl,AS ns,?_⟩;rw[JO];exact q
section
variable {X:Cx}{B:Hp}{fl:List Nat}{a b:Expr}{f g:Rho->Option T}{n n':Bool}{l l':Nat}{pos:Pos}
theorem WW (ha:GE X B fl a f n l) (hb:GE X B fl b g n' l') (hm:behindInMarks .In b=false:=by rfl):GT X B fl (.Compare a [.In] [b] pos) (fB (f2 f g xJ)):=kD LD WL ha hb hm
end
def xD (k:Str):Value->Bool
 | .str b _=>b == k
 | _=>false
theorem KN {k:Str}:∀ {bs:List Str}{j:Nat},j<bs.idxOf k->∀ (h2:j<bs.length),(bs[j] == k)=false
 | b::r,0,h,_=>by
  by_cases e:b=k
  ·subst e;simp at h
  ·simpa using e
 | b::r,j+1,h,h2=>by
  by_cases e:b=k
  ·subst e;simp at h
  ·have hb:(b == k)=false:=by simpa using e
   rw[List.idxOf_cons,hb] at h;exact KN (bs:=r) (j:=j) (by simpa using h) (Nat.lt_of_succ_lt_succ h2)
theorem JX {k:Str}{l:List (Str × Tok)}{ws:List Str}(e:l.map (·.1)=ws) {j:Nat}(hj:j<(strValues l).length) (hw:j<ws.length):xD k (strValues l)[j]=(ws[j] == k):=by
 subst e;have h1:j<l.length:=by rw[aJq] at hw;exact hw
 have h2:(strValues l)[j]=Value.str l[j].1 l[j].2:=by
  have:(strValues l)[j]?=some (Value.str l[j].1 l[j].2):=by
   unfold strValues;rw[aJk,aIk h1];rfl
  exact (aIn.mp this).2
 rw[h2,List.getElem_map]
 rfl
theorem ZK {X:Cx}:MtR X "list.index" (fun x xs H Q=>∃ (a:Addr) (bs:List Str) (k:Str),x=.ref a/\xs=[.str k]/\SqL X.K H a (bs.map V.str)/\k∈bs/\Q (.int (bs.idxOf k:Nat)) H):=by
 intro pins s σ H x xs v us Q I rx rv h;obtain⟨a,bs,k,rfl,rfl,hS,hk,q⟩:=h;cases rx;obtain⟨u,rfl,ru⟩:=rv.one;obtain⟨tk,rfl⟩:=ru;obtain⟨its,r,p,hz⟩:=I.list hS;obtain⟨l,rfl,el⟩:=zS r;have hll:(strValues l).length=bs.length:=by unfold strValues;rw[aJq,<- el,aJq]
 have hj:bs.idxOf k<bs.length:=List.idxOf_lt_length_iff.mpr hk;have hz':bs.length<=sizeLine:=by simpa using hz
 rw[sizeLine_eq] at hz';obtain⟨⟨cls,dd,data,sl⟩,ho,hc,n,hd⟩:=p.isList;simp only at hc hd;subst hc hd;refine call_meets PySem.F.slot_list_index ⟨_,ho,rfl⟩ PySem.F.entry_list_index (PySem.F.args_list_index_2 _ _)
  (PySem.SeqAt.list_indexAt a (strValues l).toArray n dd sl (.str k tk) (xD k) (bs.idxOf k) (by simpa [hll] using hj) (by lia) ?_ ?_) ⟨ho,fun y hy=>?_,⟨.int _,H,I.tok _,⟨_,rfl⟩,q⟩⟩
 ·have hj':bs.idxOf k<(strValues l).length:=by lia
  show xD k (strValues l)[bs.idxOf k]=true;rw[JX el hj' hj]
  simpa using List.getElem_idxOf hj
 ·intro j hjs hlt
  have hj':j<(strValues l).length:=by simpa using hjs
  show xD k (strValues l)[j]=false;rw[JX el hj' (by lia)];exact KN hlt _
 ·obtain⟨b,_,rfl⟩:=aK4.mp (show y∈l.map (fun p=>Value.str p.1 p.2) from by simpa [strValues] using hy)
  exact PySem.SeqAt.EqAt.str_str b.1 b.2 k tk
def CS:T->T->Option T
 | .lst ts,.str k=>(cW ts).bind fun bs=>if k∈bs then some (.int (bs.idxOf k:Nat)) else none
 | _,_=>none
theorem VO {X:Cx}{B:Hp}{fl:List Nat}{o e:Expr}{f g:Rho->Option T}{n n':Bool}{l l':Nat}{apos pos:Pos}(ho:GE X B fl o f n l) (he:GE X B fl e g n' l')
  (hbase:attributeBase o "index" X.env (eval o X.env)=eval o X.env:=by rfl)
  (hfew:((backTo pos (starEach [e] X.env)).all (fun x=>!x.1)&&(backToKw pos (keywordEach [] X.env)).all (fun x=>x.1.isSome)
   && decide (([e]:List Expr).length+([]:List Keyword).length+(if ([]:List Keyword).isEmpty then 0 else 1)<30))=true:=by rfl)
  (hline:(apos.endLine == pos.line)=true:=by rfl) (hs:starEach [e] X.env=[(false,eval e X.env)]:=by rfl):GE X B fl (.Call (.Attribute o "index" apos) [e] [] pos) (f2 f g CS) true 3:=by
 refine bD (nS PySem.F.plainAttrs_list PySem.F.slot_list_index PySem.F.type_list_index ZK ho (bI he cB hs) hbase hfew hline hs rfl) ?_;rintro σ H Q ⟨Ex,ρ,M,t,S,hf,q⟩;obtain⟨x,hx,hf⟩:=bind_some hf;obtain⟨y,hy,hf⟩:=bind_some hf;cases x<;>first | (cases y<;>cases hf;done) | skip
 cases y<;>first | (cases hf;done) | skip
 rename_i us _ k;obtain⟨ns,ea,hg⟩:=bind_some (show ((cW us).bind fun ns=>if k∈ns then some (T.int (ns.idxOf k:Nat)) else none)=some t from hf);cases rW ea
 by_cases hk:k∈ns
 ·rw[if_pos hk] at hg
  cases (aIi hg);refine⟨Ex,ρ,M,_,S,hx,fun v H1 s1 rx=>?_⟩;obtain⟨p,xs,rfl,h1,h2⟩:=(rx.rep S).sqL;cases rB h2;refine⟨.inl ⟨rfl,_,h1⟩,Ex,ρ,M,_,S.grow s1,hy,fun v2 H2 s2 ry=>?_⟩;cases (aM.scal rfl).mp ry;have h1':SqL X.K H2 p (ns.map V.str):=by
   rcases h1 with h | h
   ·exact .inl (eX (fun o q=>s2 _ _ q) h)
   ·exact .inr h
  exact⟨p,ns,k,rfl,rfl,h1',hk,q _ _ (s1.trans s2) ((aM.scal rfl).mpr rfl)⟩
 ·rw[if_neg hk] at hg
  cases hg
def dD (acc:List Str) (x:Str):List Str:=if acc.contains x then acc else acc++[x]
def dsS (acc l:List Str):List Str:=l.foldl dD acc
theorem FV (acc:List Str) (x:Str):(dD acc x).length=if acc.contains x=true then acc.length else acc.length+1:=by
 unfold dD
 split<;>simp
theorem RO (acc:List Str) (x:Str):(fun k=>acc.contains k||decide (k=x))=fun k=>(dD acc x).contains k:=by
 funext k
 unfold dD
 by_cases h:acc.contains x=true
 ·rw[if_pos h]
  by_cases e:k=x
  ·subst e;rw[h];rfl
  ·rw[decide_eq_false e,Bool.or_false]
 ·rw[if_neg h]
  rw[aIz];simp
theorem JV {prog:Program}{w:World}(x:Str) (t:Tok):(PySem.strKind prog w).is x (.str x t)=true:=show Value.isStrOf x (.str x t)=true from beq_self_eq_true _
theorem EG {prog:Program}{w:World}{h h':Heap}{a:Addr}{S:Str->Bool}{n:Nat}(k:∀ o,h.get? a=some o->h'.get? a=some o) (s:Heap.SetOf (PySem.strKind prog w) h a S n):Heap.SetOf (PySem.strKind prog w) h' a S n:=by
 obtain⟨o,es,ep,t,e,r⟩:=s;exact⟨o,es,ep,t,k o e,r⟩
theorem aEd {prog:Program}{w:World}(S I l:Addr) (its:List (Str × Tok)) (hSI:S≠I) (hSl:S≠l) (hIl:I≠l):∀ (k i:Nat),its.length-i=k->∀ (A:Around) (R:Result->Shared->Prop) (s:Shared) (acc:List Str),A.handled=none->i<=its.length->s.heap.IsListIter I l i->s.heap.IsList l (strValues its).toArray->Heap.SetOf (PySem.strKind prog w) s.heap S (fun k=>acc.contains k) acc.length->acc.length+(its.length-i)+1<scanBound ->
   (∀ (h':Heap) (tk:Nat),Heap.SetOf (PySem.strKind prog w) h' S (fun k=>(dsS acc ((its.drop i).map (·.1))).contains k) (dsS acc ((its.drop i).map (·.1))).length->(∀ b o,b≠S->b≠I->s.heap.get? b=some o->h'.get? b=some o)->R (.ok (.ret .none)) { s with heap:=h',toks:=tk }) ->
   wpAny (model prog w) A.in1 (Builtin.«set.update.loop» { pos:=[Value.ref S,Value.ref I] }) (fun fin s'=>match fin with | .done f=>R (.ok f) s' | .again c'=>c'.quiet=true/\codeAny (model prog w) A c' R s') (fun e s'=>R (.error e) s') s:=by
 intro k
 induction k with
 | zero=>
  intro i hi A R s acc hA hle it hl st hb q;have e:its.drop i=[]:=aJa (by lia);rw[e] at q;unfold Builtin.«set.update.loop»;dsimp only;refine wpAny_bind (wpAny_pyNext_list_end hA it hl (by simp[strValues];lia) fun h' eb=>?_);exact wpAny_pure (q h' s.toks (EG (fun o e=>eb S o hSI e) st) fun b o _ h2 e=>eb b o h2 e)
 | succ k ih=>
  intro i hi A R s acc hA hle it hl st hb q;have hlt:i<its.length:=by lia
  have e:its.drop i=its[i]::its.drop (i+1):=aJ9 hlt;rw[e] at q;unfold Builtin.«set.update.loop»;dsimp only;refine wpAny_bind (wpAny_pyNext_list_item (x:=.str its[i].1 its[i].2) it hl (by simp[strValues,hlt]) fun h' it' sb=>?_);dsimp only;refine wpAny_bind (wpAny_holding ?_);unfold setAdd;refine wpAny_holding (wpAny_bind ((PySem.strKind prog w).pyHash (k:=its[i].1) (JV _ _) ?_));refine wpAny_setAddHashed_of (knd:=PySem.strKind prog w) (k:=its[i].1) (S:=fun k=>acc.contains k) (n:=acc.length) (JV _ _) rfl ?_ (by lia) fun h2 sb2 st2=>?_
  ·exact EG (fun o e=>(sb.2 S hSI).trans e) st
  ·refine wpAny_pure ⟨plainId_quiet F.plain_set_update_loop _,codeAny_builtin F.entry_set_update_loop ?_⟩
   rw[Around.under_plainId F.plain_set_update_loop _];have e2:dsS acc ((its[i]::its.drop (i+1)).map (·.1))=dsS (dD acc its[i].1) ((its.drop (i+1)).map (·.1)):=rfl;rw[e2] at q;have st3:Heap.SetOf (PySem.strKind prog w) h2 S (fun k=>(dD acc its[i].1).contains k) (dD acc its[i].1).length:=by
    rw[<- RO,FV];exact st2
   obtain⟨o,ho,hr⟩:=hl;have hl2:h2.IsList l (strValues its).toArray:=⟨o,(sb2.2 l (Ne.symm hSl)).trans ((sb.2 l (Ne.symm hIl)).trans ho),hr⟩;have it2:h2.IsListIter I l (i+1):=it'.at fun o e=>(sb2.2 I (Ne.symm hSI)).trans e;have hlen:=FV acc its[i].1;refine ih (i+1) (by lia) A R { s with heap:=h2,toks:=s.toks+1 } (dD acc its[i].1) hA (by lia) it2 hl2 st3 (by split at hlen<;>lia) fun h3 tk s3 k3=>q h3 tk s3 fun b o b1 b2 e=>k3 b o b1 b2 ((sb2.2 b b1).trans ((sb.2 b b2).trans e))
theorem aEe {prog:Program}{w:World}{A:Around}{R:Result->Shared->Prop}{s:Shared}{S I l:Addr}{its:List (Str × Tok)}(hSI:S≠I) (hSl:S≠l) (hIl:I≠l) (hA:A.handled=none) (it:s.heap.IsListIter I l 0) (hl:s.heap.IsList l (strValues its).toArray) (st:Heap.SetOf (PySem.strKind prog w) s.heap S (fun k=>([]:List Str).contains k) 0) (hn:its.length+1<scanBound)
  (q:∀ (h':Heap) (tk:Nat),Heap.SetOf (PySem.strKind prog w) h' S (fun k=>(dsS [] (its.map (·.1))).contains k) (dsS [] (its.map (·.1))).length->(∀ b o,b≠S->b≠I->s.heap.get? b=some o->h'.get? b=some o)->R (.ok (.ret .none)) { s with heap:=h',toks:=tk }):
  codeAny (model prog w) A (Code.builtin "set.update.loop" { pos:=[Value.ref S,Value.ref I] }) R s:=by
 refine codeAny_builtin F.entry_set_update_loop ?_;rw[Around.under_plainId F.plain_set_update_loop _];exact aEd S I l its hSI hSl hIl its.length 0 (by lia) A R s [] hA (aKo _) it hl st (by simpa using hn) q
section
variable {prog:Program}{w:World}{A:Around}{E:Value->Shared->Prop}{s:Shared}
theorem SO {l:Addr}{its:List (Str × Tok)}{Q:Value->Shared->Prop}(hA:A.handled=none) (hl:s.heap.IsList l (strValues its).toArray) (hn:its.length+1<scanBound)
  (h:∀ (h':Heap) (tk:Nat),Heap.SetOf (PySem.strKind prog w) h' s.heap.objs.size (fun k=>(dsS [] (its.map (·.1))).contains k) (dsS [] (its.map (·.1))).length->(∀ b o,b<s.heap.objs.size->s.heap.get? b=some o->h'.get? b=some o)->Q (.ref s.heap.objs.size) { s with heap:=h',toks:=tk }):
  wpAny (model prog w) A (call (.type "set") [.ref l]) Q E s:=by
 unfold call;refine wpAny_runValue (codeAny_of_tree ?_);have hm:(model prog w).den=denote table:=by simp only[model]
 rw[hm]
 wp_walk
 refine⟨by kernel_rfl,codeAny_builtin entry_typeCall ?_⟩;generalize hA1:A.under (Code.builtin "type.__call__" { pos:=Value.type "set" :: ({ pos:=[Value.ref l] }:Args).pos })=A1;unfold Builtin.«type.__call__»;dsimp only;rw[if_neg (show ¬ (Value.type "set" == Value.type "type")=true from by rw[F.called_set.notType];decide),if_neg (show ¬ _=true from by rw[F.called_set.canCreate];decide),F.typeCall_set_1];obtain⟨c,tl,em⟩:=F.called_set.mro;rw[em,F.called_set.made];refine wpAny_bind (wpAny_pure ?_);refine wpAny_bind (wpAny_pure ?_);rw[if_neg (show ¬ (c::tl).isEmpty=true from fun z=>by cases z)];refine wpAny_bind (wpAny_pure ?_);dsimp only;refine wpAny_bind (wpAny_pure ?_);refine wpAny_bind (wpAny_holding ?_);unfold call;refine wpAny_runValue (code_set_new_1 (E:=E) _ fun led=>?_);have ho1:(s.heap.push { cls:=Value.type "set",data:=Data.set #[] 0 (SetTable.fresh 0 0 led) }).get? s.heap.objs.size=some { cls:=Value.type "set",data:=Data.set #[] 0 (SetTable.fresh 0 0 led) }:=aJ2 _ rfl;obtain⟨⟨cls,dd,data,sl⟩,ho,hc,n,hd⟩:=hl;simp only at hc hd;subst hc hd;have ho':(s.heap.push { cls:=Value.type "set",data:=Data.set #[] 0 (SetTable.fresh 0 0 led) }).get? l=some ⟨.type "list",dd,.seq (strValues its).toArray n,sl⟩:=aIt _ ho;have hl':(s.heap.push { cls:=Value.type "set",data:=Data.set #[] 0 (SetTable.fresh 0 0 led) }).IsList l (strValues its).toArray:=⟨_,ho',rfl,n,rfl⟩;refine wpAny_bind ?_
 wp_walk using wpAny_loadPart' ho1
 rw[F.called_set.sub];refine wpAny_pure ?_;rw[if_neg (by decide)];refine wpAny_bind (wpAny_holding (wpAny_callSpecial?_slot ⟨_,ho1,rfl⟩ F.slot_set_init ?_));unfold call;refine wpAny_runValue (codeAny_call_builtin (by kernel_rfl) F.entry_set_init (check_set_init_1 ⟨_,ho1,rfl⟩ ?_));unfold Builtin.«set.__init__»;dsimp only
 wp_walk using wpAny_loadPart' ho',wpAny_pyIter_list hl'
 rw[show isSubtype _ (Value.type "set")=pure false from F.sub_list_set];refine wpAny_pure ?_;show wpAny _ _ (isInstance (Value.ref l) (Value.type "frozenset")) _ _ _
 wp_walk using wpAny_loadPart' ho'
 rw[show isSubtype _ (Value.type "frozenset")=pure false from F.sub_list_frozenset];refine wpAny_pure ?_;rw[if_neg (by decide)]
 wp_walk using wpAny_pyIter_list hl',wpAny_loadPart' ho'
 have hsz:(s.heap.push { cls:=Value.type "set",data:=Data.set #[] 0 (SetTable.fresh 0 0 led) }).objs.size=s.heap.objs.size+1:=aJ4 ..;have hlt:l<s.heap.objs.size:=aJ3 ho;have n1:s.heap.objs.size≠(s.heap.push { cls:=Value.type "set",data:=Data.set #[] 0 (SetTable.fresh 0 0 led) }).objs.size:=fun z=>absurd (z.trans hsz) (aKm (aKj _));have n2:s.heap.objs.size≠l:=fun z=>absurd z.symm (aKm hlt);have n3:(s.heap.push { cls:=Value.type "set",data:=Data.set #[] 0 (SetTable.fresh 0 0 led) }).objs.size≠l:=fun z=>absurd (z.symm.trans hsz) (aKm (Nat.lt_succ_of_lt hlt));have hl2:((s.heap.push { cls:=Value.type "set",data:=Data.set #[] 0 (SetTable.fresh 0 0 led) }).push { cls:=Value.type "list_iterator",data:=Data.fields #[Value.ref l,Value.int 0 0] }).IsList l (strValues its).toArray:=⟨_,aIt _ ho',rfl,n,rfl⟩;refine aEe (prog:=prog) (w:=w) (its:=its) n1 n2 n3 (by rw[<- hA1];exact hA) ⟨_,aJ2 _ rfl,rfl,rfl⟩ hl2 ?_ hn fun h' tk st k=>?_
 ·refine⟨_,#[],0,SetTable.fresh 0 0 led,aIt _ ho1,⟨rfl,rfl,rfl⟩,rfl,(fun e he=>by simp at he),(fun k=>by simp),Nat.lt_of_le_of_lt (aKo _) hn,by cases led<;>rfl,rfl⟩
 ·refine wpAny_pure (wpAny_pure ?_)
  dsimp only;rw[if_neg (by decide)];refine wpAny_pure ?_;dsimp only;refine h h' tk st fun b o hb e=>k b o (aKm hb) (fun z=>absurd (z.trans hsz) (aKm (Nat.lt_succ_of_lt hb))) (aIt _ (aIt _ e))
end
def wA (P:Program) (w:World) (a:Addr) (ws:List Str):HO:=.ext fun h=>Heap.SetOf (PySem.strKind P w) h a (fun k=>ws.contains k) ws.length
theorem SN {X:Cx}(hc:X.calm=true):eY X (.type "set") (fun vs H Q=>∃ p ws,vs=[.ref p]/\SqL X.K H p (ws.map V.str)/\ws.length+1<scanBound/\∀ a,H a=none->Q (.ref a) (upd H a (wA X.prog X.w a (dsS [] ws)))):=by
 intro pins s σ H vs us Q I rv h;obtain⟨p,ws,rfl,sq,hn,q⟩:=h;obtain⟨u,rfl,ru⟩:=rv.one;cases ru;obtain⟨its,r,⟨ob,nn,e1,e2,_,e4⟩,_⟩:=I.list sq;obtain⟨l,rfl,el⟩:=zS r;have hf:H s.heap.objs.size=none:=I.hok.fresh (aKe _);have hll:l.length=ws.length:=by rw[<- el,aJq]
 refine SO (its:=l) (I.ok.hd hc) ⟨ob,e1,e2,nn,e4⟩ (by lia) fun h' tk st k=>?_;rw[el] at st;refine⟨.ref s.heap.objs.size,upd H s.heap.objs.size (wA X.prog X.w s.heap.objs.size (dsS [] ws)),I.laid (h':=h') (t':=tk) (fun b o e=>k b o (aJ3 e) e) (aKe _) ?_,rfl,q _ hf⟩;refine⟨st,?_,fun h1 h2 s1 kk=>EG kk s1⟩;obtain⟨o,_,_,_,e,_⟩:=st;exact⟨o,e⟩
theorem SJ {X:Cx}:eY X (.builtin "len") (fun vs H Q=>∃ a ws,vs=[.ref a]/\H a=some (wA X.prog X.w a ws)/\Q (.int (ws.length:Nat)) H):=by
 intro pins s σ H vs us Q I rv h;obtain⟨a,ws,rfl,hH,q⟩:=h;obtain⟨u,rfl,ru⟩:=rv.one;cases ru;obtain⟨⟨o,es,ep,t,e,ex,hd,_,_,hb,hfit,hsz⟩,_⟩:=(show dU X.prog X.w H s.heap a (wA X.prog X.w a ws) from I.hok a _ hH);refine call_len_set e ex hd hfit ?_ ⟨.int _,H,I.tok _,⟨_,rfl⟩,?_⟩
 ·have:scanBound<2^63:=by decide
  lia
 ·rw[hsz];exact q
def tF:List T->Option T
 | [.lst ts]=>(cW ts).bind fun l=>if l.length<=1000 then some (.int ((dsS [] l).length:Nat)) else none
 | _=>none
section
variable {X:Cx}{B:Hp}{fl:List Nat}{e:Expr}{fa:Rho->Option (List T)}{l:Nat}{p1 p2 pos pos2:Pos}{x y:Str}
theorem IZ (hx:x = "len") (hy:y = "set") (hg:Gl X x) (hm:X.mg x=none) (hg2:Gl X y) (hm2:X.mg y=none) (hc:X.calm=true) (ha:GA X B fl [e] fa l)
  (he:starEach [e] X.env=[(false,eval e X.env)]:=by rfl) (he2:starEach [.Call (.Name y p2) [e] [] pos2] X.env=[(false,eval (.Call (.Name y p2) [e] [] pos2) X.env)]:=by rfl):
  GE X B fl (.Call (.Name x p1) [.Call (.Name y p2) [e] [] pos2] [] pos) (aG fa tF) true 3:=by
 subst hx hy;refine bD (gQ SJ hg hm PySem.boot_len (bI (xW (SN hc) hg2 hm2 (by kernel_rfl) ha (by decide) (by decide) he rfl) cB he2) (by decide) (by decide) he2 rfl) ?_;rintro σ H Q ⟨Ex,ρ,M,t,S,hf,q⟩;obtain⟨ts,hts,hf⟩:=bind_some hf;refine⟨Ex,ρ,M,ts,S,hts,fun vs H1 s1 r1=>?_⟩
 match ts,hf with
 | [.lst us],hf=>
  obtain⟨ws,ea,hg⟩:=bind_some (show ((cW us).bind fun l=>if l.length<=1000 then some (T.int ((dsS [] l).length:Nat)) else none)=some t from hf);split at hg
  ·rename_i hl
   cases (aIi hg);cases rW ea;obtain⟨y,rfl,ry⟩:=dR r1;obtain⟨p,xs,rfl,h1,h2⟩:=ry.sqL;cases rB h2;have hb:1001<scanBound:=by decide
   refine⟨p,ws,rfl,h1,by lia,fun a hn=>⟨a,dsS [] ws,rfl,bN,q _ _ (s1.trans (cK hn _)) ((aM.scal rfl).mpr rfl)⟩⟩
  ·cases hg
end
theorem IM {α:Type}{c:α}:∀ {u u' v v':List α},c ∉ u->c ∉ u'->u++c::v=u'++c::v'->u=u'/\v=v'
 | [],[],_,_,_,_,e=>⟨rfl,(List.cons.inj e).2⟩
 | [],y::u',_,_,_,h2,e=>by
  obtain⟨e1,_⟩:=List.cons.inj e;exact absurd (by rw[e1];exact aIm) h2
 | x::u,[],_,_,h1,_,e=>by
  obtain⟨e1,_⟩:=List.cons.inj e;exact absurd (by rw[<- e1];exact aIm) h1
 | x::u,y::u',v,v',h1,h2,e=>by
  obtain⟨e1,e2⟩:=List.cons.inj e;obtain⟨a,b⟩:=IM (fun z=>h1 (aIl _ z)) (fun z=>h2 (aIl _ z)) e2;exact⟨by rw[e1,a],b⟩
def chL (x:Str):List Nat:=x.cps.toList
theorem jZ {x y:Str}(h:chL x=chL y):x=y:=by
 cases x with
 | mk a=>
  cases y with
  | mk b=>
   have:a=b:=Array.toList_inj.mp h;rw[this]
theorem jY (x y:Str):chL (x++y)=chL x++chL y:=by
 show ((x.cps++y.cps).toList)=_;rw[Array.toList_append];rfl
theorem fU (c:Nat) (x y:Str) (r:List Str):chL (Str.join ⟨#[c]⟩ (x::y::r))=chL x++c::chL (Str.join ⟨#[c]⟩ (y::r)):=by
 rw[PyProof.Rows.join_cons_cons,jY,jY,aJ8]
 rfl
theorem KB {c:Nat}:∀ {a b:List Str},a≠[]->b≠[]->(∀ x∈a,c ∉ chL x)->(∀ x∈b,c ∉ chL x)->Str.join ⟨#[c]⟩ a=Str.join ⟨#[c]⟩ b->a=b
 | [],_,h,_,_,_,_=>absurd rfl h
 | [x],[],_,h,_,_,_=>absurd rfl h
 | [x],[y],_,_,_,_,e=>by rw[show x=y from e]
 | [x],y::z::r,_,_,h1,_,e=>by
  have e2:=congrArg chL e;rw[fU] at e2;have:chL (Str.join ⟨#[c]⟩ [x])=chL x:=rfl;rw[this] at e2;exact absurd (by rw[e2];simp) (h1 x aIm)
 | x::y::r,[],_,h,_,_,_=>absurd rfl h
 | x::y::r,[z],_,_,_,h2,e=>by
  have e2:=congrArg chL e;rw[fU] at e2;have:chL (Str.join ⟨#[c]⟩ [z])=chL z:=rfl;rw[this] at e2;exact absurd (by rw[<- e2];simp) (h2 z aIm)
 | x::y::r,x'::y'::r',_,_,h1,h2,e=>by
  have e2:=congrArg chL e;rw[fU,fU] at e2;obtain⟨a,b⟩:=IM (h1 x aIm) (h2 x' aIm) e2;have ih:=KB (a:=y::r) (b:=y'::r') (by simp) (by simp) (fun z hz=>h1 z (aIl _ hz)) (fun z hz=>h2 z (aIl _ hz)) (jZ b);rw[jZ a,ih]
theorem aEq (x y:Str):Txt.split x y≠[]:=by
 unfold Txt.split
 split
 ·simp
 ·split
  ·simp
  ·unfold Builtin.Str.partsBetween;simp
theorem NW {c:Nat}{rows:List Str}(h0:rows≠[]) (h:∀ x∈rows,c ∉ chL x):Txt.split (Txt.join ⟨#[c]⟩ rows) ⟨#[c]⟩=rows:=by
 have e:Txt.join ⟨#[c]⟩ rows=Str.join ⟨#[c]⟩ rows:=PySem.StrLaws.glued_eq_join _ _;rw[e];exact KB (aEq _ _) h0 (fun x hx=>PySem.StrLaws.split_free _ c x hx) h (PySem.StrLaws.join_split _ _)
theorem HZ:∀ (l acc:List Str),(acc++l).Nodup->dsS acc l=acc++l
 | [],acc,_=>by simp[dsS]
 | x::l,acc,h=>by
  have hx:acc.contains x=false:=by
   have:=(List.nodup_append.mp h).2.2;rw[Bool.eq_false_iff];intro z;exact this x (by simpa using z) x aIm rfl
  have e:dsS acc (x::l)=dsS (dD acc x) l:=rfl;rw[e,dD,hx,if_neg (by decide),HZ l (acc++[x]) (by rw[aJ8];exact h),aJ8]
  rfl
theorem HY {l:List Str}(h:l.Nodup):dsS [] l=l:=by
 have:=HZ l [] (by simpa using h)
 simpa using this
theorem HX {prog:Program}{w:World}{A:Around}{it:Addr}{fp:List Addr}{n:Nat}{P:Nat->Value->Prop}{St:Nat->Heap->Prop}(D:Draws prog w A it fp n P St):Draws prog w A it fp (n+1) (fun j=>P (j-1)) (fun j h=>1<=j/\St (j-1) h) where
 live:=fun i h s=>D.live (i-1) h s.2
 frame:=fun i h h' s k=>⟨s.1,D.frame (i-1) h h' s.2 k⟩
 item:=fun i s Q E hi st q=>by
  refine D.item (i-1) s Q E (by have:=st.1;lia) st.2 fun x h' tk p s' sb=>q x h' tk p ⟨Nat.le_add_left 1 i,?_⟩ sb;have e:i+1-1=i-1+1:=by have:=st.1;lia
  rw[e];exact s'
 done:=fun s Q E st q=>D.done s Q E (by have:=st.2;rwa [Nat.add_sub_cancel] at this) q
def rR (K:PySem.W.Frag) (a:Addr):It:=
 ⟨fun i H=>∃ xs x,SqL K H a xs/\xs[i]?=some x,fun i H x H'=>∃ T y,(∀ xs,SqL K H a xs->xs[i]?=some y)/\H T=none/\x=.ref T/\H'=upd H T (.tup [.int ((i+1:Nat):Int),y]),fun i H=>∃ xs,SqL K H a xs/\xs.length=i⟩
theorem aG0 {P:Program}{w:World}{K:PySem.W.Frag}{elts:List Expr}{k:Nat}{pos:Pos}(a e it:Addr) (hei:e≠it):Turn P w K (.Tuple elts k pos) (rR K a) [e,it] e (fun i h=>(∃ old,IsEnum h e it ((i+1:Nat):Int) old)/\h.IsListIter it a i) where
 mem:=by simp
 obj:=fun i h st b hb=>by
  obtain⟨⟨old,he⟩,hit⟩:=st;rcases aIu.mp hb with rfl | hb
  ·exact⟨_,he,fun v z=>by cases (show Data.fields _=Data.cell v from z)⟩
  ·have eb:b=it:=by simpa using hb
   subst eb;obtain⟨o,q,c,d⟩:=hit;exact⟨o,q,fun v z=>by rw[d] at z;cases z⟩
 keep:=fun i h h' st kp=>by
  obtain⟨⟨old,he⟩,hit⟩:=st;exact⟨⟨old,kp e (by simp) _ he⟩,hit.at fun o q=>kp it (by simp) o q⟩
 item:=by
  intro X hP hw hK hc i pins s σ H E I hf st hg;subst hP hw hK;obtain⟨xs,x,hq,hx⟩:=hg;obtain⟨its,rv,p,hz⟩:=I.list hq;obtain⟨u,hu,ru⟩:=rv.get hx;obtain⟨⟨old,he⟩,hit⟩:=st;obtain⟨oit,eit,cit,dit⟩:=id hit;obtain⟨ol,el,cl,nl,dl⟩:=id p.isList;have hle:a≠e:=cO el he (by rw[cl];simp);have hli:a≠it:=cO el eit (by rw[cl,cit];simp);have W:=WalksT.enumerateD (A:=X.A) (HX (Draws.list (prog:=X.prog) (w:=X.w) (A:=X.A.in1) (I.ok.hd hc) it a hli its.toArray)) e hei (by simp;exact⟨hei,Ne.symm hle⟩) (by simp);have hi:i+1<its.toArray.size+1:=by
   have:=(aIn.mp hu).1
   simpa using this
  refine W.item (i+1) s _ E hi ⟨⟨old,he⟩,Nat.le_add_left 1 i,hit,p.isList⟩ fun T vals h1 tk hPt hT hTup hMid keep1=>⟨_,rfl,?_⟩;refine W.go elts k pos (i+1) T { s with heap:=h1,toks:=tk } _ E hMid fun h2 hSt keep2=>?_;obtain⟨t,v,hv,rfl⟩:=hPt;have hvu:v=u:=by
   have:its[i]?=some v:=by simpa using hv
   rw[hu] at this;exact (aIi this).symm
  subst hvu;have hTw:=W.apart (i+1) T h1 hMid;obtain⟨oT,eT,cT,nT,dT⟩:=hTup;have eT2:h2.get? T=some oT:=keep2 T oT hTw eT;have new:dU X.prog X.w (upd H T (.tup [.int ((i+1:Nat):Int),x])) h2 T (.tup [.int ((i+1:Nat):Int),x]):=by
   refine⟨by rw[sizeLine_eq];show 2<=16777216;decide,[.int ((i+1:Nat):Int) t,v],.cons ⟨t,rfl⟩ (.cons ru .nil),⟨oT,eT2,cT,nT,dT⟩⟩
  have I2:Inv X pins σ (upd H T (.tup [.int ((i+1:Nat):Int),x])) { s with heap:=h2,toks:=tk }:=BN (fs:=[e,it]) I hT (fun b o hb q=>keep2 b o hb (keep1 b o hb q)) hf new;refine⟨.ref T,_,I2,rfl,⟨T,x,fun ys hy=>by rw[I.list_inj hy hq];exact hx,I.hok.fresh hT,rfl,rfl⟩,⟨hSt.1,hSt.2.2.1⟩,fun b hb=>?_⟩;rw[aU (fun z=>hTw (by rw[<- z];exact hb))];exact (hf b hb).1
 done:=by
  intro X hP hw hK hc i pins s σ H E I hf st hg;subst hP hw hK;obtain⟨xs,hq,hx⟩:=hg;obtain⟨its,rv,p,hz⟩:=I.list hq;obtain⟨⟨old,he⟩,hit⟩:=st;obtain⟨oit,eit,cit,dit⟩:=id hit;obtain⟨ol,el,cl,nl,dl⟩:=id p.isList;have hle:a≠e:=cO el he (by rw[cl];simp);have hli:a≠it:=cO el eit (by rw[cl,cit];simp);have hl:=rv.length;have W:=WalksT.enumerateD (A:=X.A) (HX (Draws.list (prog:=X.prog) (w:=X.w) (A:=X.A.in1) (I.ok.hd hc) it a hli its.toArray)) e hei (by simp;exact⟨hei,Ne.symm hle⟩) (by simp);have hn:i=its.toArray.size:=by simp;lia
  refine W.done s _ E ⟨⟨old,by rw[<- hn];exact he⟩,Nat.le_add_left _ _,by rw[Nat.add_sub_cancel,<- hn];exact hit,p.isList⟩ fun h' tk k=>⟨rfl,BM (t':=tk) (fs:=[e,it]) I (fun b o hb q=>k b o hb q) hf⟩
 self:=fun A i s Q E st h=>by
  obtain⟨⟨old,he⟩,hit⟩:=st;exact wpAny_pyIter_enum he h
end G
set_option maxRecDepth 100000
namespace G
open PySem PySem.Spec PyProof.Rows L2
abbrev IA (a:Value) (tk:Tok):Args:=⟨[a],[("start",.int 1 tk)]⟩
abbrev wJ (a:Value) (tk:Tok):Args:=⟨[.type "enumerate",a],[("start",.int 1 tk)]⟩
abbrev IC (o a:Value) (tk:Tok):Args:=⟨[o,a],[("start",.int 1 tk)]⟩
theorem aFw (a:Value) (tk:Tok):checkTypeCall "enumerate" (IA a tk)=pure ():=by kernel_rfl
theorem ZQ (a:Value) (tk:Tok):checkBuiltinCall "enumerate.__new__" (wJ a tk)=pure ():=by kernel_rfl
theorem RS (o a:Value) (tk:Tok):argsOk "object.__init__" (IC o a tk):=by
 have z:=signature?_of (id := "object.__init__") (n := "__tini__".toList) (o := "tcejbo".toList) (by kernel_rfl) F.owner_object;unfold argsOk;rw[z];kernel_rfl
abbrev liO (l:Addr):Obj:={ cls:=.type "list_iterator",data:=.fields #[.ref l,.int 0 0] }
abbrev enO (i:Addr):Obj:={ cls:=.type "enumerate",data:=.fields #[.none,.bool false,.ref i,rawInt 1,.none,.none] }
def RK (l:Addr) (its:Array Value) (n:Nat) (dc:Option Addr) (sl:Array (Option Value)):PySem.Spec:=fun _ R s=>s.heap.get? l=some ⟨.type "list",dc,.seq its n,sl⟩/\R (.ok (.ret (.ref (s.heap.push (liO l)).objs.size))) { s with heap:=(s.heap.push (liO l)).push (enO s.heap.objs.size) }
theorem ZT (l:Addr) (its:Array Value) (n:Nat) (dc:Option Addr) (sl:Array (Option Value)) (tk:Tok):Meets (Builtin.«enumerate.__new__» (wJ (.ref l) tk)) (RK l its n dc sl):=by
 refine .of_wp ?_;intro pr w A R s h;have su:=sub_enumerate;obtain⟨e,h⟩:=h;have il:s.heap.IsList l its:=⟨_,e,rfl,n,rfl⟩
 wp_walk using AutoSeq1.wpAny_loadPart' e
 apply wpAny_stack_any;intro st;apply wpAny_pure
 split
 ·rename_i c _ _ _ _ _
  rcases (c == Value.type "enumerate") with _ | _<;>(wp_walk using AutoSeq1.wpAny_loadPart' e,wpAny_pyIter_list il;exact⟨_,rfl,h⟩)
 ·wp_walk using AutoSeq1.wpAny_loadPart' e,wpAny_pyIter_list il;exact⟨_,rfl,h⟩
theorem XU (o a:Value) (tk:Tok):Meets (Builtin.«object.__init__» (IC o a tk)) (fun _ R s=>s.TypeIs o "enumerate" /\ R (.ok (.ret .none)) s):=by
 have k1:=F.called_enumerate.init.lookup;have k2:=F.called_enumerate.made;refine .of_wp ?_;intro pr w A R s h;obtain⟨k3,h⟩:=h
 repeat any_goals first | assumption | wp_step
 exact⟨_,rfl,h⟩
section
variable {prog:Program}{w:World}{A:Around}{E:Value->Shared->Prop}{s:Shared}
theorem SG {l:Addr}{items:Array Value}{tk:Tok}{Q:Value->Shared->Prop}(hl:s.heap.IsList l items)
  (h:∀ h',IsEnum h' (s.heap.objs.size+1) s.heap.objs.size 1 .none->h'.IsListIter s.heap.objs.size l 0->h'.objs.size=s.heap.objs.size+2->(∀ b o,s.heap.get? b=some o->h'.get? b=some o)->Q (.ref (s.heap.objs.size+1)) { s with heap:=h' }):
  wpAny (model prog w) A (call (.type "enumerate") [.ref l] [("start",.int 1 tk)]) Q E s:=by
 obtain⟨⟨c,dc,dt,sl⟩,el,ec,n,ed⟩:=hl;cases (show c=.type "list" from ec);cases (show dt=.seq items n from ed);obtain⟨c,tl,hm⟩:=F.called_enumerate.mro;have f1:=F.called_enumerate.made;have f2:=F.called_enumerate.sub;have f3:=F.called_enumerate.notType;have f4:=F.called_enumerate.canCreate;have f5:=aFw (.ref l) tk;refine wpAny_call (codeAny_of_tree ?_);refine (show wpAny _ _ (callAny (.type "enumerate") (IA (.ref l) tk)) _ _ _ from wpAny_pure ⟨Code.quiet_builtin _ (by decide +kernel),codeAny_builtin F.entry_type_call ?_⟩);rw[Around.under_plain (show (Code.builtin "type.__call__" (wJ (.ref l) tk)).weight=0 from rfl) (show (Code.builtin "type.__call__" (wJ (.ref l) tk)).cUnits=1 from rfl)]
 repeat any_goals first | assumption | wp_step
 have z1:(s.heap.push (liO l)).objs.size=s.heap.objs.size+1:=aJ4 ..;have z2:IsEnum ((s.heap.push (liO l)).push (enO s.heap.objs.size)) (s.heap.objs.size+1) s.heap.objs.size 1 .none:=by
  have:=aJ2 (s.heap.push (liO l)) (o:=enO s.heap.objs.size) rfl;rw[z1] at this;exact this
 have q:=h _ z2 ⟨_,aIt _ (aJ2 _ rfl),rfl,rfl⟩ (by rw[aJ4,z1]) fun b o x=>aIt _ (aIt _ x);have m1:=ZT l items n dc sl tk prog w A.in1 (fun r t=>r=.ok (.ret (.ref (s.heap.objs.size+1)))/\t={ s with heap:=(s.heap.push (liO l)).push (enO s.heap.objs.size) }) s ⟨el,by rw[z1],rfl⟩;refine codeAny_mono (R:=fun r t=>r=.ok (.ret (.ref (s.heap.objs.size+1)))/\t={ s with heap:=(s.heap.push (liO l)).push (enO s.heap.objs.size) }) (codeAny_call_builtin F.called_enumerate.plain F.entry_enumerate_new (wpAny_of_eq (ZQ (.ref l) tk) m1)) ?_;rintro r t ⟨rfl,rfl⟩;have k1:=F.called_enumerate.init.lookup;have k2:=F.called_enumerate.init.bind (.ref (s.heap.objs.size+1));have k3:Shared.TypeIs { s with heap:=(s.heap.push (liO l)).push (enO s.heap.objs.size) } (.ref (s.heap.objs.size+1)) "enumerate" := ⟨_,z2,rfl⟩
 repeat any_goals first | assumption | wp_step
 have m2:=XU (.ref (s.heap.objs.size+1)) (.ref l) tk prog w A.in1 (fun r t=>r=.ok (.ret .none)/\t={ s with heap:=(s.heap.push (liO l)).push (enO s.heap.objs.size) }) _ ⟨k3,rfl,rfl⟩;refine codeAny_mono (R:=fun r t=>r=.ok (.ret .none)/\t={ s with heap:=(s.heap.push (liO l)).push (enO s.heap.objs.size) }) (codeAny_call_builtin F.called_enumerate.init.plain F.entry_object_init (F.called_enumerate.init.check _ _ _ _ _ _ _ _ k3 (RS _ _ tk) m2)) ?_;rintro r t ⟨rfl,rfl⟩
 repeat any_goals first | assumption | wp_step
theorem SD {M:Model}{env:Env}{pos:Pos}{T:String}{e:Expr}{kws:List Keyword}{Q:Value->Shared->Prop}
  (h:wpAny M A (spliced (backTo pos (starEach [e] env))) (fun vs s1=>wpAny M A (PySem.evalAll ((backToKw pos (keywordEach kws env)).map (·.2)))
   (fun ks s2=>wpAny M A (call (.type T) vs (((backToKw pos (keywordEach kws env)).filterMap (·.1)).zip ks)) Q E s2) E s1) E s)
  (he:backTo pos (starEach [e] env)=(false,eval e env)::backTo pos (starEach [] env)) (hp:(backTo pos (starEach [e] env)).any (·.1)=false)
  (hall:(backToKw pos (keywordEach kws env)).all (·.1.isSome)=true) (hkw:(backToKw pos (keywordEach kws env)).any (·.1.isNone)=false):
  wpAny M A (callWith pos (.type T) [] (backTo pos (starEach [e] env)) (backToKw pos (keywordEach kws env))) Q E s:=by
 have go:wpAny M A (evalArgs (.type T) true (backTo pos (starEach [e] env)) (backToKw pos (keywordEach kws env))) (fun a t=>wpAny M A (call (.type T) a.pos a.kw) Q E t) E s:=by
  rw[he] at h ⊢;exact PyProof.Rows.evalArgs_kwB hall h
 unfold callWith
 apply wpAny_bind;apply wpAny_holding
 refine thn go fun a t h1=>?_
 apply wpAny_bind;apply wpAny_standAt
 simp only[hp,hkw,Bool.or_false]
 apply wpAny_bind;apply wpAny_pure;apply wpAny_bind
 exact thn h1 fun r u hr=>wpAny_bind (wpAny_holding (wpAny_point (wpAny_pure hr)))
end
section
variable {X:Cx}{elts:List Expr}{k:Nat}{p2:Pos}
def XI (K:PySem.W.Frag) (ta tk:TA):TI:=fun σ H R=>ta σ H fun vs H1=>tk σ H1 fun zs H2=>∃ l xs,vs=[.ref l]/\zs=[.int 1]/\SqL K H2 l xs/\R (rR K l) H2
theorem aCn {a kv:Expr}{ta tk:TA}{p pos kpos:Pos}(hg:Gl X "enumerate") (hm:X.mg "enumerate" = none) (ha:PA X [a] ta) (hk:PK X [⟨some "start",kv,kpos⟩] tk)
  (he:backTo pos (starEach [a] X.env)=(false,eval a X.env)::backTo pos (starEach [] X.env):=by rfl) (hpl:(backTo pos (starEach [a] X.env)).any (·.1)=false:=by rfl)
  (hall:(backToKw pos (keywordEach [⟨some "start",kv,kpos⟩] X.env)).all (·.1.isSome)=true:=by rfl) (hkw:(backToKw pos (keywordEach [⟨some "start",kv,kpos⟩] X.env)).any (·.1.isNone)=false:=by rfl)
  (hks:(backToKw pos (keywordEach [⟨some "start",kv,kpos⟩] X.env)).filterMap (·.1)=[Str.ofString "start"]:=by rfl):PI X (.Tuple elts k p2) (.Call (.Name "enumerate" p) [a] [⟨some "start",kv,kpos⟩] pos) (XI X.K ta tk):=by
 intro pins s σ H R I h;refine wpAny_Call_Name_kw (mI I hg hm PyProof.Rows.boot_enumerate ?_ (by decide) (by decide));refine SD ?_ he hpl hall hkw;refine thn (ha pos pins s σ H _ I h) fun us s1 ⟨vs,H1,I1,r1,q1⟩=>?_;refine thn (hk pos pins s1 σ H1 _ I1 q1) fun ws s2 ⟨zs,H2,I2,rz,q2⟩=>?_;rw[hks];obtain⟨l,xs,rfl,rfl,hq,q⟩:=q2;obtain⟨u,rfl,ru⟩:=gD r1;cases ru;obtain⟨w,rfl,rw'⟩:=gD rz;obtain⟨tk,rfl⟩:=rw';obtain⟨its,rv,p,hz⟩:=I2.list hq;refine SG (tk:=tk) p.isList fun h' he hit hsz keep=>wpAny_pyIter_enum he ?_;refine⟨_,[s2.heap.objs.size+1,s2.heap.objs.size],_,_,H2,rfl,I2.kept (t':=s2.toks) keep,aG0 l _ _ (aKl (aKj _)),⟨⟨_,he⟩,hit⟩,fun b hb=>?_,q⟩;have hb':s2.heap.objs.size<=b:=by
  simp only[aIu,List.mem_nil_iff,or_false] at hb;rcases hb with rfl | rfl<;>lia
 exact I2.fpOk hb' (I2.hok.fresh hb')
theorem VE {K:PySem.W.Frag}{a:Addr}{xs:List V}{g:TG}{tb:TS}{D:Ends}{σ:St}{H:Hp}(Pv:Nat->St->Hp->Prop) (h0:Pv 0 σ H) (hl:∀ i σ H,i<=xs.length->Pv i σ H->SqL K H a xs)
  (hs:∀ i x σ H T,xs[i]?=some x->Pv i σ H->H T=none->g (.ref T) σ (upd H T (.tup [.int ((i+1:Nat):Int),x])) fun σ2 H2=>tb { D with nx:=Pv (i+1),ct:=Pv (i+1),bk:=D.nx } σ2 H2) (hd:∀ σ H,Pv xs.length σ H->D.nx σ H):
  ∃ W:Nat->Nat->St->Hp->Prop,(∃ m,W 0 m σ H)/\∀ i m σ H,W i m σ H ->
   ((rR K a).stop i H/\D.nx σ H)\/((rR K a).go i H/\∃ N:St->Hp->Prop,(∀ σ' H',N σ' H'->∃ m',m'<m/\W (i+1) m' σ' H')/\∀ x H',(rR K a).yld i H x H'->g x σ H' fun σ2 H2=>tb { D with nx:=N,ct:=N,bk:=D.nx } σ2 H2):=by
 refine⟨fun i m σ H=>m=xs.length-i/\i<=xs.length/\Pv i σ H,⟨xs.length,by simp,aKo _,h0⟩,?_⟩;rintro i m σ H ⟨rfl,hi,pv⟩;have sq:=hl i σ H hi pv;rcases Nat.lt_or_ge i xs.length with lt | ge
 ·refine .inr ⟨⟨xs,xs[i],sq,by simp[lt]⟩,Pv (i+1),fun σ' H' p'=>⟨xs.length-(i+1),by lia,rfl,lt,p'⟩,?_⟩
  rintro x H' ⟨T,y,hy,hT,rfl,rfl⟩;exact hs i y σ H T (hy xs sq) pv hT
 ·have e:xs.length=i:=Nat.le_antisymm ge hi
  subst e;exact .inl ⟨⟨xs,sq,rfl⟩,hd σ H pv⟩
end
section
variable {X:Cx}{a b:Expr}{ta tb:TE}{apos cpos:Pos}
def aFq (ta tb:TE):TE:=fun σ H Q=>ta σ H fun x H1=>∃ i,x=.str i/\tb σ H1 fun y H2=>∃ j,y=.str j/\Q (.bl (Txt.startswith i j)) H2
theorem aCh (ha:PE X a ta) (hb:PE X b tb) (m:M1 X a "startswith" apos b cpos:=by exact⟨rfl,rfl,rfl,rfl⟩):PE X (.Call (.Attribute a "startswith" apos) [b] [] cpos) (aFq ta tb):=by
 intro pins s σ H Q I h;refine wpAny_Call_method_lateS m.base m.few m.line (thn (ha pins s σ H _ I h) fun v s1 ⟨x,H1,I1,r1,i,e,q1⟩=>?_);subst e;obtain⟨tk,rfl⟩:=r1;rw[m.trees];refine SB.startswith (thn (hb pins s1 σ H1 _ I1 q1) fun v2 s2 ⟨y,H2,I2,r2,j,e2,q2⟩=>?_);subst e2;obtain⟨tk2,rfl⟩:=r2;exact⟨j,tk2,rfl,.bl (Txt.startswith i j),H2,I2,rfl,q2⟩
end
def Itv (K:PySem.W.Frag) (a:Addr) (n:Nat):It:=
 ⟨fun i H=>i<n/\∃ xs x,SqL K H a xs/\xs[n-1-i]?=some x,fun i H x H'=>H'=H/\∀ xs,SqL K H a xs->xs[n-1-i]?=some x,fun i _=>n<=i⟩
theorem aG2 {P:Program}{w:World}{K:PySem.W.Frag}{tg:Expr}(a it:Addr) (n:Nat):Turn P w K tg (Itv K a n) [it] it (fun i h=>i<=n/\h.IsRevIter it a ((n:Int)-1-(i:Int))) where
 mem:=by simp
 obj:=fun i h st b hb=>by
  have e:b=it:=by simpa using hb
  subst e;obtain⟨o,e,c,d⟩:=st.2;exact⟨o,e,fun v z=>by rw[d] at z;cases z⟩
 keep:=fun i h h' st k=>⟨st.1,st.2.at fun o e=>k it (by simp) o e⟩
 item:=by
  intro X hP hw hK hc i pins s σ H E I hf st hg;subst hP hw hK;obtain⟨hin,xs,x,hq,hx⟩:=hg;obtain⟨its,rv,p,hz⟩:=I.list hq;obtain⟨u,hu,ru⟩:=rv.get hx;obtain⟨f0,f1,f2,f3,f4,f5⟩:=hf it (by simp);have hit:=st.2;rw[show (n:Int)-1-(i:Int)=((n-1-i:Nat):Int) by lia] at hit;refine wpAny_pyNext_rev_item hit p.isList (x:=u) (by simpa using hu) fun h' st' sb=>?_;have I1:Inv X pins σ H { s with heap:=h' }:=I.turned (t':=s.toks) (fun b o hb e=>(sb.2 b hb).trans e) f0 f1 f3 f4 f5;obtain⟨o,e,c,d⟩:=id st';rw[show ((n-1-i:Nat):Int)-1=(n:Int)-1-((i+1:Nat):Int) by lia] at st';exact⟨u,rfl,sN (s:={ s with heap:=h' }) e c d (by decide) ⟨x,H,I1,ru,⟨rfl,fun ys hy=>by rw[I.list_inj hy hq];exact hx⟩,⟨by lia,st'⟩,fun b hb=>(hf b hb).1⟩⟩
 done:=by
  intro X hP hw hK hc i pins s σ H E I hf st hg;subst hP hw hK;have hg:n<=i:=hg;obtain⟨f0,f1,f2,f3,f4,f5⟩:=hf it (by simp);have hit:=st.2;rw[show (n:Int)-1-(i:Int) = -1 by have:=st.1;lia] at hit;exact wpAny_pyNext_rev_end (I.ok.hd hc) hit fun h' eb=>⟨rfl,I.turned (t':=s.toks) (fun b o hb e=>eb b o hb e) f0 f1 f3 f4 f5⟩
 self:=fun _ _ _ _ _ st h=>wpAny_pyIter_revIter st.2 h
section
variable {X:Cx}{B:Hp}{fl:List Nat}{e tg:Expr}{f:Rho->Option T}{n:Bool}{l:Nat}{p pos:Pos}
def BS:T->Option (List T)
 | .lst ts=>some ts.reverse
 | _=>none
def fRv (f:Rho->Option T):Rho->Option (List T):=fun ρ=>(f ρ).bind BS
theorem WJ {x:Str}(hx:x = "reversed") (hg:Gl X "reversed") (hm:X.mg "reversed" = none) (ha:GE X B fl e f n l) (hs:starEach [e] X.env=[(false,eval e X.env)]:=by rfl):GI X B fl tg (.Call (.Name x p) [e] [] pos) (fRv f) l false:=by
 subst hx;intro pins s σ H R I hq;obtain⟨Ex,ρ,M,ts,S,hf,q⟩:=hq;obtain⟨t,ht,hl⟩:=bind_some hf;cases t<;>first | (cases hl;done) | skip
 rename_i us;cases (aIi hl);refine Call_ (mI I hg hm PyProof.Rows.boot_reversed (PyProof.Rows.callWith_type1 (thn ((bI ha cB hs) pos pins s σ H (fun vs H1=>aK H H1/\∃ v,vs=[v]/\aM X.K B H M H1 n l (.lst us) v) I ⟨Ex,ρ,M,_,S,ht,fun v H1 s1 r1=>⟨s1,v,rfl,r1⟩⟩) fun ws s1 ⟨vs,H1,I1,r1,s01,v,e1,rx⟩=>?_) hs rfl));subst e1;have rx':=rx.rep S;obtain⟨a,xs,rfl,hsq,hr⟩:=rx'.sqL;obtain⟨u,rfl,ru⟩:=gD r1;cases ru;obtain⟨its,rv,pl,hz⟩:=I1.list hsq;have hlen:its.length=us.length:=by rw[<- rv.length,hr.length]
 refine call_reversed_list pl.isList ?_;have hrev:Heap.IsRevIter (s1.heap.push (revObj a (((its.toArray).size:Int)-1))) s1.heap.objs.size a ((us.length:Int)-1-((0:Nat):Int)):=by
  refine⟨_,aJ2 _ rfl,rfl,?_⟩;show Data.fields _=_;simp[hlen]
 refine wpAny_pyIter_revIter hrev ?_;refine⟨s1.heap.objs.size,[s1.heap.objs.size],_,_,H1,rfl,I1.kept (t':=s1.toks) fun b o e=>aIt _ e,aG2 a _ us.length,⟨aKo _,hrev⟩,fun b hb=>?_,?_⟩
 ·have e:b=s1.heap.objs.size:=by simpa using hb
  subst e;exact I1.fpOk (aKe _) (I1.hok.fresh (aKe _))
 ·refine q (Itv X.K a us.length) H1 [(.lst us,.ref a)] s01 (fun p hp=>by cases aK7.mp hp;exact rx') ?_
  intro H2 A hA i;obtain⟨a',ys,e,hs2,hr2⟩:=(hA _ aIm).sqL;cases e;refine⟨fun t hti=>?_,fun hi=>(show us.length<=i by simpa using hi)⟩;have hi:i<us.length:=by simpa using (aIn.mp hti).1
  rw[List.getElem?_reverse hi] at hti;obtain⟨y,hy,ry⟩:=hr2.get hti;refine⟨⟨hi,ys,y,hs2,hy⟩,fun z H3 hz=>?_⟩;obtain⟨rfl,hz⟩:=hz;have:=hz ys hs2;rw[hy] at this;cases (aIi this);exact⟨aK.refl _,ry.weak fun b x=>⟨rfl,.inl x⟩⟩
end
structure PgTxt (K:PySem.W.Frag) (mg:Str->Option Value) (C:Addr):Prop where
 cl:Cls K C
 nN:jW K C "names"
 nT:jW K C "tables"
 nA:jW K C "asks"
 mgC:mg "Page" = some (.ref C)
def pgF (n t a:V):List (Str × V):=bU "asks" a (bU "tables" t (bU "names" n []))
theorem sn1:¬ (("names" : Str) = "tables"):=by decide +kernel
theorem sn2:¬ (("names" : Str) = "asks"):=by decide +kernel
theorem sn3:¬ (("tables" : Str) = "asks"):=by decide +kernel
theorem DI (n t a:V):(pgF n t a).lookup ("names" : Str)=some n:=by
 unfold pgF;rw[mL,if_neg sn2,mL,if_neg sn1,mL,if_pos rfl]
theorem nV (n t a:V):(pgF n t a).lookup ("tables" : Str)=some t:=by
 unfold pgF;rw[mL,if_neg sn3,mL,if_pos rfl]
theorem aCk (n t a:V):(pgF n t a).lookup ("asks" : Str)=some a:=by
 unfold pgF;rw[mL,if_pos rfl]
def EJ (C:Addr):Sp:=fun vs H Q _=>∃ (p dx:Addr) (n t a:V),vs=[.ref p,n,t,a]/\H p=some (.ins C dx [])/\Q .non (upd (upd (upd H p (.ins C dx (bU "names" n []))) p (.ins C dx (bU "tables" t (bU "names" n [])))) p (.ins C dx (pgF n t a)))
theorem aCz (n:V):(bU "names" n []).length<1000:=by show 1<1000;decide
theorem aD0 (n t:V):(bU "tables" t (bU "names" n [])).length<1000:=by
 show (if ("names" : Str) = "tables" then [(("names" : Str),t)] else (("names" : Str),n)::bU "tables" t []).length<1000;rw[if_neg sn1];show 2<1000
 decide
structure PgAt (K:PySem.W.Frag) (C:Addr) (B H:Hp) (p lt:Addr) (ws:List Str) (tabs:List T):Prop where
 ex:∃ dx ln la vs,H p=some (.ins C dx (pgF (.ref ln) (.ref lt) (.ref la)))/\H ln=some (.lst (ws.map V.str))/\H lt=some (.lst vs)/\H la=some (.lst [])/\RepL K H (fun b=>B b=none/\b≠lt) tabs vs/\B lt=none/\aK B H/\ln≠lt/\la≠lt/\vs.length<=1000
theorem ML {K:PySem.W.Frag}{H:Hp}{A:Addr->Prop}:∀ {ts us:List T}{xs:List V},RepL K H A (ts++us) xs->∃ x1 x2,xs=x1++x2/\RepL K H A ts x1/\RepL K H A us x2
 | [],us,xs,h=>⟨[],xs,rfl,rfl,h⟩
 | t::ts,us,xs,h=>by
  obtain⟨x,r,rfl,h1,h2⟩:=h;obtain⟨x1,x2,rfl,h3,h4⟩:=ML h2;exact⟨x::x1,x2,rfl,⟨x,x1,rfl,h1,h3⟩,h4⟩
theorem RT (xs:List V) (x:V):atI (xs++[x]) (-1)=some x:=by
 unfold atI ixN;rw[if_neg (by decide),if_pos (by simp;lia)];show (xs++[x])[((-1:Int)+(((xs++[x]).length:Nat):Int)).toNat]?=_;rw[show ((-1:Int)+(((xs++[x]).length:Nat):Int)).toNat=xs.length by simp;lia];simp
theorem YF (xs:List V) (x:V):ixN (xs++[x]).length (-1)=some xs.length:=by
 unfold ixN;rw[if_neg (by decide),if_pos (by simp;lia)]
 congr 1
 simp;lia
def NS (K:PySem.W.Frag) (C:Addr) (Fm Fa:List T->Option T):Sp:=fun vs H Q _=>∃ B p lt ws tabs nm t wd q more t',vs=[.ref p,q]/\PgAt K C B H p lt ws (tabs++[.tup [.str nm,t]])/\Rep K H (fun b=>b≠lt) (.lst (tW wd)) q/\Fm [.lst (tW ws),.lst (tW wd)]=some (.lst more)/\Fa [t,.lst more]=some (.lst t') /\
 ∀ H',(∀ b o,b≠lt->H b=some o->H' b=some o)->PgAt K C B H' p lt ws (tabs++[.tup [.str nm,.lst t']])->Q (.bl true) H'
theorem yC {X:Cx}{st:List Stmt}:PSs X st (fun _ _ _=>False):=fun _ _ _ _ _ _ h=>h.elim
def NT (K:PySem.W.Frag) (C:Addr):Sp:=fun vs H Q _=>∃ B p lt ws tabs nm,vs=[.ref p,.str nm]/\PgAt K C B H p lt ws tabs/\(∀ t∈tabs,∃ k u,t=.tup [.str k,u]/\k≠nm)/\Q .non H
theorem MM {K:PySem.W.Frag}{H:Hp}{A:Addr->Prop}:∀ {ts:List T}{xs:List V}{i:Nat}{x:V},RepL K H A ts xs->xs[i]?=some x->∃ t∈ts,Rep K H A t x
 | [],xs,i,x,h,e=>by rw[show xs=[] from h] at e;cases e
 | t::ts,xs,i,x,h,e=>by
  obtain⟨y,r,rfl,h1,h2⟩:=h;cases i with
  | zero=>cases e;exact⟨t,aIm,h1⟩
  | succ i=>
   obtain⟨u,hu,hr⟩:=MM h2 (i:=i) (by simpa using e);exact⟨u,aIl _ hu,hr⟩
theorem PgAt.grow {K:PySem.W.Frag}{C:Addr}{B H H':Hp}{p lt:Addr}{ws:List Str}{tabs:List T}(h:PgAt K C B H p lt ws tabs) (s:aK H H'):PgAt K C B H' p lt ws tabs:=by
 obtain⟨dx,ln,la,vs,hp,hln,hlt,hla,rp,hBl,sB,n1,n2,hvl⟩:=h;exact⟨dx,ln,la,vs,s _ _ hp,s _ _ hln,s _ _ hlt,s _ _ hla,rp.grow s,hBl,sB.trans s,n1,n2,hvl⟩
theorem aEr {K:PySem.W.Frag}{H H':Hp}{a:Addr}{xs:List V}(s:aK H H') (h:SqL K H a xs):SqL K H' a xs:=by
 rcases h with h | h
 ·exact .inl (eX (fun o q=>s _ _ q) h)
 ·exact .inr h
theorem MS (K:PySem.W.Frag) (H:Hp) (A:Addr->Prop):∀ n:Nat,RepL K H A (tI (List.replicate n 0)) (List.replicate n (V.int 0))
 | 0=>rfl
 | n+1=>⟨V.int 0,List.replicate n (V.int 0),rfl,rfl,MS K H A n⟩
def NV (K:PySem.W.Frag) (C:Addr) (Fn:List T->Option T):Sp:=fun vs H Q _=>∃ B p lt ws tabs nm q,vs=[.ref p,q]/\PgAt K C B H p lt ws tabs/\tabs.length<1000/\ws.length<=6/\Rep K H (fun b=>b≠lt) (.lst (tW [nm])) q/\Fn [.str nm]=some (.bl true)/\(∀ t∈tabs,∃ k u,t=.tup [.str k,u]/\k≠nm) /\
 ∀ H',(∀ b o,b≠lt->H b=some o->H' b=some o)->PgAt K C B H' p lt ws (tabs++[.tup [.str nm,.lst (tI (List.replicate (2^ws.length) 0))]])->Q (.bl true) H'
inductive Row (Fm Fa Fn : List T -> Option T) (ws : List Str) (tabs : List T) (row : Str) : List T -> Prop
 | tab {nm : Str} (e : Txt.split row (Str.ofString " ") = [Str.ofString "table", nm]) (hl : row.length <= 1000000) (h1 : tabs.length < 1000) (h6 : ws.length <= 6) (hn : Fn [.str nm] = some (.bl true)) (hno : ∀ t ∈ tabs, ∃ k u, t = .tup [.str k, u] /\ k ≠ nm) :
   Row Fm Fa Fn ws tabs row (tabs ++ [.tup [.str nm, .lst (tI (List.replicate (2 ^ ws.length) 0))]])
 | more {w0 : Str} {wd : List Str} {tb : List T} {nm : Str} {t : T} {more t' : List T} (e : Txt.split row (Str.ofString " ") = w0 :: wd) (hl : row.length <= 1000000) (hwl : wd.length <= 100000) (n1 : w0 ≠ Str.ofString "table") (n2 : w0 ≠ Str.ofString "ask") (et : tabs = tb ++ [.tup [.str nm, t]])
   (em : Fm [.lst (tW ws), .lst (tW (w0 :: wd))] = some (.lst more)) (ea : Fa [t, .lst more] = some (.lst t')) : Row Fm Fa Fn ws tabs row (tb ++ [.tup [.str nm, .lst t']])
def NU (K:PySem.W.Frag) (C:Addr) (Fm Fa Fn:List T->Option T):Sp:=fun vs H Q _=>∃ B p lt ws tabs row tabs',vs=[.ref p,.str row]/\PgAt K C B H p lt ws tabs/\Row Fm Fa Fn ws tabs row tabs' /\
 ∀ H',(∀ b o,b≠lt->H b=some o->H' b=some o)->PgAt K C B H' p lt ws tabs'->Q (.bl true) H'
def bgE (Fn:List T->Option T):Rho->Option T:=f1 (aG (aD (aA 0) aE) Fn) aV
def bg1:Rho->Option Out:=aS 1 (f2 (aA 0) (fC (.str " ")) CY)
def bg2:Rho->Option Out:=nX 2 (f1 (fG (aA 1) (eW (fC (.int 1))) cJ cJ) mD)
def bg3:Rho->Option Out:=rIf (pOr (fB (f2 (f2 (aA 1) (fC (.int 0)) oIx) (fC (.str "hands")) oNe)) (pOr (fB (f2 (aG (aD (aA 2) aE) cD) (fC (.int 1)) oLt)) (fB (f2 (aG (aD (aA 2) aE) cD) (fC (.int 6)) oGt)))) (aT (fC .non)) bE
def bg4 (Fn:List T->Option T):Rho->Option Out:=rIf (pOr (nQ (fT (aG (aD (bA (fFL (aA 2)) [none] aO (bgE Fn)) aE) jH))) (fB (f2 (aG (aD (aA 2) aE) tF) (aG (aD (aA 2) aE) cD) oLt))) (aT (fC .non)) bE
def NR (K:PySem.W.Frag) (C:Addr) (Fn:List T->Option T):Sp:=fun vs H Q _=>∃ row ws wd,vs=[.str row]/\bg1 [some (.str row),none,none]=some (.nx [some (.str row),some (.lst wd),none])/\bg2 [some (.str row),some (.lst wd),none]=some (.nx [some (.str row),some (.lst wd),some (.lst (tW ws))]) /\
 bg3 [some (.str row),some (.lst wd),some (.lst (tW ws))]=some (.nx [some (.str row),some (.lst wd),some (.lst (tW ws))])/\bg4 Fn [some (.str row),some (.lst wd),some (.lst (tW ws))]=some (.nx [some (.str row),some (.lst wd),some (.lst (tW ws))]) /\
 ∀ p lt H',aK H H'->H p=none->H lt=none->PgAt K C H H' p lt ws []->Q (.ref p) H'
theorem PgAt.since {K:PySem.W.Frag}{C:Addr}{B B' H:Hp}{p lt:Addr}{ws:List Str}{tabs:List T}(h:PgAt K C B' H p lt ws tabs) (s:aK B B'):PgAt K C B H p lt ws tabs:=by
 obtain⟨dx,ln,la,vs,hp,hln,hlt,hla,rp,hBl,sB,n1,n2,hvl⟩:=h;exact⟨dx,ln,la,vs,hp,hln,hlt,hla,rp.weak fun b x=>⟨s.free x.1,x.2⟩,s.free hBl,s.trans sB,n1,n2,hvl⟩
def gX (r:Str):Bool:=decide (r=Str.ofString "")||Txt.startswith r (Str.ofString "#")
def rO (Fn:List T->Option T) (row:Str) (ws:List Str):Prop:=∃ wd,bg1 [some (.str row),none,none]=some (.nx [some (.str row),some (.lst wd),none])/\bg2 [some (.str row),some (.lst wd),none]=some (.nx [some (.str row),some (.lst wd),some (.lst (tW ws))]) /\
 bg3 [some (.str row),some (.lst wd),some (.lst (tW ws))]=some (.nx [some (.str row),some (.lst wd),some (.lst (tW ws))])/\bg4 Fn [some (.str row),some (.lst wd),some (.lst (tW ws))]=some (.nx [some (.str row),some (.lst wd),some (.lst (tW ws))])
inductive Rds (Fm Fa Fn:List T->Option T):List Str->Option (List Str × List T)->Option (List Str × List T)->Prop
 | nil {st}:Rds Fm Fa Fn [] st st
 | skip {r:Str} {rs:List Str} {st st'} (h:gX r=true) (k:Rds Fm Fa Fn rs st st'):Rds Fm Fa Fn (r::rs) st st'
 | beg {r:Str} {rs:List Str} {ws:List Str} {st'} (h:gX r=false) (b:rO Fn r ws) (k:Rds Fm Fa Fn rs (some (ws,[])) st'):Rds Fm Fa Fn (r::rs) none st'
 | row {r:Str} {rs:List Str} {ws:List Str} {tabs tabs':List T} {st'} (h:gX r=false) (b:Row Fm Fa Fn ws tabs r tabs') (k:Rds Fm Fa Fn rs (some (ws,tabs')) st'):Rds Fm Fa Fn (r::rs) (some (ws,tabs)) st'
def EK (K:PySem.W.Frag) (C:Addr) (Fm Fa Fn:List T->Option T):Sp:=fun vs H Q _=>∃ text ws tabs,vs=[.str text]/\text.length<=sizeLine/\(Txt.split text (Str.ofString "\n")).length ≤ sizeLine ∧ Rds Fm Fa Fn (Txt.split text (Str.ofString "\n")) none (some (ws,tabs)) /\
 ∀ p lt H',PgAt K C H H' p lt ws tabs->Q (.ref p) H'
def wB (K:PySem.W.Frag) (C:Addr) (B H:Hp) (l:Addr):Option (List Str × List T)->V->Prop
 | none,v=>v=.non
 | some (ws,tabs),v=>∃ p lt,v=.ref p/\PgAt K C B H p lt ws tabs/\l≠lt
theorem wB.grow {K:PySem.W.Frag}{C:Addr}{B H H':Hp}{l:Addr}{st:Option (List Str × List T)}{v:V}(h:wB K C B H l st v) (s:aK H H'):wB K C B H' l st v:=by
 match st,h with
 | none,h=>exact h
 | some (ws,tabs),⟨p,lt,e,Pg,n⟩=>exact⟨p,lt,e,Pg.grow s,n⟩
theorem peF {X:Cx}{e:Expr}:PE X e (fun _ _ _=>False):=fun _ _ _ _ _ _ h=>h.elim
theorem aCj {X:Cx}{e:Expr}:PG X e (fun _ _ _ _=>False):=fun _ _ _ _ _ _ _ _ _ h=>h.elim
theorem OG:∀ {a b:List Str},tW a=tW b->a=b
 | [],[],_=>rfl
 | [],_::_,h=>by cases h
 | _::_,[],h=>by cases h
 | x::a,y::b,h=>by
  obtain⟨h1,h2⟩:=List.cons.inj (show T.str x::tW a=T.str y::tW b from h);cases h1;rw[OG h2]
theorem rO.det {Fn:List T->Option T}{row:Str}{a b:List Str}(h:rO Fn row a) (k:rO Fn row b):a=b:=by
 obtain⟨wd,e1,e2,_⟩:=h;obtain⟨wd',k1,k2,_⟩:=k;rw[e1] at k1;cases k1;rw[e2] at k2;have:=Out.nx.inj (aIi k2);simp only[List.cons.injEq,Option.some.injEq,T.lst.injEq,and_true,true_and] at this;exact OG this
theorem Row.det {Fm Fa Fn:List T->Option T}{ws:List Str}{tabs a b:List T}{row:Str}(h:Row Fm Fa Fn ws tabs row a) (k:Row Fm Fa Fn ws tabs row b):a=b:=by
 cases h with
 | tab e _ _ _ _ _=>
  cases k with
  | tab e' _ _ _ _ _=>
   rw[e] at e';simp only[List.cons.injEq,and_true,true_and] at e';rw[e']
  | more e' _ _ n1 _ _ _ _=>
   rw[e] at e';exact absurd (List.cons.inj e').1.symm n1
 | more e _ _ n1 _ et em ea=>
  cases k with
  | tab e' _ _ _ _ _=>
   rw[e] at e';exact absurd (List.cons.inj e').1 n1
  | more e' _ _ _ _ et' em' ea'=>
   rw[e] at e';obtain⟨h1,h2⟩:=List.cons.inj e';subst h1 h2;rw[et] at et';obtain⟨h3,h4⟩:=List.append_inj' et' rfl;cases h4;subst h3;rw[em] at em';cases em';rw[ea] at ea';cases ea'
   rfl
theorem Rds.det {Fm Fa Fn:List T->Option T}{rs:List Str}{st a b:Option (List Str × List T)}(h:Rds Fm Fa Fn rs st a):Rds Fm Fa Fn rs st b->a=b:=by
 induction h with
 | nil=>intro k;cases k;rfl
 | skip h k ih=>
  intro q;cases q with
  | skip h' k'=>exact ih k'
  | beg h' _ _=>rw[h] at h';cases h'
  | row h' _ _=>rw[h] at h';cases h'
 | beg h b k ih=>
  intro q;cases q with
  | skip h' k'=>rw[h] at h';cases h'
  | beg h' b' k'=>rw[<- b.det b'] at k';exact ih k'
 | row h b k ih=>
  intro q;cases q with
  | skip h' k'=>rw[h] at h';cases h'
  | row h' b' k'=>rw[<- b.det b'] at k';exact ih k'
def rT (Fm Fa Fn:List T->Option T) (text:Str) (p:List Str × List T):Prop:=text.length<=sizeLine/\(Txt.split text (Str.ofString "\n")).length ≤ sizeLine ∧ Rds Fm Fa Fn (Txt.split text (Str.ofString "\n")) none (some p)
noncomputable def fM (Fm Fa Fn:List T->Option T):List T->Option T
 | [.str text]=>@dite (Option T) (∃ p,rT Fm Fa Fn text p) (Classical.propDecidable _) (fun h=>some (.lst h.choose.2)) (fun _=>none)
 | _=>none
theorem MH {Fm Fa Fn:List T->Option T}{text:Str}{p:List Str × List T}(h:rT Fm Fa Fn text p):fM Fm Fa Fn [.str text]=some (.lst p.2):=by
 have k:∃ p,rT Fm Fa Fn text p:=⟨p,h⟩;unfold fM;dsimp only;rw[dif_pos k,aIi (k.choose_spec.2.2.det h.2.2)]
theorem aDg {Fm Fa Fn:List T->Option T}{ts:List T}{t:T}(h:fM Fm Fa Fn ts=some t):∃ text p,ts=[.str text]/\rT Fm Fa Fn text p/\t=.lst p.2:=by
 unfold fM at h;split at h
 ·rename_i text
  split at h
  ·rename_i k
   exact⟨text,_,rfl,k.choose_spec,(aIi h).symm⟩
  ·cases h
 ·cases h
structure CalR (P:Program) (w:World) (K:PySem.W.Frag) (mg:Str->Option Value) (base:Heap) (x:Str) (k:Nat) (Fm Fa Fn:List T->Option T):Prop where
 ex:∃ C f fd,FnOk P w K mg base CX0 k f fd ["text"] (EK K C Fm Fa Fn)/\mg x=some (.ref f)/\PySem.W.keepIn K (.ref f)=true/\eF K fd ["text"] []/\PgTxt K mg C
section
variable {X:Cx}{B:Hp}{fl:List Nat}{e:Expr}{fa:Rho->Option (List T)}{l k:Nat}{pos p' p2:Pos}{x:Str}{Fm Fa Fn:List T->Option T}
theorem BF (c:CalR X.prog X.w X.K X.mg X.base x k Fm Fa Fn) (hr:Room k X.A) (hg:Gl X x) (ha:GA X B fl [e] fa l) (hdb:(x == ("__debug__" : Str))=false:=by decide)
  (he:starEach [e] X.env=(false,eval e X.env)::starEach [] X.env:=by rfl) (hpl:(backTo pos (starEach [] X.env)).any (·.1)=false:=by rfl)
  (hab:attributeBase (.Call (.Name x p') [e] [] pos) "tables" X.env (eval (.Call (.Name x p') [e] [] pos) X.env)=eval (.Call (.Name x p') [e] [] pos) X.env:=by rfl):GE X B fl (.Attribute (.Call (.Name x p') [e] [] pos) "tables" p2) (aG fa (fM Fm Fa Fn)) true 3:=by
 obtain⟨C,f,fd,FO,hm,hk,hb,Tx⟩:=c.ex;refine bD (gR (jL FO hr hg hm hk hb .nil fX ha hdb he hpl) hab) ?_;rintro σ H Q ⟨Ex,ρ,M,t,S,hf,q⟩;obtain⟨ts,hts,hf⟩:=bind_some hf;obtain⟨text,⟨ws,tabs⟩,rfl,⟨h1,h2,R⟩,rfl⟩:=aDg hf;refine⟨Ex,ρ,M,_,S,hts,fun vs H1 s1 r1=>?_⟩;show EK X.K C Fm Fa Fn (vs++[]) H1 _ E0;rw[List.append_nil];obtain⟨v,rfl,rv⟩:=dR r1;cases (show v=.str text from rv);refine⟨text,ws,tabs,rfl,h1,h2,R,fun p lt H' Pg=>?_⟩;obtain⟨dx,ln,la,vs,hp,hln,hlt,hla,rp,hBl,sB,n1,n2,hvl⟩:=Pg;exact⟨p,C,dx,_,_,rfl,hp,Tx.cl,Tx.nT,nV _ _ _,q _ H' (s1.trans sB) ⟨lt,vs,rfl,s1.free hBl,hlt,rp.weak fun b x=>⟨⟨fun _ z=>(S.mB b z).2 (s1.free x.1),fun _=>S.same.free (s1.free x.1),fun _=>s1.free x.1⟩,x.2⟩⟩⟩
end
end G
namespace L2
open PySem PySem.Spec PyProof.Rows
structure Air (fr:Bool) (h₀:Heap) (H:Hp) (a:Addr) (cls:Value) (h:Heap):Prop where
 new:h₀.get? a=none
 free:H a=none
 obj:∃ oe vs a0,h.get? a=some oe/\oe.cls=cls/\oe.data=.fields vs/\vs[0]?=some a0/\((fr=true/\vs[1]?=some .none) \/
  ∃ T oT ts,fr=false/\vs[1]?=some (.ref T)/\h₀.get? T=none/\H T=none/\T≠a/\h.get? T=some oT/\oT.data=.fields ts/\ts[3]?=some .none)
abbrev XS:=Bool->Value->St->Hp->Prop
def XP (X:Cx) (pins:List (Addr × Obj)) (Ex:XS) (e:Value) (s':Shared):Prop:=∃ fr a cls σ H H' s,e=.ref a/\Inv X pins σ H s/\s'.os=s.os/\AllBare s'.gens/\Un (frs X.stack) [] H H' s.heap s'.heap/\HOk X.prog X.w H' s'.heap/\Air fr s.heap H' a cls s'.heap/\Ex fr cls σ H'
abbrev TSX:=Ends->XS->St->Hp->Prop
abbrev TEX:=St->Hp->VK->(Bool->Value->Hp->Prop)->Prop
section
variable {X:Cx}{st:Stmt}{rest a b:List Stmt}{t u:TSX}{e:Expr}{te:TEX}{pos:Pos}
end
section
variable {X:Cx}{k:Nat}{f C:Addr}{fd:FuncData}{ps:List Str}{sp:Sp}{x:Str}{p pos:Pos}{e:Expr}{es:List Expr}{t:TA}
end
def Cx.hdl (X:Cx) (a:Addr):Cx:={ X with A:=X.A.mark (some (.ref a)),calm:=false,xe:=fun _ _=>False }
section
variable {X:Cx}{pins:List (Addr × Obj)}{σ:St}{H H':Hp}{s s':Shared}{a:Addr}{cls:Value}
end
section
variable {X:Cx}{k:Nat}{f:Addr}{fd:FuncData}{ps:List Str}{sp:Sp}{x:Str}{p pos:Pos}{e:Expr}{es:List Expr}{t:TA}
end
end L2
namespace G
open PySem PySem.Spec PyProof.Rows L2
section
variable {X:Cx}{B:Hp}{fl:List Nat}{n:Bool}{l:Nat}{st:Stmt}{rest a b:List Stmt}{r:Rho->Option Out}{r1 r2:Rho->Option (Out ⊕ Str)}{pos:Pos}{c:Expr}{p:Rho->Option Bool}
end
section
variable {X:Cx}{k:Nat}{f:Addr}{fd:FuncData}{ps:List Str}{sp:Sp}{x:Str}{p pos:Pos}{e:Expr}{es:List Expr}{t:TA}
end
section
variable {X:Cx}{B:Hp}{fl:List Nat}{n n':Bool}{l l' k:Nat}{e:Expr}{es:List Expr}{fa:Rho->Option (List T)}{FX:List T->Option (T ⊕ Str)}{x:Str}{ps:List Str}{p' pos epos:Pos}
end
def LI:Out ⊕ Str->Option (T ⊕ Str)
 | .inl o=>(bJ o).map .inl
 | .inr nm=>some (.inr nm)
@[simp] theorem outX_inl (o:Out):LI (.inl o)=(bJ o).map .inl:=rfl
@[simp] theorem outX_inr (nm:Str):LI (.inr nm)=some (.inr nm):=rfl
section
variable {P:Program}{w:World}{K:PySem.W.Frag}{mg:Str->Option Value}{base:Heap}
end
section
variable {X:Cx}{B:Hp}{fl:List Nat}{e:Expr}{f:Rho->Option T}{n:Bool}{l:Nat}{pos p' p2:Pos}{x y:Str}{tab:List (Str × Bool)}
end
section
variable {X:Cx}{B:Hp}{fl:List Nat}{e:Expr}{es:List Expr}{f:Rho->Option T}{fa:Rho->Option (List T)}{n n':Bool}{l l' k:Nat}{pos p':Pos}{x:Str}{ps:List Str}{F:List T->Option T}
end
section
variable {P:Program}{w:World}{K:PySem.W.Frag}{mg:Str->Option Value}{base:Heap}
end
section
variable {X:Cx}{B:Hp}{fl:List Nat}{e:Expr}{es:List Expr}{f:Rho->Option T}{n:Bool}{l:Nat}{pos p' p2:Pos}{x y:Str}{tab:List (Str × Bool)}
end
section
variable {X:Cx}{e1 e2:Expr}{t1:TE}{t2:TEX}{k:Nat}{f:Addr}{fd:FuncData}{ps:List Str}{sp:Sp}{x:Str}{p pos:Pos}
end
section
variable {X:Cx}{B:Hp}{fl:List Nat}{n nf ng n1:Bool}{l lf lg l1 la kf kg:Nat}{e1 e:Expr}{es:List Expr}{f1:Rho->Option T}{fa:Rho->Option (List T)}{FX:List T->Option (T ⊕ Str)}{F:List T->Option T}{x y:Str}{psf psg:List Str}{p p' pos pos' epos:Pos}
end
section
variable {X:Cx}{B:Hp}{fl:List Nat}{n n':Bool}{l l' k:Nat}{e:Expr}{es:List Expr}{fa:Rho->Option (List T)}{FX:List T->Option (T ⊕ Str)}{x:Str}{ps:List Str}{p' pos epos:Pos}{ds:List Value}{dvs:List V}{dts:List T}
end
section
variable {K:PySem.W.Frag}{mg:Str->Option Value}{base:Heap}{y m c:Str}{C CE:Addr}{b0:Bool}{tab:List (Str × Bool)}{nms:List Str}{cd:ClassData}
end
section
variable {X:Cx}{B:Hp}{fl:List Nat}{n n':Bool}{l l' k la:Nat}{e:Expr}{es:List Expr}{fa:Rho->Option (List T)}{FX:List T->Option (T ⊕ Str)}{x:Str}{ps:List Str}{p' pos epos:Pos}
end
section
variable {P:Program}{w:World}{K:PySem.W.Frag}{mg:Str->Option Value}{base:Heap}
end
section
variable {X:Cx}{E:XK}{B:Hp}{fl:List Nat}{n:Bool}{l:Nat}{st:Stmt}{rest body:List Stmt}{r r1 r2:Rho->Option (Out ⊕ Str)}{pos p2:Pos}{x:Str}
end
section
variable {P:Program}{w:World}{K:PySem.W.Frag}{mg:Str->Option Value}{base:Heap}
end
section
variable {X:Cx}{B:Hp}{fl:List Nat}{n n':Bool}{l l' la k i:Nat}{e:Expr}{es:List Expr}{fa:Rho->Option (List T)}{FX:List T->Option (T ⊕ Str)}{x c v:Str}{ps:List Str}{p' pos epos cp hpos tpos:Pos}{b₀:Stmt}{suite:List Stmt}{rs:Rho->Option Out}{nms:List Str}{ds:List Value}{dvs:List V}{dts:List T}
end
section
variable {X:Cx}{B:Hp}{fl:List Nat}{n n':Bool}{l la k i j:Nat}{e:Expr}{es:List Expr}{fa:Rho->Option (List T)}{FX:List T->Option (T ⊕ Str)}{x y:Str}{ps:List Str}{p' pos ypos apos:Pos}{rest:List Stmt}{rs rr:Rho->Option Out}{nms:List Str}{Pt:Addr}{oP:HO}
end
theorem WV {X:Cx}{B:Hp}{fl:List Nat}{n:Bool}{l:Nat}{body:List Stmt}{hh:ExceptHandler}{hs:List ExceptHandler}{r:Rho->Option Out}{pos:Pos}(hb:GSs X.nox B fl n l body r):GS X B fl n l (.Try body (hh::hs) [] [] pos) r:=by
 intro pins s σ H D I h;refine wpAny_Try_except (wpAny_mono (hb pins s σ H D (I.wish _) h) (fun f s1 z=>?_) fun _ _ z=>False.elim z);have z:=z.unwish;cases f with
 | next=>exact wpAny_execs_nil z
 | ret v=>exact z
 | brk=>exact z
 | cont=>exact z
end G
namespace My
open PySem PySem.Spec PyProof.Rows L2 G
def top (i:Nat):Stmt:=PySem.Challenge.pw_groupcost_k89_whole_pages_of_makers.main.body.getD i (.Pass ⟨0,0,0,0⟩)
local macro_rules | `(tactic| trivial)=>`(tactic| first | exact Or.inl rfl | exact Or.inr rfl | exact Or.inr (Or.inl rfl) | exact Or.inr (Or.inr rfl))
set_option maxRecDepth 100000
variable {P:Program}{w:World}{K:PySem.W.Frag}{mg:Str->Option Value}{base:Heap}{f:Addr}
abbrev nZ:Stmt:=top 58
theorem aDs:FnScope ["script","k"] ["script","k"] (defScope nZ):=⟨rfl,rfl,rfl,by decide +kernel,rfl,by decide +kernel,by decide +kernel⟩
def uC:Rho->Option Out:=
 aJ (rIf (fB (f2 (aA 1) (aG (aD (aA 0) aE) cD) oLt)) (aT (f1 (f2 (aA 0) (aA 1) oIx) aV)) bE)
  (aT (fC (.int 0)))
def fO:List T->Option T:=Fof 2 0 uC
theorem OW (t0 t1:T):fO [t0,t1]=(uC [some t0,some t1]).bind bJ:=rfl
theorem TH (aGl:mg "len" = none) (cdv:Value) (A:Around) (outer:List Env) (s:Shared) (H:Hp) (E:XK)
  (hr:Room 0 (A.deeper (envOfC "_law_cell" (defScope nZ) s.heap.objs.size f cdv))):
  GSs (bB CX0 P w K mg base ["script","k"] "_law_cell" (defScope nZ) f cdv A outer s H E).nox H [1,1] false 3 (defBody nZ) uC:=by
 have hu:=hr.units;unfold uC;exact @aP _ _ _ _ _ _ _ _ _ (@bX _ _ _ _ _ _ _ _ _ _ _ _ (@kF _ _ _ _ _ _ _ _ _ _ _ _ (aB 1) (cX (by rfl) (by rfl) aGl (aF (aB 0) aH))) (@aN _ _ _ _ _ _ _ (@aY _ _ _ _ _ _ _ _ (@aW _ _ _ _ _ _ _ _ _ (@GE.sc _ _ _ _ _ _ _ (@bW _ _ _ _ _ _ _ _ _ _ _ _ (aB 0) (aB 1) (by exact fun _ _=>rfl))) (by rfl)))) bY) (@aN _ _ _ _ _ _ _ (@aY _ _ _ _ _ _ _ _ (@aW _ _ _ _ _ _ _ _ _ ge_int (by rfl))))
theorem aAg {fd:FuncData}(aGl:mg "len" = none) (Fu:Fun K "_law_cell" "_law_cell" nZ f fd):
  FnOk P w K mg base CX0 1 f fd ["script","k"] (spT K fO false 3):=
 gfn Fu aDs rfl (by decide) (fun ts t h=>bO h) (fun cdv A outer s H E hr=>@TH _ _ _ _ _ _ aGl cdv A outer s H E hr) (fun ts t h=>bQ h)
abbrev pB:Stmt:=top 59
theorem rL:FnScope ["cell","many","words","letters","turn","start","fill"] ["cell","many"] (defScope pB):=⟨rfl,rfl,rfl,by decide +kernel,rfl,by decide +kernel,by decide +kernel⟩
def uF:Rho->Option T:=
 f1 (f2 (aA 1) (f2 (f2 (aA 2) (aA 0) cA) (fC (.int 8)) aR) oIx) aV
def yK:Rho->Option T:=
 f2 (f2 (aA 1) (aA 2) eK) (f2 (fC (.int 1)) (f2 (f2 (aA 3) (f2 (fC (.int 3)) (aA 0) eM) cA) (fC (.int 8)) aR) cA) jI
def yL:Rho->Option T:=
 f2 (f2 (f2 (aA 1) (aA 2) jI) (f2 (aA 3) (f2 (f2 (aA 4) (f2 (fC (.int 5)) (aA 0) eM) cA) (fC (.int 26)) aR) eK) bS) (f2 (aA 1) (f2 (fC (.int 7)) (aA 2) kK) jI) bS
def uE:Rho->Option Out:=
 aJ (aS 2 (cG (aD (fC (.str "hands")) (aD (fC (.str "table")) (aD (fC (.str "group")) (aD (fC (.str "each")) (aD (fC (.str "cover")) (aD (fC (.str "cut")) (aD (fC (.str "steps")) (aD (fC (.str "ask")) aE))))))))))
  (aJ (aS 3 (fC (.str "abcdefghijklmnopqrstuvwxyz")))
  (aJ (aS 4 (f2 (f2 (aA 0) (fC (.int 3)) bG) (fC (.int 8)) aR))
  (aJ (rIf (fB (f2 (f2 (aA 0) (fC (.int 3)) aR) (fC (.int 0)) oEq)) (aT (bA (dE (aD (aA 1) aE) dF) [none,some 2,some 4] aO uF)) bE)
  (aJ (aS 5 (f2 (f2 (aA 0) (fC (.int 24)) bG) (fC (.int 26)) aR))
  (aJ (rIf (fB (f2 (f2 (aA 0) (fC (.int 3)) aR) (fC (.int 1)) oEq)) (aT (bA (dE (aD (aA 1) aE) dF) [none,some 3,some 5,some 4] aO yK)) bE)
  (aJ (aS 6 (f2 (aA 3) (f2 (f2 (aA 0) (fC (.int 624)) bG) (fC (.int 26)) aR) eK))
  (aT (bA (dE (aD (aA 1) aE) dF) [none,some 6,some 4,some 3,some 5] aO yL))))))))
def kU:List T->Option T:=Fof 2 5 uE
theorem OY (t0 t1:T):kU [t0,t1]=(uE [some t0,some t1,none,none,none,none,none]).bind bJ:=rfl
theorem TK (aGm:mg "range" = none) (cdv:Value) (A:Around) (outer:List Env) (s:Shared) (H:Hp) (E:XK)
  (hr:Room 0 (A.deeper (envOfC "_law_names" (defScope pB) s.heap.objs.size f cdv))):
  GSs (bB CX0 P w K mg base ["cell","many","words","letters","turn","start","fill"] "_law_names" (defScope pB) f cdv A outer s H E).nox H [1,1,1,1,1,1,1] true 3 (defBody pB) uE:=by
 have hu:=hr.units;unfold uE yL yK uF;exact @aP _ _ _ _ _ _ _ _ _ (@bR _ _ _ _ _ _ _ _ _ _ _ _ 2 (@eI _ _ _ _ _ _ _ (aF bL (aF bL (aF bL (aF bL (aF bL (aF bL (aF bL (aF bL aH))))))))) rL.nd (by rfl) (Or.inr (by rfl)) (by rfl) (by rfl) (by trivial)) (@aP _ _ _ _ _ _ _ _ _ (@bR _ _ _ _ _ _ _ _ _ _ _ _ 3 bL rL.nd (by rfl) (Or.inr (by rfl)) (by rfl) (by rfl) (by trivial)) (@aP _ _ _ _ _ _ _ _ _ (@bR _ _ _ _ _ _ _ _ _ _ _ _ 4 (@cM _ _ _ _ _ _ _ _ _ _ _ _ (@fA _ _ _ _ _ _ _ _ _ _ _ _ (aB 0) ge_int) ge_int) rL.nd (by rfl) (Or.inr (by rfl)) (by rfl) (by rfl) (by trivial)) (@aP _ _ _ _ _ _ _ _ _ (@bX _ _ _ _ _ _ _ _ _ _ _ _ (@dO _ _ _ _ _ _ _ _ _ _ _ _ hu (@cM _ _ _ _ _ _ _ _ _ _ _ _ (aB 0) ge_int) ge_int) (@aN _ _ _ _ _ _ _ (@aY _ _ _ _ _ _ _ _ (@aW _ _ _ _ _ _ _ _ _ (@cS _ _ _ _ _ _ _ _ _ _ _ _ _ _ _ _ _ _ _ _ (bZ (by kernel_rfl) (N':=[ "j" ,"words" ,"turn" ]) (src:=[ none ,some 2 ,some 4 ])) (cH (by kernel_rfl) (fl':=[ 2 ,1 ,1 ])) (by decide) (by rfl) (fJ (by rfl) (by rfl) aGm (aF (aB 1) aH)) (by rfl) (by rfl) (fun cl C s H ex=>⟨cI,@GE.sc _ _ _ _ _ _ _ (@bW _ _ _ _ _ _ _ _ _ _ _ _ (aB 1) (@cM _ _ _ _ _ _ _ _ _ _ _ _ (@eC _ _ _ _ _ _ _ _ _ _ _ _ (aB 2) (aB 0)) ge_int) (by exact fun _ _=>rfl))⟩) (by intro _;rfl)) (by rfl)))) bY) (@aP _ _ _ _ _ _ _ _ _ (@bR _ _ _ _ _ _ _ _ _ _ _ _ 5 (@cM _ _ _ _ _ _ _ _ _ _ _ _ (@fA _ _ _ _ _ _ _ _ _ _ _ _ (aB 0) ge_int) ge_int) rL.nd (by rfl) (Or.inr (by rfl)) (by rfl) (by rfl) (by trivial)) (@aP _ _ _ _ _ _ _ _ _ (@bX _ _ _ _ _ _ _ _ _ _ _ _ (@dO _ _ _ _ _ _ _ _ _ _ _ _ hu (@cM _ _ _ _ _ _ _ _ _ _ _ _ (aB 0) ge_int) ge_int) (@aN _ _ _ _ _ _ _ (@aY _ _ _ _ _ _ _ _ (@aW _ _ _ _ _ _ _ _ _ (@cS _ _ _ _ _ _ _ _ _ _ _ _ _ _ _ _ _ _ _ _ (bZ (by kernel_rfl) (N':=[ "j" ,"letters" ,"start" ,"turn" ]) (src:=[ none ,some 3 ,some 5 ,some 4 ])) (cH (by kernel_rfl) (fl':=[ 2 ,1 ,1 ,1 ])) (by decide) (by rfl) (fJ (by rfl) (by rfl) aGm (aF (aB 1) aH)) (by rfl) (by rfl) (fun cl C s H ex=>⟨cI,BE (wQ (aB 1) (aB 2)) (@eC _ _ _ _ _ _ _ _ _ _ _ _ ge_int (@cM _ _ _ _ _ _ _ _ _ _ _ _ (@eC _ _ _ _ _ _ _ _ _ _ _ _ (aB 3) (@wS _ _ _ _ _ _ _ _ _ _ _ _ ge_int (aB 0))) ge_int))⟩) (by intro _;rfl)) (by rfl)))) bY) (@aP _ _ _ _ _ _ _ _ _ (@bR _ _ _ _ _ _ _ _ _ _ _ _ 6 (wQ (aB 3) (@cM _ _ _ _ _ _ _ _ _ _ _ _ (@fA _ _ _ _ _ _ _ _ _ _ _ _ (aB 0) ge_int) ge_int)) rL.nd (by rfl) (Or.inr (by rfl)) (by rfl) (by rfl) (by trivial)) (@aN _ _ _ _ _ _ _ (@aY _ _ _ _ _ _ _ _ (@aW _ _ _ _ _ _ _ _ _ (@cS _ _ _ _ _ _ _ _ _ _ _ _ _ _ _ _ _ _ _ _ (bZ (by kernel_rfl) (N':=[ "j" ,"fill" ,"turn" ,"letters" ,"start" ]) (src:=[ none ,some 6 ,some 4 ,some 3 ,some 5 ])) (cH (by kernel_rfl) (fl':=[ 2 ,1 ,1 ,1 ,1 ])) (by decide) (by rfl) (fJ (by rfl) (by rfl) aGm (aF (aB 1) aH)) (by rfl) (by rfl) (fun cl C s H ex=>⟨cI,gL (gL (BE (aB 1) (aB 2)) (wQ (aB 3) (@cM _ _ _ _ _ _ _ _ _ _ _ _ (@eC _ _ _ _ _ _ _ _ _ _ _ _ (aB 4) (@wS _ _ _ _ _ _ _ _ _ _ _ _ ge_int (aB 0))) ge_int))) (BE (aB 1) (@wV _ _ _ _ _ _ _ _ _ _ _ _ ge_int (aB 2)))⟩) (by intro _;rfl)) (by rfl))))))))))
theorem aAi {fd:FuncData}(aGm:mg "range" = none) (Fu:Fun K "_law_names" "_law_names" pB f fd):
  FnOk P w K mg base CX0 1 f fd ["cell","many"] (spT K kU true 3):=
 gfn Fu rL rfl (by decide) (fun ts t h=>bO h) (fun cdv A outer s H E hr=>@TK _ _ _ _ _ _ aGm cdv A outer s H E hr) (fun ts t h=>bQ h)
abbrev pD:Stmt:=top 60
theorem DZ:FnScope ["cell","much"] ["cell"] (defScope pD):=⟨rfl,rfl,rfl,by decide +kernel,rfl,by decide +kernel,by decide +kernel⟩
def uG:Rho->Option Out:=
 aJ (aS 1 (f2 (f2 (aA 0) (fC (.int 2)) bG) (f2 (cG (aD (fC (.int 10)) (aD (f2 (fC (.int 10)) (fC (.int 60)) dP) (aD (f2 (fC (.int 10)) (fC (.int 40)) dP) aE)))) (f2 (f2 (aA 0) (fC (.int 4)) bG) (fC (.int 3)) aR) oIx) aR))
  (aJ (rIf (fB (f2 (f2 (f2 (aA 0) (fC (.int 4)) bG) (fC (.int 3)) aR) (fC (.int 2)) oEq)) (aS 1 (f2 (f2 (aA 1) (f2 (f2 (fC (.int 10)) (fC (.int 50)) dP) (fC (.int 3)) dP) eM) (f2 (f2 (aA 0) (fC (.int 2)) bG) (f2 (fC (.int 10)) (fC (.int 50)) dP) aR) cA)) bE)
  (aJ (rIf (fB (f2 (f2 (aA 0) (fC (.int 2)) aR) (fC (.int 1)) oEq)) (aT (f1 (aA 1) tH)) bE)
  (aT (f1 (aA 1) aV))))
def gE:List T->Option T:=Fof 1 1 uG
theorem OZ (t0:T):gE [t0]=(uG [some t0,none]).bind bJ:=rfl
theorem TL (cdv:Value) (A:Around) (outer:List Env) (s:Shared) (H:Hp) (E:XK)
  (hr:Room 0 (A.deeper (envOfC "_law_number" (defScope pD) s.heap.objs.size f cdv))):
  GSs (bB CX0 P w K mg base ["cell","much"] "_law_number" (defScope pD) f cdv A outer s H E).nox H [1,1] false 3 (defBody pD) uG:=by
 have hu:=hr.units;unfold uG;exact @aP _ _ _ _ _ _ _ _ _ (@bR _ _ _ _ _ _ _ _ _ _ _ _ 1 (@cM _ _ _ _ _ _ _ _ _ _ _ _ (@fA _ _ _ _ _ _ _ _ _ _ _ _ (aB 0) ge_int) (@bW _ _ _ _ _ _ _ _ _ _ _ _ (@eI _ _ _ _ _ _ _ (aF ge_int (aF (@qR _ _ _ _ _ _ _ _ _ _ _ _ ge_int ge_int) (aF (@qR _ _ _ _ _ _ _ _ _ _ _ _ ge_int ge_int) aH)))) (@cM _ _ _ _ _ _ _ _ _ _ _ _ (@fA _ _ _ _ _ _ _ _ _ _ _ _ (aB 0) ge_int) ge_int) (by exact fun _ _=>rfl))) DZ.nd (by rfl) (Or.inl (by rfl)) (by rfl) (by rfl) (by trivial)) (@aP _ _ _ _ _ _ _ _ _ (@bX _ _ _ _ _ _ _ _ _ _ _ _ (@dO _ _ _ _ _ _ _ _ _ _ _ _ hu (@cM _ _ _ _ _ _ _ _ _ _ _ _ (@fA _ _ _ _ _ _ _ _ _ _ _ _ (aB 0) ge_int) ge_int) ge_int) (@aN _ _ _ _ _ _ _ (@bR _ _ _ _ _ _ _ _ _ _ _ _ 1 (@eC _ _ _ _ _ _ _ _ _ _ _ _ (@wS _ _ _ _ _ _ _ _ _ _ _ _ (aB 1) (@qR _ _ _ _ _ _ _ _ _ _ _ _ (@qR _ _ _ _ _ _ _ _ _ _ _ _ ge_int ge_int) ge_int)) (@cM _ _ _ _ _ _ _ _ _ _ _ _ (@fA _ _ _ _ _ _ _ _ _ _ _ _ (aB 0) ge_int) (@qR _ _ _ _ _ _ _ _ _ _ _ _ ge_int ge_int))) DZ.nd (by rfl) (Or.inl (by rfl)) (by rfl) (by rfl) (by trivial))) bY) (@aP _ _ _ _ _ _ _ _ _ (@bX _ _ _ _ _ _ _ _ _ _ _ _ (@dO _ _ _ _ _ _ _ _ _ _ _ _ hu (@cM _ _ _ _ _ _ _ _ _ _ _ _ (aB 0) ge_int) ge_int) (@aN _ _ _ _ _ _ _ (@aY _ _ _ _ _ _ _ _ (@aW _ _ _ _ _ _ _ _ _ (@JA _ _ _ _ _ _ _ _ (aB 1)) (by rfl)))) bY) (@aN _ _ _ _ _ _ _ (@aY _ _ _ _ _ _ _ _ (@aW _ _ _ _ _ _ _ _ _ (@GE.sc _ _ _ _ _ _ _ (aB 1)) (by rfl))))))
theorem aAj {fd:FuncData}(Fu:Fun K "_law_number" "_law_number" pD f fd):
  FnOk P w K mg base CX0 1 f fd ["cell"] (spT K gE false 3):=
 gfn Fu DZ rfl (by decide) (fun ts t h=>bO h) (fun cdv A outer s H E hr=>@TL _ _ _ _ _ _  cdv A outer s H E hr) (fun ts t h=>bQ h)
abbrev pA:Stmt:=top 61
theorem DY:FnScope ["cell","hands","order","hand"] ["cell","hands"] (defScope pA):=⟨rfl,rfl,rfl,by decide +kernel,rfl,by decide +kernel,by decide +kernel⟩
def yJ:Rho->Option Out:=
 DP 2 (f2 (f2 (aA 0) (f2 (fC (.int 3)) (aA 3) cA) bG) (f2 (aA 3) (fC (.int 1)) cA) aR) (f1 (aA 3) aV)
def uD:Rho->Option Out:=
 aJ (nX 2 (cG aE))
  (aJ (kO 3 (dE (aD (aA 1) aE) dF)
  yJ)
  (aT (f1 (fG (aA 2) cJ (eW (f2 (fC (.int 1)) (f2 (aA 0) (aA 1) aR) cA)) cJ) mD)))
def kT:List T->Option T:=Fof 2 2 uD
theorem OX (t0 t1:T):kT [t0,t1]=(uD [some t0,some t1,none,none]).bind bJ:=rfl
theorem TJ (aGm:mg "range" = none) (cdv:Value) (A:Around) (outer:List Env) (s:Shared) (H:Hp) (E:XK)
  (hr:Room 0 (A.deeper (envOfC "_law_hands_of" (defScope pA) s.heap.objs.size f cdv))):
  GSs (bB CX0 P w K mg base ["cell","hands","order","hand"] "_law_hands_of" (defScope pA) f cdv A outer s H E).nox H [1,1,0,1] true 3 (defBody pA) uD:=by
 have hu:=hr.units;unfold uD yJ;exact @aP _ _ _ _ _ _ _ _ _ (@BI _ _ _ _ _ _ _ _ _ _ _ 2 (@eI _ _ _ _ _ _ _ aH) DY.nd (by rfl) (Or.inl (by rfl)) (by rfl) (by rfl) (by trivial)) (@aP _ _ _ _ _ _ _ _ _ (@qS _ _ _ _ _ _ _ _ _ 3 _ _ _ _ _ PassesOwn.never (by rfl) (fJ (by rfl) (by rfl) aGm (aF (aB 1) aH)) DY.nd (by rfl) (Or.inl (by rfl)) (@aN _ _ _ _ _ _ _ (@WT _ _ _ _ _ _ _ _ _ _ _ _ _ _ _ _ 2 _ _ (@cM _ _ _ _ _ _ _ _ _ _ _ _ (@fA _ _ _ _ _ _ _ _ _ _ _ _ (aB 0) (@eC _ _ _ _ _ _ _ _ _ _ _ _ ge_int (aB 3))) (@eC _ _ _ _ _ _ _ _ _ _ _ _ (aB 3) ge_int)) (@GE.sc _ _ _ _ _ _ _ (aB 3)) (by rfl) (by rfl) (by trivial) (by decide) (by decide) (by rfl) (by rfl) (by rfl) (by rfl) (by rfl) (by rfl) (by rfl))) (by rfl) (by intro _;rfl) (by trivial)) (@aN _ _ _ _ _ _ _ (@aY _ _ _ _ _ _ _ _ (@aW _ _ _ _ _ _ _ _ _ (@GE.flt _ _ _ _ _ _ (@kB _ _ _ _ _ _ _ _ _ _ _ _ _ _ _ (aB 2) dN (@jC _ _ _ _ _ _ _ (@eC _ _ _ _ _ _ _ _ _ _ _ _ ge_int (@cM _ _ _ _ _ _ _ _ _ _ _ _ (aB 0) (aB 1)))) dN (by intro _ _;first | exact⟨_,rfl⟩ | (refine⟨_,?_⟩;with_unfolding_all rfl)))) (by rfl)))))
theorem aAh {fd:FuncData}(aGm:mg "range" = none) (Fu:Fun K "_law_hands_of" "_law_hands_of" pA f fd):
  FnOk P w K mg base CX0 1 f fd ["cell","hands"] (spT K kT true 3):=
 gfn Fu DY rfl (by decide) (fun ts t h=>bO h) (fun cdv A outer s H E hr=>@TJ _ _ _ _ _ _ aGm cdv A outer s H E hr) (fun ts t h=>bQ h)
abbrev pF:Stmt:=top 62
theorem EA:FnScope ["cell","hands","steps","hand"] ["cell","hands"] (defScope pF):=⟨rfl,rfl,rfl,by decide +kernel,rfl,by decide +kernel,by decide +kernel⟩
def yM:Rho->Option Out:=
 DO 2 (f2 (f2 (aA 2) (f1 (fC (.int 1)) tH) oIx) (f2 (f2 (aA 0) (f2 (aA 3) (fC (.int 1)) cA) bG) (f2 (cG (aD (fC (.int 1)) (aD (fC (.int 3)) (aD (f2 (fC (.int 10)) (fC (.int 30)) dP) aE)))) (f2 (f2 (aA 0) (fC (.int 5)) bG) (fC (.int 3)) aR) oIx) aR) kK)
def uM:Rho->Option Out:=
 aJ (nX 2 (cG (aD (f1 (aG (aD (aA 0) aE) gE) aV) aE)))
  (aJ (kO 3 (dE (aD (fC (.int 1)) (aD (aA 1) aE)) xQ)
  yM)
  (aT (wL 2)))
def kW:List T->Option T:=Fof 2 2 uM
theorem PD (t0 t1:T):kW [t0,t1]=(uM [some t0,some t1,none,none]).bind bJ:=rfl
theorem TN (aGq:Cal P w K mg base "_law_number" 1 ["cell"] gE false 3) (aGm:mg "range" = none) (cdv:Value) (A:Around) (outer:List Env) (s:Shared) (H:Hp) (E:XK)
  (hr:Room 1 (A.deeper (envOfC "_law_steps_of" (defScope pF) s.heap.objs.size f cdv))):
  GSs (bB CX0 P w K mg base ["cell","hands","steps","hand"] "_law_steps_of" (defScope pF) f cdv A outer s H E).nox H [1,1,0,1] true 3 (defBody pF) uM:=by
 have hu:=hr.units;unfold uM yM;exact @aP _ _ _ _ _ _ _ _ _ (@BI _ _ _ _ _ _ _ _ _ _ _ 2 (@eI _ _ _ _ _ _ _ (aF (@GE.sc _ _ _ _ _ _ _ (aZ aGq (hr.mono (by decide)) (by rfl) (aF (aB 0) aH))) aH)) EA.nd (by rfl) (Or.inl (by rfl)) (by rfl) (by rfl) (by trivial)) (@aP _ _ _ _ _ _ _ _ _ (@qS _ _ _ _ _ _ _ _ _ 3 _ _ _ _ _ PassesOwn.never (by rfl) (WI (by rfl) (by rfl) aGm (aF ge_int (aF (aB 1) aH))) EA.nd (by rfl) (Or.inl (by rfl)) (@aN _ _ _ _ _ _ _ (@WS _ _ _ _ _ _ _ _ _ _ _ _ 2 _ _ (@wV _ _ _ _ _ _ _ _ _ _ _ _ (@bW _ _ _ _ _ _ _ _ _ _ _ _ (aB 2) (@JA _ _ _ _ _ _ _ _ ge_int) (by exact fun _ _=>rfl)) (@cM _ _ _ _ _ _ _ _ _ _ _ _ (@fA _ _ _ _ _ _ _ _ _ _ _ _ (aB 0) (@eC _ _ _ _ _ _ _ _ _ _ _ _ (aB 3) ge_int)) (@bW _ _ _ _ _ _ _ _ _ _ _ _ (@eI _ _ _ _ _ _ _ (aF ge_int (aF ge_int (aF (@qR _ _ _ _ _ _ _ _ _ _ _ _ ge_int ge_int) aH)))) (@cM _ _ _ _ _ _ _ _ _ _ _ _ (@fA _ _ _ _ _ _ _ _ _ _ _ _ (aB 0) ge_int) ge_int) (by exact fun _ _=>rfl)))) (by rfl) (by rfl) (by trivial) (by decide) (by decide) (by rfl) (by rfl) (by rfl) (by rfl) (by rfl))) (by rfl) (by intro _;rfl) (by trivial)) (@aN _ _ _ _ _ _ _ (@aY _ _ _ _ _ _ _ _ (@JI _ _ _ _ _ _ _ 2 (by rfl) (by trivial) (by rfl) (by decide) (by decide)))))
theorem aAl {fd:FuncData}(aGq:Cal P w K mg base "_law_number" 1 ["cell"] gE false 3) (aGm:mg "range" = none) (Fu:Fun K "_law_steps_of" "_law_steps_of" pF f fd):
  FnOk P w K mg base CX0 2 f fd ["cell","hands"] (spT K kW true 3):=
 gfn Fu EA rfl (by decide) (fun ts t h=>bO h) (fun cdv A outer s H E hr=>@TN _ _ _ _ _ _ aGq aGm cdv A outer s H E hr) (fun ts t h=>bQ h)
abbrev pL:Stmt:=top 22
theorem aDu:FnScope ["hands"] ["hands"] (defScope pL):=⟨rfl,rfl,rfl,by decide +kernel,rfl,by decide +kernel,by decide +kernel⟩
def rF:Rho->Option Out:=
 rIf (pOr (fB (f2 (aA 0) (fC (.int 1)) oLt)) (fB (f2 (aA 0) (fC (.int 6)) oGt))) kQ bE
def eZ:List T->Option T:=Fof 1 0 rF
theorem EV (t0:T):eZ [t0]=(rF [some t0]).bind bJ:=rfl
theorem TX (m_MOST_HANDS:∃ tk,mg "MOST_HANDS" = some (.int 6 tk)) (cdv:Value) (A:Around) (outer:List Env) (s:Shared) (H:Hp) (E:XK)
  (hr:Room 0 (A.deeper (envOfC "check_hands" (defScope pL) s.heap.objs.size f cdv))):
  GSs (bB CX0 P w K mg base ["hands"] "check_hands" (defScope pL) f cdv A outer s H E).nox H [1] false 3 (defBody pL) rF:=by
 have hu:=hr.units;unfold rF;exact @aN _ _ _ _ _ _ _ (@bX _ _ _ _ _ _ _ _ _ _ _ _ (@GW.gt _ _ _ _ _ (@fK _ _ _ _ _ _ _ _ _ (@kF _ _ _ _ _ _ _ _ _ _ _ _ (aB 0) ge_int) (@gN _ _ _ _ _ _ (@sQ _ _ _ _ _ _ _ _ _ _ _ _ (aB 0) (@sJ _ _ _ _ _ (6) (by rfl) m_MOST_HANDS (by decide)))))) (@aN _ _ _ _ _ _ _ nL) bY)
theorem aAs {fd:FuncData}(m_MOST_HANDS:∃ tk,mg "MOST_HANDS" = some (.int 6 tk)) (Fu:Fun K "check_hands" "check_hands" pL f fd):
  FnOk P w K mg base CX0 1 f fd ["hands"] (spT K eZ false 3):=
 gfn Fu aDu rfl (by decide) (fun ts t h=>bO h) (fun cdv A outer s H E hr=>@TX _ _ _ _ _ _ m_MOST_HANDS cdv A outer s H E hr) (fun ts t h=>bQ h)
abbrev pT:Stmt:=top 10
theorem aE0:FnScope ["group"] ["group"] (defScope pT):=⟨rfl,rfl,rfl,by decide +kernel,rfl,by decide +kernel,by decide +kernel⟩
def NA:Rho->Option Bool:=
 fT (f2 (f2 (aA 1) (aA 0) LA) (fC (.int 1)) qY)
def MZ:Rho->Option T:=
 f1 (aA 0) aV
def DU:Rho->Option Out:=
 aT (bA (dE (aD (f1 (aA 0) CQ) aE) dF) [none,some 0] NA MZ)
def fD:List T->Option T:=Fof 1 0 DU
theorem UF (aGm:mg "range" = none) (cdv:Value) (A:Around) (outer:List Env) (s:Shared) (H:Hp) (E:XK)
  (hr:Room 0 (A.deeper (envOfC "hands_in" (defScope pT) s.heap.objs.size f cdv))):
  GSs (bB CX0 P w K mg base ["group"] "hands_in" (defScope pT) f cdv A outer s H E).nox H [1] true 3 (defBody pT) DU:=by
 have hu:=hr.units;unfold DU MZ NA;exact @aN _ _ _ _ _ _ _ (@aY _ _ _ _ _ _ _ _ (@aW _ _ _ _ _ _ _ _ _ (@cS _ _ _ _ _ _ _ _ _ _ _ _ _ _ _ _ _ _ _ _ (bZ (by kernel_rfl) (N':=[ "hand" ,"group" ]) (src:=[ none ,some 0 ])) (cH (by kernel_rfl) (fl':=[ 2 ,1 ])) (by decide) (by rfl) (fJ (by rfl) (by rfl) aGm (aF (@VL _ _ _ _ _ _ _ _ _ (aB 0) (by rfl) (by rfl)) aH)) (by rfl) (by rfl) (fun cl C s H ex=>⟨@BG _ _ _ _ _ (@nM _ _ _ _ _ _ _ (@wO _ _ _ _ _ _ _ _ _ _ _ _ (@VX _ _ _ _ _ _ _ _ _ _ _ _ (aB 1) (aB 0)) ge_int) (by intro _;rfl)),@GE.sc _ _ _ _ _ _ _ (aB 0)⟩) (by intro _;rfl)) (by rfl)))
theorem aB0 {fd:FuncData}(aGm:mg "range" = none) (Fu:Fun K "hands_in" "hands_in" pT f fd):
  FnOk P w K mg base CX0 1 f fd ["group"] (spT K fD true 3):=
 gfn Fu aE0 rfl (by decide) (fun ts t h=>bO h) (fun cdv A outer s H E hr=>@UF _ _ _ _ _ _ aGm cdv A outer s H E hr) (fun ts t h=>bQ h)
abbrev pX:Stmt:=top 11
theorem aE4:FnScope ["group"] ["group"] (defScope pX):=⟨rfl,rfl,rfl,by decide +kernel,rfl,by decide +kernel,by decide +kernel⟩
def DW:Rho->Option Out:=
 aT (aG (aD (aG (aD (aA 0) aE) fD) aE) cD)
def mY:List T->Option T:=Fof 1 0 DW
theorem UK (aGo:Cal P w K mg base "hands_in" 1 ["group"] fD true 3) (aGl:mg "len" = none) (cdv:Value) (A:Around) (outer:List Env) (s:Shared) (H:Hp) (E:XK)
  (hr:Room 1 (A.deeper (envOfC "many_in" (defScope pX) s.heap.objs.size f cdv))):
  GSs (bB CX0 P w K mg base ["group"] "many_in" (defScope pX) f cdv A outer s H E).nox H [1] false 3 (defBody pX) DW:=by
 have hu:=hr.units;unfold DW;exact @aN _ _ _ _ _ _ _ (@aY _ _ _ _ _ _ _ _ (@aW _ _ _ _ _ _ _ _ _ (cX (by rfl) (by rfl) aGl (aF (aZ aGo (hr.mono (by decide)) (by rfl) (aF (aB 0) aH)) aH)) (by rfl)))
theorem aB5 {fd:FuncData}(aGo:Cal P w K mg base "hands_in" 1 ["group"] fD true 3) (aGl:mg "len" = none) (Fu:Fun K "many_in" "many_in" pX f fd):
  FnOk P w K mg base CX0 2 f fd ["group"] (spT K mY false 3):=
 gfn Fu aE4 rfl (by decide) (fun ts t h=>bO h) (fun cdv A outer s H E hr=>@UK _ _ _ _ _ _ aGo aGl cdv A outer s H E hr) (fun ts t h=>bQ h)
abbrev pR:Stmt:=top 29
theorem ED:FnScope ["steps","ahead","step"] ["steps"] (defScope pR):=⟨rfl,rfl,rfl,by decide +kernel,rfl,by decide +kernel,by decide +kernel⟩
def rG:Rho->Option Out:=
 rIf (fB (f2 (aA 2) (aA 1) oGt)) kQ bE
def yT:Rho->Option T:=
 aG (aD (fG (aA 1) cJ (eW (aG (aD (aA 0) aE) mY)) cJ) aE) jK
def vD:Rho->Option Out:=
 aJ (gU (aG (aD (aG (aD (aA 0) aE) cD) aE) eZ))
  (aJ (rA [1,2] (sH (fFL (aA 0)) (fFL (fG (aA 0) (eW (fC (.int 1))) cJ cJ)))
  rG)
  (aT (bA (dE (aD (f2 (fC (.int 1)) (aG (aD (aA 0) aE) cD) dQ) aE) dF) [none,some 0] aO yT)))
def gH:List T->Option T:=Fof 1 2 vD
theorem QD (t0:T):gH [t0]=(vD [some t0,none,none]).bind bJ:=rfl
theorem UD (aGn:Cal P w K mg base "check_hands" 1 ["hands"] eZ false 3) (aHn:Cal P w K mg base "many_in" 2 ["group"] mY false 3) (aGl:mg "len" = none) (aHm:mg "zip" = none) (aGm:mg "range" = none) (aGt:mg "sum" = none) (cdv:Value) (A:Around) (outer:List Env) (s:Shared) (H:Hp) (E:XK)
  (hr:Room 2 (A.deeper (envOfC "from_steps" (defScope pR) s.heap.objs.size f cdv))):
  GSs (bB CX0 P w K mg base ["steps","ahead","step"] "from_steps" (defScope pR) f cdv A outer s H E).nox H [1,1,1] true 3 (defBody pR) vD:=by
 have hu:=hr.units;unfold vD yT rG;exact @aP _ _ _ _ _ _ _ _ _ (@mF _ _ _ _ _ _ _ _ _ _ (aZ aGn (hr.mono (by decide)) (by rfl) (aF (cX (by rfl) (by rfl) aGl (aF (aB 0) aH)) aH)) (by rfl)) (@aP _ _ _ _ _ _ _ _ _ (@wZ _ _ _ _ _ _ _ _ _ _ _ [1 ,2] _ _ _ _ _ PassesOwn.never (by rfl) (@JD _ _ _ _ _ _ _ _ _ _ _ _ _ _ _ _ _ (by rfl) (by rfl) aHm (aB 0) (@kB _ _ _ _ _ _ _ _ _ _ _ _ _ _ _ (aB 0) (@jC _ _ _ _ _ _ _ ge_int) dN dN (by intro _ _;first | exact⟨_,rfl⟩ | (refine⟨_,?_⟩;with_unfolding_all rfl))) (by rfl) (by rfl)) (@eJ _ _ _ _ _ _ ED.nd (by rfl) (Or.inl (by rfl)) (@eJ _ _ _ _ _ _ ED.nd (by rfl) (Or.inl (by rfl)) (@nK _) (by trivial) (by rfl)) (by trivial) (by rfl)) (@aN _ _ _ _ _ _ _ (@bX _ _ _ _ _ _ _ _ _ _ _ _ (@sQ _ _ _ _ _ _ _ _ _ _ _ _ (aB 2) (aB 1)) (@aN _ _ _ _ _ _ _ nL) bY)) (by rfl) (by rfl) (by rfl) (by rfl) (by rfl) (by intro _;rfl)) (@aN _ _ _ _ _ _ _ (@aY _ _ _ _ _ _ _ _ (@aW _ _ _ _ _ _ _ _ _ (@cS _ _ _ _ _ _ _ _ _ _ _ _ _ _ _ _ _ _ _ _ (bZ (by kernel_rfl) (N':=[ "group" ,"steps" ]) (src:=[ none ,some 0 ])) (cH (by kernel_rfl) (fl':=[ 2 ,1 ])) (by decide) (by rfl) (fJ (by rfl) (by rfl) aGm (aF (@fI _ _ _ _ _ _ _ _ _ _ _ _ ge_int (cX (by rfl) (by rfl) aGl (aF (aB 0) aH))) aH)) (by rfl) (by rfl) (fun cl C s H ex=>⟨cI,sK (by rfl) (by rfl) (by rfl) aGt (aF (@kB _ _ _ _ _ _ _ _ _ _ _ _ _ _ _ (aB 1) dN (@jC _ _ _ _ _ _ _ (aZ aHn (hr.mono (by decide)) (by rfl) (aF (aB 0) aH))) dN (by intro _ _;first | exact⟨_,rfl⟩ | (refine⟨_,?_⟩;with_unfolding_all rfl))) aH)⟩) (by intro _;rfl)) (by rfl)))))
theorem aAy {fd:FuncData}(aGn:Cal P w K mg base "check_hands" 1 ["hands"] eZ false 3) (aHn:Cal P w K mg base "many_in" 2 ["group"] mY false 3) (aGl:mg "len" = none) (aHm:mg "zip" = none) (aGm:mg "range" = none) (aGt:mg "sum" = none) (Fu:Fun K "from_steps" "from_steps" pR f fd):
  FnOk P w K mg base CX0 3 f fd ["steps"] (spT K gH true 3):=
 gfn Fu ED rfl (by decide) (fun ts t h=>bO h) (fun cdv A outer s H E hr=>@UD _ _ _ _ _ _ aGn aHn aGl aHm aGm aGt cdv A outer s H E hr) (fun ts t h=>bQ h)
abbrev qD:Stmt:=top 16
theorem aE7:FnScope ["row","group"] ["row","group"] (defScope qD):=⟨rfl,rfl,rfl,by decide +kernel,rfl,by decide +kernel,by decide +kernel⟩
def zE:Rho->Option T:=
 f1 (f2 (aA 1) (aA 0) oIx) aV
def vP:Rho->Option Out:=
 aT (aG (aD (bA (fFL (aG (aD (aA 1) aE) fD)) [none,some 0] aO zE) aE) jK)
def nC:List T->Option T:=Fof 2 0 vP
theorem RA (t0 t1:T):nC [t0,t1]=(vP [some t0,some t1]).bind bJ:=rfl
theorem UR (aGo:Cal P w K mg base "hands_in" 1 ["group"] fD true 3) (aGt:mg "sum" = none) (cdv:Value) (A:Around) (outer:List Env) (s:Shared) (H:Hp) (E:XK)
  (hr:Room 1 (A.deeper (envOfC "row_gives" (defScope qD) s.heap.objs.size f cdv))):
  GSs (bB CX0 P w K mg base ["row","group"] "row_gives" (defScope qD) f cdv A outer s H E).nox H [1,1] false 3 (defBody qD) vP:=by
 have hu:=hr.units;unfold vP zE;exact @aN _ _ _ _ _ _ _ (@aY _ _ _ _ _ _ _ _ (@aW _ _ _ _ _ _ _ _ _ (sK (by rfl) (by rfl) (by rfl) aGt (aF (@cS _ _ _ _ _ _ _ _ _ _ _ _ _ _ _ _ _ _ _ _ (bZ (by kernel_rfl) (N':=[ "hand" ,"row" ]) (src:=[ none ,some 0 ])) (cH (by kernel_rfl) (fl':=[ 2 ,1 ])) (by decide) (by rfl) (eV (aZ aGo (hr.mono (by decide)) (by rfl) (aF (aB 1) aH))) (by rfl) (by rfl) (fun cl C s H ex=>⟨cI,@GE.sc _ _ _ _ _ _ _ (@bW _ _ _ _ _ _ _ _ _ _ _ _ (aB 1) (aB 0) (by exact fun _ _=>rfl))⟩) (by intro _;rfl)) aH)) (by rfl)))
theorem aBc {fd:FuncData}(aGo:Cal P w K mg base "hands_in" 1 ["group"] fD true 3) (aGt:mg "sum" = none) (Fu:Fun K "row_gives" "row_gives" qD f fd):
  FnOk P w K mg base CX0 2 f fd ["row","group"] (spT K nC false 3):=
 gfn Fu aE7 rfl (by decide) (fun ts t h=>bO h) (fun cdv A outer s H E hr=>@UR _ _ _ _ _ _ aGo aGt cdv A outer s H E hr) (fun ts t h=>bQ h)
abbrev qE:Stmt:=top 19
theorem aE8:FnScope ["row"] ["row"] (defScope qE):=⟨rfl,rfl,rfl,by decide +kernel,rfl,by decide +kernel,by decide +kernel⟩
def zF:Rho->Option T:=
 f1 (aG (aD (aA 1) (aD (aA 0) aE)) nC) aV
def vQ:Rho->Option Out:=
 aT (bA (dE (aD (f2 (fC (.int 1)) (aG (aD (aA 0) aE) cD) dQ) aE) dF) [none,some 0] aO zF)
def gI:List T->Option T:=Fof 1 0 vQ
theorem RC (t0:T):gI [t0]=(vQ [some t0]).bind bJ:=rfl
theorem US (aHf:Cal P w K mg base "row_gives" 2 ["row","group"] nC false 3) (aGl:mg "len" = none) (aGm:mg "range" = none) (cdv:Value) (A:Around) (outer:List Env) (s:Shared) (H:Hp) (E:XK)
  (hr:Room 2 (A.deeper (envOfC "row_table" (defScope qE) s.heap.objs.size f cdv))):
  GSs (bB CX0 P w K mg base ["row"] "row_table" (defScope qE) f cdv A outer s H E).nox H [1] true 3 (defBody qE) vQ:=by
 have hu:=hr.units;unfold vQ zF;exact @aN _ _ _ _ _ _ _ (@aY _ _ _ _ _ _ _ _ (@aW _ _ _ _ _ _ _ _ _ (@cS _ _ _ _ _ _ _ _ _ _ _ _ _ _ _ _ _ _ _ _ (bZ (by kernel_rfl) (N':=[ "group" ,"row" ]) (src:=[ none ,some 0 ])) (cH (by kernel_rfl) (fl':=[ 2 ,1 ])) (by decide) (by rfl) (fJ (by rfl) (by rfl) aGm (aF (@fI _ _ _ _ _ _ _ _ _ _ _ _ ge_int (cX (by rfl) (by rfl) aGl (aF (aB 0) aH))) aH)) (by rfl) (by rfl) (fun cl C s H ex=>⟨cI,@GE.sc _ _ _ _ _ _ _ (aZ aHf (hr.mono (by decide)) (by rfl) (aF (aB 1) (aF (aB 0) aH)))⟩) (by intro _;rfl)) (by rfl)))
theorem aBd {fd:FuncData}(aHf:Cal P w K mg base "row_gives" 2 ["row","group"] nC false 3) (aGl:mg "len" = none) (aGm:mg "range" = none) (Fu:Fun K "row_table" "row_table" qE f fd):
  FnOk P w K mg base CX0 3 f fd ["row"] (spT K gI true 3):=
 gfn Fu aE8 rfl (by decide) (fun ts t h=>bO h) (fun cdv A outer s H E hr=>@US _ _ _ _ _ _ aHf aGl aGm cdv A outer s H E hr) (fun ts t h=>bQ h)
abbrev pM:Stmt:=top 23
theorem aDv:FnScope ["weight"] ["weight"] (defScope pM):=⟨rfl,rfl,rfl,by decide +kernel,rfl,by decide +kernel,by decide +kernel⟩
def uU:Rho->Option Out:=
 rIf (fB (f2 (aA 0) (fC (.int 0)) oLt)) kQ bE
def hJ:List T->Option T:=Fof 1 0 uU
theorem PV (t0:T):hJ [t0]=(uU [some t0]).bind bJ:=rfl
theorem TY (cdv:Value) (A:Around) (outer:List Env) (s:Shared) (H:Hp) (E:XK)
  (hr:Room 0 (A.deeper (envOfC "check_weight" (defScope pM) s.heap.objs.size f cdv))):
  GSs (bB CX0 P w K mg base ["weight"] "check_weight" (defScope pM) f cdv A outer s H E).nox H [1] false 3 (defBody pM) uU:=by
 have hu:=hr.units;unfold uU;exact @aN _ _ _ _ _ _ _ (@bX _ _ _ _ _ _ _ _ _ _ _ _ (@kF _ _ _ _ _ _ _ _ _ _ _ _ (aB 0) ge_int) (@aN _ _ _ _ _ _ _ nL) bY)
theorem aAt {fd:FuncData}(Fu:Fun K "check_weight" "check_weight" pM f fd):
  FnOk P w K mg base CX0 1 f fd ["weight"] (spT K hJ false 3):=
 gfn Fu aDv rfl (by decide) (fun ts t h=>bO h) (fun cdv A outer s H E hr=>@TY _ _ _ _ _ _  cdv A outer s H E hr) (fun ts t h=>bQ h)
abbrev pK:Stmt:=top 26
theorem zM:FnScope ["hands","cuts","one","other","weight"] ["hands","cuts"] (defScope pK):=⟨rfl,rfl,rfl,by decide +kernel,rfl,by decide +kernel,by decide +kernel⟩
def yQ:Rho->Option Out:=
 aJ (gU (aG (aD (aA 4) aE) hJ))
  (aJ (rIf (pOr (fB (f2 (aG (aD (aA 2) (aD (aA 3) aE)) CV) (fC (.int 0)) oLt)) (fB (f2 (aG (aD (aA 2) (aD (aA 3) aE)) CU) (aA 0) oGe))) kQ bE)
  (rIf (fB (f2 (aA 2) (aA 3) oEq)) kQ bE))
def uT:Rho->Option Out:=
 rA [2,3,4] (fFL (aA 1))
  yQ
def mT:List T->Option T:=Fof 2 3 uT
theorem PR (t0 t1:T):mT [t0,t1]=(uT [some t0,some t1,none,none,none]).bind bJ:=rfl
theorem TW (aGp:Cal P w K mg base "check_weight" 1 ["weight"] hJ false 3) (aI0:mg "min" = none) (aHz:mg "max" = none) (cdv:Value) (A:Around) (outer:List Env) (s:Shared) (H:Hp) (E:XK)
  (hr:Room 1 (A.deeper (envOfC "check_cuts" (defScope pK) s.heap.objs.size f cdv))):
  GSs (bB CX0 P w K mg base ["hands","cuts","one","other","weight"] "check_cuts" (defScope pK) f cdv A outer s H E).nox H [1,1,1,1,1] false 3 (defBody pK) uT:=by
 have hu:=hr.units;unfold uT yQ;exact @aN _ _ _ _ _ _ _ (@wZ _ _ _ _ _ _ _ _ _ _ _ [2 ,3 ,4] _ _ _ _ _ PassesOwn.never (by rfl) (eV (aB 1)) (@eJ _ _ _ _ _ _ zM.nd (by rfl) (Or.inl (by rfl)) (@eJ _ _ _ _ _ _ zM.nd (by rfl) (Or.inl (by rfl)) (@eJ _ _ _ _ _ _ zM.nd (by rfl) (Or.inl (by rfl)) (@nK _) (by trivial) (by rfl)) (by trivial) (by rfl)) (by trivial) (by rfl)) (@aP _ _ _ _ _ _ _ _ _ (@mF _ _ _ _ _ _ _ _ _ _ (aZ aGp (hr.mono (by decide)) (by rfl) (aF (aB 4) aH)) (by rfl)) (@aP _ _ _ _ _ _ _ _ _ (@bX _ _ _ _ _ _ _ _ _ _ _ _ (@GW.gt _ _ _ _ _ (@fK _ _ _ _ _ _ _ _ _ (@kF _ _ _ _ _ _ _ _ _ _ _ _ (VU (by rfl) (by rfl) (by rfl) aI0 (aF (aB 2) (aF (aB 3) aH))) ge_int) (@gN _ _ _ _ _ _ (@xA _ _ _ _ _ _ _ _ _ _ _ _ (VT (by rfl) (by rfl) (by rfl) aHz (aF (aB 2) (aF (aB 3) aH))) (aB 0))))) (@aN _ _ _ _ _ _ _ nL) bY) (@aN _ _ _ _ _ _ _ (@bX _ _ _ _ _ _ _ _ _ _ _ _ (@dO _ _ _ _ _ _ _ _ _ _ _ _ hu (aB 2) (aB 3)) (@aN _ _ _ _ _ _ _ nL) bY)))) (by rfl) (by rfl) (by rfl) (by rfl) (by rfl) (by intro _;rfl))
theorem aAr {fd:FuncData}(aGp:Cal P w K mg base "check_weight" 1 ["weight"] hJ false 3) (aI0:mg "min" = none) (aHz:mg "max" = none) (Fu:Fun K "check_cuts" "check_cuts" pK f fd):
  FnOk P w K mg base CX0 2 f fd ["hands","cuts"] (spT K mT false 3):=
 gfn Fu zM rfl (by decide) (fun ts t h=>bO h) (fun cdv A outer s H E hr=>@TW _ _ _ _ _ _ aGp aI0 aHz cdv A outer s H E hr) (fun ts t h=>bQ h)
abbrev qH:Stmt:=top 13
theorem aEa:FnScope ["one","other"] ["one","other"] (defScope qH):=⟨rfl,rfl,rfl,by decide +kernel,rfl,by decide +kernel,by decide +kernel⟩
def vT:Rho->Option Out:=
 aT (f2 (f2 (aA 0) (aA 1) qY) (aA 0) oEq)
def kY:List T->Option T:=Fof 2 0 vT
theorem RG (t0 t1:T):kY [t0,t1]=(vT [some t0,some t1]).bind bJ:=rfl
theorem UV (cdv:Value) (A:Around) (outer:List Env) (s:Shared) (H:Hp) (E:XK)
  (hr:Room 0 (A.deeper (envOfC "within" (defScope qH) s.heap.objs.size f cdv))):
  GSs (bB CX0 P w K mg base ["one","other"] "within" (defScope qH) f cdv A outer s H E).nox H [1,1] false 3 (defBody qH) vT:=by
 have hu:=hr.units;unfold vT;exact @aN _ _ _ _ _ _ _ (@aY _ _ _ _ _ _ _ _ (@aW _ _ _ _ _ _ _ _ _ (@BC _ _ _ _ _ _ _ _ _ _ _ _ hu (@wO _ _ _ _ _ _ _ _ _ _ _ _ (aB 0) (aB 1)) (aB 0)) (by rfl)))
theorem aBk {fd:FuncData}(Fu:Fun K "within" "within" qH f fd):
  FnOk P w K mg base CX0 1 f fd ["one","other"] (spT K kY false 3):=
 gfn Fu aEa rfl (by decide) (fun ts t h=>bO h) (fun cdv A outer s H E hr=>@UV _ _ _ _ _ _  cdv A outer s H E hr) (fun ts t h=>bQ h)
abbrev pV:Stmt:=top 27
theorem aE2:FnScope ["group","one","other"] ["group","one","other"] (defScope pV):=⟨rfl,rfl,rfl,by decide +kernel,rfl,by decide +kernel,by decide +kernel⟩
def vH:Rho->Option Out:=
 aT (f1 (vY (aG (aD (f2 (fC (.int 1)) (aA 1) dQ) (aD (aA 0) aE)) kY) (zR (aG (aD (f2 (fC (.int 1)) (aA 2) dQ) (aD (aA 0) aE)) kY))) aV)
def mW:List T->Option T:=Fof 3 0 vH
theorem QI (t0 t1 t2:T):mW [t0,t1,t2]=(vH [some t0,some t1,some t2]).bind bJ:=rfl
theorem UH (aHk:Cal P w K mg base "within" 1 ["one","other"] kY false 3) (cdv:Value) (A:Around) (outer:List Env) (s:Shared) (H:Hp) (E:XK)
  (hr:Room 1 (A.deeper (envOfC "is_cut" (defScope pV) s.heap.objs.size f cdv))):
  GSs (bB CX0 P w K mg base ["group","one","other"] "is_cut" (defScope pV) f cdv A outer s H E).nox H [1,1,1] false 3 (defBody pV) vH:=by
 have hu:=hr.units;unfold vH;exact @aN _ _ _ _ _ _ _ (@aY _ _ _ _ _ _ _ _ (@aW _ _ _ _ _ _ _ _ _ (@GE.sc _ _ _ _ _ _ _ (@AY _ _ _ _ _ _ _ _ _ _ _ _ _ (aZ aHk (hr.mono (by decide)) (by rfl) (aF (@fI _ _ _ _ _ _ _ _ _ _ _ _ ge_int (aB 1)) (aF (aB 0) aH))) (@JB _ _ _ _ _ _ _ _ _ (@VV _ _ _ _ _ _ _ _ (aZ aHk (hr.mono (by decide)) (by rfl) (aF (@fI _ _ _ _ _ _ _ _ _ _ _ _ ge_int (aB 2)) (aF (aB 0) aH))))))) (by rfl)))
theorem aB2 {fd:FuncData}(aHk:Cal P w K mg base "within" 1 ["one","other"] kY false 3) (Fu:Fun K "is_cut" "is_cut" pV f fd):
  FnOk P w K mg base CX0 2 f fd ["group","one","other"] (spT K mW false 3):=
 gfn Fu aE2 rfl (by decide) (fun ts t h=>bO h) (fun cdv A outer s H E hr=>@UH _ _ _ _ _ _ aHk cdv A outer s H E hr) (fun ts t h=>bQ h)
abbrev pQ:Stmt:=top 28
theorem aDz:FnScope ["hands","cuts"] ["hands","cuts"] (defScope pQ):=⟨rfl,rfl,rfl,by decide +kernel,rfl,by decide +kernel,by decide +kernel⟩
def vC:Rho->Option Bool:=
 fT (aG (aD (aA 3) (aD (aA 0) (aD (aA 1) aE))) mW)
def vB:Rho->Option T:=
 f1 (aA 2) aV
def yS:Rho->Option T:=
 aG (aD (qP [0,1,2] (fFL (aA 1)) [none,none,none,some 0] vC vB) aE) jK
def vA:Rho->Option Out:=
 aJ (gU (aG (aD (aA 0) aE) eZ))
  (aJ (gU (aG (aD (aA 0) (aD (aA 1) aE)) mT))
  (aT (bA (dE (aD (f2 (fC (.int 1)) (aA 0) dQ) aE) dF) [none,some 1] aO yS)))
def gG:List T->Option T:=Fof 2 0 vA
theorem QC (t0 t1:T):gG [t0,t1]=(vA [some t0,some t1]).bind bJ:=rfl
theorem UC (aGn:Cal P w K mg base "check_hands" 1 ["hands"] eZ false 3) (aH8:Cal P w K mg base "check_cuts" 2 ["hands","cuts"] mT false 3) (aHo:Cal P w K mg base "is_cut" 2 ["group","one","other"] mW false 3) (aGm:mg "range" = none) (aGt:mg "sum" = none) (cdv:Value) (A:Around) (outer:List Env) (s:Shared) (H:Hp) (E:XK)
  (hr:Room 2 (A.deeper (envOfC "from_cuts" (defScope pQ) s.heap.objs.size f cdv))):
  GSs (bB CX0 P w K mg base ["hands","cuts"] "from_cuts" (defScope pQ) f cdv A outer s H E).nox H [1,1] true 3 (defBody pQ) vA:=by
 have hu:=hr.units;unfold vA yS vB vC;exact @aP _ _ _ _ _ _ _ _ _ (@mF _ _ _ _ _ _ _ _ _ _ (aZ aGn (hr.mono (by decide)) (by rfl) (aF (aB 0) aH)) (by rfl)) (@aP _ _ _ _ _ _ _ _ _ (@mF _ _ _ _ _ _ _ _ _ _ (aZ aH8 (hr.mono (by decide)) (by rfl) (aF (aB 0) (aF (aB 1) aH))) (by rfl)) (@aN _ _ _ _ _ _ _ (@aY _ _ _ _ _ _ _ _ (@aW _ _ _ _ _ _ _ _ _ (@cS _ _ _ _ _ _ _ _ _ _ _ _ _ _ _ _ _ _ _ _ (bZ (by kernel_rfl) (N':=[ "group" ,"cuts" ]) (src:=[ none ,some 1 ])) (cH (by kernel_rfl) (fl':=[ 2 ,1 ])) (by decide) (by rfl) (fJ (by rfl) (by rfl) aGm (aF (@fI _ _ _ _ _ _ _ _ _ _ _ _ ge_int (aB 0)) aH)) (by rfl) (by rfl) (fun cl C s H ex=>⟨cI,sK (by rfl) (by rfl) (by rfl) aGt (aF (@BB _ _ _ _ _ _ _ _ _ _ _ _ _ _ _ _ _ _ _ _ _ _ _ (bZ (by kernel_rfl) (N':=[ "one" ,"other" ,"weight" ,"group" ]) (src:=[ none ,none ,none ,some 0 ])) (AU (by kernel_rfl) (fl':=[ 2 ,2 ,2 ,2 ]) (js:=[ 0 ,1 ,2 ])) (by decide) (by rfl) (eV (aB 1)) (fun cl C s H ex=>@pgT _ _ _ (3) _ _ (by rfl) (@eJ _ _ _ _ _ _ (jG (by kernel_rfl)) (by rfl) (Or.inl (by rfl)) (@eJ _ _ _ _ _ _ (jG (by kernel_rfl)) (by rfl) (Or.inl (by rfl)) (@eJ _ _ _ _ _ _ (jG (by kernel_rfl)) (by rfl) (Or.inl (by rfl)) (@nK _) (by trivial) (by rfl)) (by trivial) (by rfl)) (by trivial) (by rfl)) (by rfl) (by rfl)) (by rfl) (fun cl C s H ex=>⟨@BG _ _ _ _ _ (@nM _ _ _ _ _ _ _ (aZ aHo (hr.mono (by decide)) (by rfl) (aF (aB 3) (aF (aB 0) (aF (aB 1) aH)))) (by intro _;rfl)),@GE.sc _ _ _ _ _ _ _ (aB 2)⟩) (by intro _;rfl)) aH)⟩) (by intro _;rfl)) (by rfl)))))
theorem aAx {fd:FuncData}(aGn:Cal P w K mg base "check_hands" 1 ["hands"] eZ false 3) (aH8:Cal P w K mg base "check_cuts" 2 ["hands","cuts"] mT false 3) (aHo:Cal P w K mg base "is_cut" 2 ["group","one","other"] mW false 3) (aGm:mg "range" = none) (aGt:mg "sum" = none) (Fu:Fun K "from_cuts" "from_cuts" pQ f fd):
  FnOk P w K mg base CX0 3 f fd ["hands","cuts"] (spT K gG true 3):=
 gfn Fu aDz rfl (by decide) (fun ts t h=>bO h) (fun cdv A outer s H E hr=>@UC _ _ _ _ _ _ aGn aH8 aHo aGm aGt cdv A outer s H E hr) (fun ts t h=>bQ h)
abbrev pJ:Stmt:=top 24
theorem EC:FnScope ["hands","covers","weight","group"] ["hands","covers"] (defScope pJ):=⟨rfl,rfl,rfl,by decide +kernel,rfl,by decide +kernel,by decide +kernel⟩
def yP:Rho->Option Out:=
 aJ (gU (aG (aD (aA 2) aE) hJ))
  (rIf (pOr (fB (f2 (aA 3) (fC (.int 0)) oLt)) (fB (f2 (aA 3) (f2 (fC (.int 1)) (aA 0) dQ) oGe))) kQ bE)
def uS:Rho->Option Out:=
 rA [2,3] (fFL (aA 1))
  yP
def mS:List T->Option T:=Fof 2 2 uS
theorem PP (t0 t1:T):mS [t0,t1]=(uS [some t0,some t1,none,none]).bind bJ:=rfl
theorem TV (aGp:Cal P w K mg base "check_weight" 1 ["weight"] hJ false 3) (cdv:Value) (A:Around) (outer:List Env) (s:Shared) (H:Hp) (E:XK)
  (hr:Room 1 (A.deeper (envOfC "check_covers" (defScope pJ) s.heap.objs.size f cdv))):
  GSs (bB CX0 P w K mg base ["hands","covers","weight","group"] "check_covers" (defScope pJ) f cdv A outer s H E).nox H [1,1,1,1] false 3 (defBody pJ) uS:=by
 have hu:=hr.units;unfold uS yP;exact @aN _ _ _ _ _ _ _ (@wZ _ _ _ _ _ _ _ _ _ _ _ [2 ,3] _ _ _ _ _ PassesOwn.never (by rfl) (eV (aB 1)) (@eJ _ _ _ _ _ _ EC.nd (by rfl) (Or.inl (by rfl)) (@eJ _ _ _ _ _ _ EC.nd (by rfl) (Or.inl (by rfl)) (@nK _) (by trivial) (by rfl)) (by trivial) (by rfl)) (@aP _ _ _ _ _ _ _ _ _ (@mF _ _ _ _ _ _ _ _ _ _ (aZ aGp (hr.mono (by decide)) (by rfl) (aF (aB 2) aH)) (by rfl)) (@aN _ _ _ _ _ _ _ (@bX _ _ _ _ _ _ _ _ _ _ _ _ (@GW.gt _ _ _ _ _ (@fK _ _ _ _ _ _ _ _ _ (@kF _ _ _ _ _ _ _ _ _ _ _ _ (aB 3) ge_int) (@gN _ _ _ _ _ _ (@xA _ _ _ _ _ _ _ _ _ _ _ _ (aB 3) (@fI _ _ _ _ _ _ _ _ _ _ _ _ ge_int (aB 0)))))) (@aN _ _ _ _ _ _ _ nL) bY))) (by rfl) (by rfl) (by rfl) (by rfl) (by rfl) (by intro _;rfl))
theorem aAq {fd:FuncData}(aGp:Cal P w K mg base "check_weight" 1 ["weight"] hJ false 3) (Fu:Fun K "check_covers" "check_covers" pJ f fd):
  FnOk P w K mg base CX0 2 f fd ["hands","covers"] (spT K mS false 3):=
 gfn Fu EC rfl (by decide) (fun ts t h=>bO h) (fun cdv A outer s H E hr=>@TV _ _ _ _ _ _ aGp cdv A outer s H E hr) (fun ts t h=>bQ h)
abbrev pP:Stmt:=top 25
theorem aDy:FnScope ["hands","covers"] ["hands","covers"] (defScope pP):=⟨rfl,rfl,rfl,by decide +kernel,rfl,by decide +kernel,by decide +kernel⟩
def uZ:Rho->Option Bool:=
 fB (f2 (f2 (aA 1) (aA 2) qY) (fC (.int 0)) oNe)
def uY:Rho->Option T:=
 f1 (aA 0) aV
def yR:Rho->Option T:=
 aG (aD (qP [0,1] (fFL (aA 1)) [none,none,some 0] uZ uY) aE) jK
def uX:Rho->Option Out:=
 aJ (gU (aG (aD (aA 0) aE) eZ))
  (aJ (gU (aG (aD (aA 0) (aD (aA 1) aE)) mS))
  (aT (bA (dE (aD (f2 (fC (.int 1)) (aA 0) dQ) aE) dF) [none,some 1] aO yR)))
def gF:List T->Option T:=Fof 2 0 uX
theorem QB (t0 t1:T):gF [t0,t1]=(uX [some t0,some t1]).bind bJ:=rfl
theorem UB (aGn:Cal P w K mg base "check_hands" 1 ["hands"] eZ false 3) (aH3:Cal P w K mg base "check_covers" 2 ["hands","covers"] mS false 3) (aGm:mg "range" = none) (aGt:mg "sum" = none) (cdv:Value) (A:Around) (outer:List Env) (s:Shared) (H:Hp) (E:XK)
  (hr:Room 2 (A.deeper (envOfC "from_covers" (defScope pP) s.heap.objs.size f cdv))):
  GSs (bB CX0 P w K mg base ["hands","covers"] "from_covers" (defScope pP) f cdv A outer s H E).nox H [1,1] true 3 (defBody pP) uX:=by
 have hu:=hr.units;unfold uX yR uY uZ;exact @aP _ _ _ _ _ _ _ _ _ (@mF _ _ _ _ _ _ _ _ _ _ (aZ aGn (hr.mono (by decide)) (by rfl) (aF (aB 0) aH)) (by rfl)) (@aP _ _ _ _ _ _ _ _ _ (@mF _ _ _ _ _ _ _ _ _ _ (aZ aH3 (hr.mono (by decide)) (by rfl) (aF (aB 0) (aF (aB 1) aH))) (by rfl)) (@aN _ _ _ _ _ _ _ (@aY _ _ _ _ _ _ _ _ (@aW _ _ _ _ _ _ _ _ _ (@cS _ _ _ _ _ _ _ _ _ _ _ _ _ _ _ _ _ _ _ _ (bZ (by kernel_rfl) (N':=[ "group" ,"covers" ]) (src:=[ none ,some 1 ])) (cH (by kernel_rfl) (fl':=[ 2 ,1 ])) (by decide) (by rfl) (fJ (by rfl) (by rfl) aGm (aF (@fI _ _ _ _ _ _ _ _ _ _ _ _ ge_int (aB 0)) aH)) (by rfl) (by rfl) (fun cl C s H ex=>⟨cI,sK (by rfl) (by rfl) (by rfl) aGt (aF (@BB _ _ _ _ _ _ _ _ _ _ _ _ _ _ _ _ _ _ _ _ _ _ _ (bZ (by kernel_rfl) (N':=[ "weight" ,"cover" ,"group" ]) (src:=[ none ,none ,some 0 ])) (AU (by kernel_rfl) (fl':=[ 2 ,2 ,2 ]) (js:=[ 0 ,1 ])) (by decide) (by rfl) (eV (aB 1)) (fun cl C s H ex=>@pgT _ _ _ (2) _ _ (by rfl) (@eJ _ _ _ _ _ _ (jG (by kernel_rfl)) (by rfl) (Or.inl (by rfl)) (@eJ _ _ _ _ _ _ (jG (by kernel_rfl)) (by rfl) (Or.inl (by rfl)) (@nK _) (by trivial) (by rfl)) (by trivial) (by rfl)) (by rfl) (by rfl)) (by rfl) (fun cl C s H ex=>⟨@BG _ _ _ _ _ (@mG _ _ _ _ _ _ _ _ _ _ _ _ hu (@wO _ _ _ _ _ _ _ _ _ _ _ _ (aB 1) (aB 2)) ge_int),@GE.sc _ _ _ _ _ _ _ (aB 0)⟩) (by intro _;rfl)) aH)⟩) (by intro _;rfl)) (by rfl)))))
theorem aAw {fd:FuncData}(aGn:Cal P w K mg base "check_hands" 1 ["hands"] eZ false 3) (aH3:Cal P w K mg base "check_covers" 2 ["hands","covers"] mS false 3) (aGm:mg "range" = none) (aGt:mg "sum" = none) (Fu:Fun K "from_covers" "from_covers" pP f fd):
  FnOk P w K mg base CX0 3 f fd ["hands","covers"] (spT K gF true 3):=
 gfn Fu aDy rfl (by decide) (fun ts t h=>bO h) (fun cdv A outer s H E hr=>@UB _ _ _ _ _ _ aGn aH3 aGm aGt cdv A outer s H E hr) (fun ts t h=>bQ h)
abbrev pE:Stmt:=top 63
theorem gA:FnScope ["cell","names","hands","rest","number","places","called","steps","row","other"] ["cell","names"] (defScope pE):=⟨rfl,rfl,rfl,by decide +kernel,rfl,by decide +kernel,by decide +kernel⟩
def uI:Rho->Option T:=
 f1 (f2 (aA 1) (aA 0) oIx) aV
def uJ:Rho->Option T:=
 aG (aD (aA 0) aE) kJ
def uK:Rho->Option T:=
 f2 (aA 1) (aG (aD (f2 (aA 0) (f2 (aA 2) (fC (.int 0)) oIx) oEq) aE) xM) eM
def uL:Rho->Option T:=
 f2 (fC (.int 1)) (aA 0) dQ
def uH:Rho->Option Out:=
 aJ (aS 2 (aG (aD (aA 1) aE) cD))
  (aJ (aS 3 (f2 (aA 0) (fC (.int 4)) bG))
  (aJ (aS 4 (f1 (aG (aD (f2 (aA 3) (fC (.int 11)) bG) aE) gE) aV))
  (aJ (aS 5 (aG (aD (aA 3) (aD (aA 2) aE)) kT))
  (aJ (aS 6 (bA (fFL (aA 5)) [none,some 1] aO uI))
  (aJ (rIf (fB (f2 (f2 (aA 0) (fC (.int 4)) aR) (fC (.int 0)) oEq)) (aJ (aS 7 (aG (aD (aA 3) (aD (aA 2) aE)) kW))
  (aT (dI (aD (f2 (fC (.str " ")) (f2 (cG (aD (fC (.str "steps")) aE)) (bA (fFL (aA 7)) [none] aO uJ) cU) eL) (aD (aG (aD (aA 7) aE) gH) aE))))) bE)
  (aJ (rIf (fB (f2 (f2 (aA 0) (fC (.int 4)) aR) (fC (.int 1)) oEq)) (aJ (aS 8 (bA (dE (aD (aA 2) aE) dF) [none,some 4,some 5] aO uK))
  (aT (dI (aD (f2 (f2 (f2 (fC (.str "each ")) (aG (aD (aA 4) aE) kJ) bS) (fC (.str " ")) bS) (f2 (aA 6) (fC (.int 0)) oIx) bS) (aD (aG (aD (aA 8) aE) gI) aE))))) bE)
  (aJ (aS 4 (aG (aD (aA 4) aE) xI))
  (aJ (rIf (gP (fB (f2 (f2 (aA 0) (fC (.int 4)) aR) (fC (.int 2)) oEq)) (fB (f2 (aA 2) (fC (.int 1)) oGt))) (aJ (aS 9 (f2 (f2 (f2 (f2 (aA 5) (fC (.int 0)) oIx) (fC (.int 1)) cA) (f2 (f2 (aA 3) (fC (.int 7)) bG) (f2 (aA 2) (fC (.int 1)) kK) aR) cA) (aA 2) aR))
  (aJ (aS 8 (f2 (f2 (f2 (f2 (f2 (fC (.str "cut ")) (aG (aD (aA 4) aE) kJ) bS) (fC (.str " ")) bS) (f2 (aA 6) (fC (.int 0)) oIx) bS) (fC (.str " ")) bS) (f2 (aA 1) (aA 9) oIx) bS))
  (aT (dI (aD (f1 (aA 8) aV) (aD (aG (aD (aA 2) (aD (cG (aD (dI (aD (f1 (f2 (aA 5) (fC (.int 0)) oIx) aV) (aD (f1 (aA 9) aV) (aD (f1 (aA 4) aV) aE)))) aE)) aE)) gG) aE)))))) bE)
  (aJ (aS 8 (f2 (fC (.str " ")) (f2 (cG (aD (fC (.str "cover")) (aD (aG (aD (aA 4) aE) kJ) aE))) (aA 6) cU) eL))
  (aT (dI (aD (f1 (aA 8) aV) (aD (aG (aD (aA 2) (aD (cG (aD (dI (aD (f1 (aA 4) aV) (aD (aG (aD (bA (fFL (aA 5)) [none] aO uL) aE) jK) aE))) aE)) aE)) gF) aE)))))))))))))
def mP:List T->Option T:=Fof 2 8 uH
theorem PB (t0 t1:T):mP [t0,t1]=(uH [some t0,some t1,none,none,none,none,none,none,none,none]).bind bJ:=rfl
theorem TM (aGq:Cal P w K mg base "_law_number" 1 ["cell"] gE false 3) (aGy:Cal P w K mg base "_law_hands_of" 1 ["cell","hands"] kT true 3) (aGz:Cal P w K mg base "_law_steps_of" 2 ["cell","hands"] kW true 3) (aGs:Cal P w K mg base "from_steps" 3 ["steps"] gH true 3) (aGw:Cal P w K mg base "row_table" 3 ["row"] gI true 3) (aGu:Cal P w K mg base "from_cuts" 3 ["hands","cuts"] gG true 3) (aGr:Cal P w K mg base "from_covers" 3 ["hands","covers"] gF true 3) (aGl:mg "len" = none) (aHr:mg "str" = none) (aGm:mg "range" = none) (aHl:mg "int" = none) (aHy:mg "abs" = none) (aGt:mg "sum" = none) (cdv:Value) (A:Around) (outer:List Env) (s:Shared) (H:Hp) (E:XK)
  (hr:Room 3 (A.deeper (envOfC "_law_row" (defScope pE) s.heap.objs.size f cdv))):
  GSs (bB CX0 P w K mg base ["cell","names","hands","rest","number","places","called","steps","row","other"] "_law_row" (defScope pE) f cdv A outer s H E).nox H [1,1,1,1,1,1,1,1,1,1] true 3 (defBody pE) uH:=by
 have hu:=hr.units;unfold uH uL uK uJ uI;exact @aP _ _ _ _ _ _ _ _ _ (@bR _ _ _ _ _ _ _ _ _ _ _ _ 2 (cX (by rfl) (by rfl) aGl (aF (aB 1) aH)) gA.nd (by rfl) (Or.inl (by rfl)) (by rfl) (by rfl) (by trivial)) (@aP _ _ _ _ _ _ _ _ _ (@bR _ _ _ _ _ _ _ _ _ _ _ _ 3 (@fA _ _ _ _ _ _ _ _ _ _ _ _ (aB 0) ge_int) gA.nd (by rfl) (Or.inl (by rfl)) (by rfl) (by rfl) (by trivial)) (@aP _ _ _ _ _ _ _ _ _ (@bR _ _ _ _ _ _ _ _ _ _ _ _ 4 (@GE.sc _ _ _ _ _ _ _ (aZ aGq (hr.mono (by decide)) (by rfl) (aF (@fA _ _ _ _ _ _ _ _ _ _ _ _ (aB 3) ge_int) aH))) gA.nd (by rfl) (Or.inr (by rfl)) (by rfl) (by rfl) (by trivial)) (@aP _ _ _ _ _ _ _ _ _ (@bR _ _ _ _ _ _ _ _ _ _ _ _ 5 (aZ aGy (hr.mono (by decide)) (by rfl) (aF (aB 3) (aF (aB 2) aH))) gA.nd (by rfl) (Or.inr (by rfl)) (by rfl) (by rfl) (by trivial)) (@aP _ _ _ _ _ _ _ _ _ (@BH _ _ _ _ _ _ _ _ _ _ _ _ _ _ _ _ _ _ _ _ _ _ _ _ _ 6 (bZ (by kernel_rfl) (N':=[ "place" ,"names" ]) (src:=[ none ,some 1 ])) (cH (by kernel_rfl) (fl':=[ 2 ,1 ])) (by rfl) (eV (aB 5)) (by rfl) (by rfl) (fun cl C s H ex=>⟨cI,@GE.sc _ _ _ _ _ _ _ (@bW _ _ _ _ _ _ _ _ _ _ _ _ (aB 1) (aB 0) (by exact fun _ _=>rfl))⟩) gA.nd (by rfl) (Or.inl (by rfl)) (by rfl) (by rfl) (by intro _;rfl) (by trivial)) (@aP _ _ _ _ _ _ _ _ _ (@bX _ _ _ _ _ _ _ _ _ _ _ _ (@dO _ _ _ _ _ _ _ _ _ _ _ _ hu (@cM _ _ _ _ _ _ _ _ _ _ _ _ (aB 0) ge_int) ge_int) (@aP _ _ _ _ _ _ _ _ _ (@bR _ _ _ _ _ _ _ _ _ _ _ _ 7 (aZ aGz (hr.mono (by decide)) (by rfl) (aF (aB 3) (aF (aB 2) aH))) gA.nd (by rfl) (Or.inl (by rfl)) (by rfl) (by rfl) (by trivial)) (@aN _ _ _ _ _ _ _ (@aY _ _ _ _ _ _ _ _ (@sO _ _ _ _ _ _ _ _ _ (@gM _ _ _ _ _ _ _ _ (@aW _ _ _ _ _ _ _ _ _ (qQ bL (@nI _ _ _ _ _ _ _ _ _ _ _ _ (@eI _ _ _ _ _ _ _ (aF bL aH)) (@cS _ _ _ _ _ _ _ _ _ _ _ _ _ _ _ _ _ _ _ _ (bZ (by kernel_rfl) (N':=[ "step" ]) (src:=[ none ])) (cH (by kernel_rfl) (fl':=[ 2 ])) (by decide) (by rfl) (eV (aB 7)) (by rfl) (by rfl) (fun cl C s H ex=>⟨cI,wU (by rfl) (by rfl) aHr PyProof.Rows.boot_str (aF (aB 0) aH)⟩) (by intro _;rfl)))) (by rfl)) (@gM _ _ _ _ _ _ _ _ (@aW _ _ _ _ _ _ _ _ _ (aZ aGs (hr.mono (by decide)) (by rfl) (aF (aB 7) aH)) (by rfl)) sP (by rfl) (by rfl)) (by rfl) (by rfl)) (by rfl))))) bY) (@aP _ _ _ _ _ _ _ _ _ (@bX _ _ _ _ _ _ _ _ _ _ _ _ (@dO _ _ _ _ _ _ _ _ _ _ _ _ hu (@cM _ _ _ _ _ _ _ _ _ _ _ _ (aB 0) ge_int) ge_int) (@aP _ _ _ _ _ _ _ _ _ (@BH _ _ _ _ _ _ _ _ _ _ _ _ _ _ _ _ _ _ _ _ _ _ _ _ _ 8 (bZ (by kernel_rfl) (N':=[ "hand" ,"number" ,"places" ]) (src:=[ none ,some 4 ,some 5 ])) (cH (by kernel_rfl) (fl':=[ 2 ,1 ,1 ])) (by rfl) (fJ (by rfl) (by rfl) aGm (aF (aB 2) aH)) (by rfl) (by rfl) (fun cl C s H ex=>⟨cI,@wS _ _ _ _ _ _ _ _ _ _ _ _ (aB 1) (@WB _ _ _ _ _ _ _ _ _ _ (by rfl) (by rfl) aHl (aF (@BC _ _ _ _ _ _ _ _ _ _ _ _ hu (aB 0) (@bW _ _ _ _ _ _ _ _ _ _ _ _ (aB 2) ge_int (by exact fun _ _=>rfl))) aH) (by rfl) (by rfl))⟩) gA.nd (by rfl) (Or.inl (by rfl)) (by rfl) (by rfl) (by intro _;rfl) (by trivial)) (@aN _ _ _ _ _ _ _ (@aY _ _ _ _ _ _ _ _ (@sO _ _ _ _ _ _ _ _ _ (@gM _ _ _ _ _ _ _ _ (@aW _ _ _ _ _ _ _ _ _ (gL (gL (gL bL (wU (by rfl) (by rfl) aHr PyProof.Rows.boot_str (aF (aB 4) aH))) bL) (@bW _ _ _ _ _ _ _ _ _ _ _ _ (aB 6) ge_int (by exact fun _ _=>rfl))) (by rfl)) (@gM _ _ _ _ _ _ _ _ (@aW _ _ _ _ _ _ _ _ _ (aZ aGw (hr.mono (by decide)) (by rfl) (aF (aB 8) aH)) (by rfl)) sP (by rfl) (by rfl)) (by rfl) (by rfl)) (by rfl))))) bY) (@aP _ _ _ _ _ _ _ _ _ (@bR _ _ _ _ _ _ _ _ _ _ _ _ 4 (VJ (by rfl) (by rfl) aHy (aF (aB 4) aH)) gA.nd (by rfl) (Or.inr (by rfl)) (by rfl) (by rfl) (by trivial)) (@aP _ _ _ _ _ _ _ _ _ (@bX _ _ _ _ _ _ _ _ _ _ _ _ (@GW.gt _ _ _ _ _ (@qT _ _ _ _ _ _ _ _ _ (@dO _ _ _ _ _ _ _ _ _ _ _ _ hu (@cM _ _ _ _ _ _ _ _ _ _ _ _ (aB 0) ge_int) ge_int) (@sR _ _ _ _ _ _ (@sQ _ _ _ _ _ _ _ _ _ _ _ _ (aB 2) ge_int)))) (@aP _ _ _ _ _ _ _ _ _ (@bR _ _ _ _ _ _ _ _ _ _ _ _ 9 (@cM _ _ _ _ _ _ _ _ _ _ _ _ (@eC _ _ _ _ _ _ _ _ _ _ _ _ (@eC _ _ _ _ _ _ _ _ _ _ _ _ (@bW _ _ _ _ _ _ _ _ _ _ _ _ (aB 5) ge_int (by exact fun _ _=>rfl)) ge_int) (@cM _ _ _ _ _ _ _ _ _ _ _ _ (@fA _ _ _ _ _ _ _ _ _ _ _ _ (aB 3) ge_int) (@wV _ _ _ _ _ _ _ _ _ _ _ _ (aB 2) ge_int))) (aB 2)) gA.nd (by rfl) (Or.inl (by rfl)) (by rfl) (by rfl) (by trivial)) (@aP _ _ _ _ _ _ _ _ _ (@bR _ _ _ _ _ _ _ _ _ _ _ _ 8 (gL (gL (gL (gL (gL bL (wU (by rfl) (by rfl) aHr PyProof.Rows.boot_str (aF (aB 4) aH))) bL) (@bW _ _ _ _ _ _ _ _ _ _ _ _ (aB 6) ge_int (by exact fun _ _=>rfl))) bL) (@bW _ _ _ _ _ _ _ _ _ _ _ _ (aB 1) (aB 9) (by exact fun _ _=>rfl))) gA.nd (by rfl) (Or.inl (by rfl)) (by rfl) (by rfl) (by trivial)) (@aN _ _ _ _ _ _ _ (@aY _ _ _ _ _ _ _ _ (@sO _ _ _ _ _ _ _ _ _ (@gM _ _ _ _ _ _ _ _ (@aW _ _ _ _ _ _ _ _ _ (@GE.sc _ _ _ _ _ _ _ (aB 8)) (by rfl)) (@gM _ _ _ _ _ _ _ _ (@aW _ _ _ _ _ _ _ _ _ (aZ aGu (hr.mono (by decide)) (by rfl) (aF (aB 2) (aF (@eI _ _ _ _ _ _ _ (aF (@sL _ _ _ _ _ _ _ _ (aF (@GE.sc _ _ _ _ _ _ _ (@bW _ _ _ _ _ _ _ _ _ _ _ _ (aB 5) ge_int (by exact fun _ _=>rfl))) (aF (@GE.sc _ _ _ _ _ _ _ (aB 9)) (aF (@GE.sc _ _ _ _ _ _ _ (aB 4)) aH)))) aH)) aH))) (by rfl)) sP (by rfl) (by rfl)) (by rfl) (by rfl)) (by rfl)))))) bY) (@aP _ _ _ _ _ _ _ _ _ (@bR _ _ _ _ _ _ _ _ _ _ _ _ 8 (qQ bL (@nI _ _ _ _ _ _ _ _ _ _ _ _ (@eI _ _ _ _ _ _ _ (aF bL (aF (wU (by rfl) (by rfl) aHr PyProof.Rows.boot_str (aF (aB 4) aH)) aH))) (aB 6))) gA.nd (by rfl) (Or.inl (by rfl)) (by rfl) (by rfl) (by trivial)) (@aN _ _ _ _ _ _ _ (@aY _ _ _ _ _ _ _ _ (@sO _ _ _ _ _ _ _ _ _ (@gM _ _ _ _ _ _ _ _ (@aW _ _ _ _ _ _ _ _ _ (@GE.sc _ _ _ _ _ _ _ (aB 8)) (by rfl)) (@gM _ _ _ _ _ _ _ _ (@aW _ _ _ _ _ _ _ _ _ (aZ aGr (hr.mono (by decide)) (by rfl) (aF (aB 2) (aF (@eI _ _ _ _ _ _ _ (aF (@sL _ _ _ _ _ _ _ _ (aF (@GE.sc _ _ _ _ _ _ _ (aB 4)) (aF (sK (by rfl) (by rfl) (by rfl) aGt (aF (@cS _ _ _ _ _ _ _ _ _ _ _ _ _ _ _ _ _ _ _ _ (bZ (by kernel_rfl) (N':=[ "place" ]) (src:=[ none ])) (cH (by kernel_rfl) (fl':=[ 2 ])) (by decide) (by rfl) (eV (aB 5)) (by rfl) (by rfl) (fun cl C s H ex=>⟨cI,@fI _ _ _ _ _ _ _ _ _ _ _ _ ge_int (aB 0)⟩) (by intro _;rfl)) aH)) aH))) aH)) aH))) (by rfl)) sP (by rfl) (by rfl)) (by rfl) (by rfl)) (by rfl)))))))))))))
theorem aAk {fd:FuncData}(aGq:Cal P w K mg base "_law_number" 1 ["cell"] gE false 3) (aGy:Cal P w K mg base "_law_hands_of" 1 ["cell","hands"] kT true 3) (aGz:Cal P w K mg base "_law_steps_of" 2 ["cell","hands"] kW true 3) (aGs:Cal P w K mg base "from_steps" 3 ["steps"] gH true 3) (aGw:Cal P w K mg base "row_table" 3 ["row"] gI true 3) (aGu:Cal P w K mg base "from_cuts" 3 ["hands","cuts"] gG true 3) (aGr:Cal P w K mg base "from_covers" 3 ["hands","covers"] gF true 3) (aGl:mg "len" = none) (aHr:mg "str" = none) (aGm:mg "range" = none) (aHl:mg "int" = none) (aHy:mg "abs" = none) (aGt:mg "sum" = none) (Fu:Fun K "_law_row" "_law_row" pE f fd):
  FnOk P w K mg base CX0 4 f fd ["cell","names"] (spT K mP true 3):=
 gfn Fu gA rfl (by decide) (fun ts t h=>bO h) (fun cdv A outer s H E hr=>@TM _ _ _ _ _ _ aGq aGy aGz aGs aGw aGu aGr aGl aHr aGm aHl aHy aGt cdv A outer s H E hr) (fun ts t h=>bQ h)
abbrev pZ:Stmt:=top 17
theorem aE5:FnScope ["one","other"] ["one","other"] (defScope pZ):=⟨rfl,rfl,rfl,by decide +kernel,rfl,by decide +kernel,by decide +kernel⟩
def vL:Rho->Option Out:=
 rIf (fB (f2 (aG (aD (aA 0) aE) cD) (aG (aD (aA 1) aE) cD) oNe)) kQ bE
def mZ:List T->Option T:=Fof 2 0 vL
theorem QS (t0 t1:T):mZ [t0,t1]=(vL [some t0,some t1]).bind bJ:=rfl
theorem UM (aGl:mg "len" = none) (cdv:Value) (A:Around) (outer:List Env) (s:Shared) (H:Hp) (E:XK)
  (hr:Room 0 (A.deeper (envOfC "must_be_alike" (defScope pZ) s.heap.objs.size f cdv))):
  GSs (bB CX0 P w K mg base ["one","other"] "must_be_alike" (defScope pZ) f cdv A outer s H E).nox H [1,1] false 3 (defBody pZ) vL:=by
 have hu:=hr.units;unfold vL;exact @aN _ _ _ _ _ _ _ (@bX _ _ _ _ _ _ _ _ _ _ _ _ (@mG _ _ _ _ _ _ _ _ _ _ _ _ hu (cX (by rfl) (by rfl) aGl (aF (aB 0) aH)) (cX (by rfl) (by rfl) aGl (aF (aB 1) aH))) (@aN _ _ _ _ _ _ _ nL) bY)
theorem aB7 {fd:FuncData}(aGl:mg "len" = none) (Fu:Fun K "must_be_alike" "must_be_alike" pZ f fd):
  FnOk P w K mg base CX0 1 f fd ["one","other"] (spT K mZ false 3):=
 gfn Fu aE5 rfl (by decide) (fun ts t h=>bO h) (fun cdv A outer s H E hr=>@UM _ _ _ _ _ _ aGl cdv A outer s H E hr) (fun ts t h=>bQ h)
abbrev pG:Stmt:=top 18
theorem aDt:FnScope ["one","other"] ["one","other"] (defScope pG):=⟨rfl,rfl,rfl,by decide +kernel,rfl,by decide +kernel,by decide +kernel⟩
def yN:Rho->Option T:=
 f2 (aA 0) (aA 1) cA
def uN:Rho->Option Out:=
 aJ (gU (aG (aD (aA 0) (aD (aA 1) aE)) mZ))
  (aT (qP [0,1] (sH (fFL (aA 0)) (fFL (aA 1))) [none,none] aO yN))
def cV:List T->Option T:=Fof 2 0 uN
theorem PF (t0 t1:T):cV [t0,t1]=(uN [some t0,some t1]).bind bJ:=rfl
theorem TQ (aH0:Cal P w K mg base "must_be_alike" 1 ["one","other"] mZ false 3) (aHm:mg "zip" = none) (cdv:Value) (A:Around) (outer:List Env) (s:Shared) (H:Hp) (E:XK)
  (hr:Room 1 (A.deeper (envOfC "added" (defScope pG) s.heap.objs.size f cdv))):
  GSs (bB CX0 P w K mg base ["one","other"] "added" (defScope pG) f cdv A outer s H E).nox H [1,1] true 3 (defBody pG) uN:=by
 have hu:=hr.units;unfold uN yN;exact @aP _ _ _ _ _ _ _ _ _ (@mF _ _ _ _ _ _ _ _ _ _ (aZ aH0 (hr.mono (by decide)) (by rfl) (aF (aB 0) (aF (aB 1) aH))) (by rfl)) (@aN _ _ _ _ _ _ _ (@aY _ _ _ _ _ _ _ _ (@aW _ _ _ _ _ _ _ _ _ (@BB _ _ _ _ _ _ _ _ _ _ _ _ _ _ _ _ _ _ _ _ _ _ _ (bZ (by kernel_rfl) (N':=[ "cost" ,"more" ]) (src:=[ none ,none ])) (AU (by kernel_rfl) (fl':=[ 2 ,2 ]) (js:=[ 0 ,1 ])) (by decide) (by rfl) (@JD _ _ _ _ _ _ _ _ _ _ _ _ _ _ _ _ _ (by rfl) (by rfl) aHm (aB 0) (aB 1) (by rfl) (by rfl)) (fun cl C s H ex=>@pgT _ _ _ (2) _ _ (by rfl) (@eJ _ _ _ _ _ _ (jG (by kernel_rfl)) (by rfl) (Or.inl (by rfl)) (@eJ _ _ _ _ _ _ (jG (by kernel_rfl)) (by rfl) (Or.inl (by rfl)) (@nK _) (by trivial) (by rfl)) (by trivial) (by rfl)) (by rfl) (by rfl)) (by rfl) (fun cl C s H ex=>⟨cI,@eC _ _ _ _ _ _ _ _ _ _ _ _ (aB 0) (aB 1)⟩) (by intro _;rfl)) (by rfl))))
theorem aAm {fd:FuncData}(aH0:Cal P w K mg base "must_be_alike" 1 ["one","other"] mZ false 3) (aHm:mg "zip" = none) (Fu:Fun K "added" "added" pG f fd):
  FnOk P w K mg base CX0 2 f fd ["one","other"] (spT K cV true 3):=
 gfn Fu aDt rfl (by decide) (fun ts t h=>bO h) (fun cdv A outer s H E hr=>@TQ _ _ _ _ _ _ aH0 aHm cdv A outer s H E hr) (fun ts t h=>bQ h)
abbrev pW:Stmt:=top 36
theorem aE3:FnScope ["word"] ["word"] (defScope pW):=⟨rfl,rfl,rfl,by decide +kernel,rfl,by decide +kernel,by decide +kernel⟩
def DV:Rho->Option T:=
 f2 (aA 0) (fC (.str "abcdefghijklmnopqrstuvwxyz")) xK
def vI:Rho->Option Out:=
 aT (f1 (vY (f2 (aG (aD (aA 0) aE) mM) (fC (.int 1)) oGe) (vY (f2 (aG (aD (aA 0) aE) mM) (fC (.int 8)) oLe) (aG (aD (bA (sG (aA 0)) [none] aO DV) aE) jH))) aV)
def dL:List T->Option T:=Fof 1 0 vI
theorem QK (t0:T):dL [t0]=(vI [some t0]).bind bJ:=rfl
theorem UI (aGl:mg "len" = none) (m_MOST_LETTERS:∃ tk,mg "MOST_LETTERS" = some (.int 8 tk)) (m_LETTERS:∃ tk,mg "LETTERS" = some (.str "abcdefghijklmnopqrstuvwxyz" tk)) (aGx:mg "all" = none) (cdv:Value) (A:Around) (outer:List Env) (s:Shared) (H:Hp) (E:XK)
  (hr:Room 0 (A.deeper (envOfC "is_name" (defScope pW) s.heap.objs.size f cdv))):
  GSs (bB CX0 P w K mg base ["word"] "is_name" (defScope pW) f cdv A outer s H E).nox H [1] false 3 (defBody pW) vI:=by
 have hu:=hr.units;unfold vI DV;exact @aN _ _ _ _ _ _ _ (@aY _ _ _ _ _ _ _ _ (@aW _ _ _ _ _ _ _ _ _ (@GE.sc _ _ _ _ _ _ _ (@AY _ _ _ _ _ _ _ _ _ _ _ _ _ (@VM _ _ _ _ _ _ _ _ _ _ _ _ (wR (by rfl) (by rfl) aGl (aF (aB 0) aH)) ge_int) (@AY _ _ _ _ _ _ _ _ _ _ _ _ _ (@VR _ _ _ _ _ _ _ _ _ _ _ _ (wR (by rfl) (by rfl) aGl (aF (aB 0) aH)) (@sJ _ _ _ _ _ (8) (by rfl) m_MOST_LETTERS (by decide))) (@JB _ _ _ _ _ _ _ _ _ (wN (by rfl) (by rfl) (by rfl) aGx (aF (@cS _ _ _ _ _ _ _ _ _ _ _ _ _ _ _ _ _ _ _ _ (bZ (by kernel_rfl) (N':=[ "sign" ]) (src:=[ none ])) (cH (by kernel_rfl) (fl':=[ 2 ])) (by decide) (by rfl) (JC (aB 0)) (by rfl) (by rfl) (fun cl C s H ex=>⟨cI,IY (aB 0) (IX (by rfl) m_LETTERS (z := "abcdefghijklmnopqrstuvwxyz"))⟩) (by intro _;rfl)) aH)))))) (by rfl)))
theorem aB3 {fd:FuncData}(aGl:mg "len" = none) (m_MOST_LETTERS:∃ tk,mg "MOST_LETTERS" = some (.int 8 tk)) (m_LETTERS:∃ tk,mg "LETTERS" = some (.str "abcdefghijklmnopqrstuvwxyz" tk)) (aGx:mg "all" = none) (Fu:Fun K "is_name" "is_name" pW f fd):
  FnOk P w K mg base CX0 1 f fd ["word"] (spT K dL false 3):=
 gfn Fu aE3 rfl (by decide) (fun ts t h=>bO h) (fun cdv A outer s H E hr=>@UI _ _ _ _ _ _ aGl m_MOST_LETTERS m_LETTERS aGx cdv A outer s H E hr) (fun ts t h=>bQ h)
abbrev qB:Stmt:=top 37
theorem NE:FnScope ["word","figures","written"] ["word","figures"] (defScope qB):=⟨rfl,rfl,rfl,by decide +kernel,rfl,by decide +kernel,by decide +kernel⟩
def zC:Rho->Option T:=
 f2 (aA 0) (fC (.str "0123456789")) xK
def vM:Rho->Option Out:=
 aJ (aS 2 (fIf (fT (f2 (aA 0) (fC (.str "-")) CZ)) (AR (aA 0) (eW (fC (.int 1))) cJ) (f1 (aA 0) aV)))
  (aJ (rIf (pOr (fB (f2 (aG (aD (aA 2) aE) mM) (fC (.int 0)) oEq)) (pOr (fB (f2 (aG (aD (aA 2) aE) mM) (aA 1) oGt)) (nQ (fT (aG (aD (bA (sG (aA 2)) [none] aO zC) aE) jH))))) (aT (fC .non)) bE)
  (aJ (rIf (gP (fB (f2 (f2 (aA 2) (fC (.int 0)) eK) (fC (.str "0")) oEq)) (fB (f2 (aA 0) (fC (.str "0")) oNe))) (aT (fC .non)) bE)
  (aT (aG (aD (aA 0) aE) tE))))
def fQ:List T->Option T:=Fof 2 1 vM
theorem QX (t0 t1:T):fQ [t0,t1]=(vM [some t0,some t1,none]).bind bJ:=rfl
theorem UO (aGl:mg "len" = none) (m_FIGURES:∃ tk,mg "FIGURES" = some (.str "0123456789" tk)) (aGx:mg "all" = none) (aHl:mg "int" = none) (cdv:Value) (A:Around) (outer:List Env) (s:Shared) (H:Hp) (E:XK)
  (hr:Room 0 (A.deeper (envOfC "number_in" (defScope qB) s.heap.objs.size f cdv))):
  GSs (bB CX0 P w K mg base ["word","figures","written"] "number_in" (defScope qB) f cdv A outer s H E).nox H [1,1,1] false 3 (defBody qB) vM:=by
 have hu:=hr.units;unfold vM zC;exact @aP _ _ _ _ _ _ _ _ _ (@bR _ _ _ _ _ _ _ _ _ _ _ _ 2 (@BD _ _ _ _ _ _ _ _ _ _ _ _ (@nM _ _ _ _ _ _ _ (WA (aB 0) bL) (by intro _;rfl)) (VY (aB 0) (@jC _ _ _ _ _ _ _ ge_int) dN) (@GE.sc _ _ _ _ _ _ _ (aB 0))) NE.nd (by rfl) (Or.inl (by rfl)) (by rfl) (by rfl) (by trivial)) (@aP _ _ _ _ _ _ _ _ _ (@bX _ _ _ _ _ _ _ _ _ _ _ _ (@GW.gt _ _ _ _ _ (@fK _ _ _ _ _ _ _ _ _ (@dO _ _ _ _ _ _ _ _ _ _ _ _ hu (wR (by rfl) (by rfl) aGl (aF (aB 2) aH)) ge_int) (@fK _ _ _ _ _ _ _ _ _ (@sQ _ _ _ _ _ _ _ _ _ _ _ _ (wR (by rfl) (by rfl) aGl (aF (aB 2) aH)) (aB 1)) (@gN _ _ _ _ _ _ (@BK _ _ _ _ _ _ (@nM _ _ _ _ _ _ _ (wN (by rfl) (by rfl) (by rfl) aGx (aF (@cS _ _ _ _ _ _ _ _ _ _ _ _ _ _ _ _ _ _ _ _ (bZ (by kernel_rfl) (N':=[ "sign" ]) (src:=[ none ])) (cH (by kernel_rfl) (fl':=[ 2 ])) (by decide) (by rfl) (JC (aB 2)) (by rfl) (by rfl) (fun cl C s H ex=>⟨cI,IY (aB 0) (IX (by rfl) m_FIGURES (z := "0123456789"))⟩) (by intro _;rfl)) aH)) (by intro _;rfl))))))) (@aN _ _ _ _ _ _ _ (@aY _ _ _ _ _ _ _ _ (@aW _ _ _ _ _ _ _ _ _ dW (by rfl)))) bY) (@aP _ _ _ _ _ _ _ _ _ (@bX _ _ _ _ _ _ _ _ _ _ _ _ (@GW.gt _ _ _ _ _ (@qT _ _ _ _ _ _ _ _ _ (@dO _ _ _ _ _ _ _ _ _ _ _ _ hu (wQ (aB 2) ge_int) bL) (@sR _ _ _ _ _ _ (@mG _ _ _ _ _ _ _ _ _ _ _ _ hu (aB 0) bL)))) (@aN _ _ _ _ _ _ _ (@aY _ _ _ _ _ _ _ _ (@aW _ _ _ _ _ _ _ _ _ dW (by rfl)))) bY) (@aN _ _ _ _ _ _ _ (@aY _ _ _ _ _ _ _ _ (@aW _ _ _ _ _ _ _ _ _ (WC (by rfl) (by rfl) aHl (aF (aB 0) aH)) (by rfl))))))
theorem aB9 {fd:FuncData}(aGl:mg "len" = none) (m_FIGURES:∃ tk,mg "FIGURES" = some (.str "0123456789" tk)) (aGx:mg "all" = none) (aHl:mg "int" = none) (Fu:Fun K "number_in" "number_in" qB f fd):
  FnOk P w K mg base CX0 1 f fd ["word","figures"] (spT K fQ false 3):=
 gfn Fu NE rfl (by decide) (fun ts t h=>bO h) (fun cdv A outer s H E hr=>@UO _ _ _ _ _ _ aGl m_FIGURES aGx aHl cdv A outer s H E hr) (fun ts t h=>bQ h)
abbrev qC:Stmt:=top 38
theorem NF:FnScope ["words","numbers"] ["words"] (defScope qC):=⟨rfl,rfl,rfl,by decide +kernel,rfl,by decide +kernel,by decide +kernel⟩
def zD:Rho->Option T:=
 f1 (aG (aD (aA 0) (aD (fC (.int 200)) aE)) fQ) aV
def vN:Rho->Option Out:=
 aJ (nX 1 (bA (fFL (aA 0)) [none] aO zD))
  (aT (fIf (fB (f2 (fC .non) (aA 1) xJ)) (fC .non) (wL 1)))
def nB:List T->Option T:=Fof 1 1 vN
theorem QY (t0:T):nB [t0]=(vN [some t0,none]).bind bJ:=rfl
theorem UQ (aGv:Cal P w K mg base "number_in" 1 ["word","figures"] fQ false 3) (m_PAGE_FIGURES:∃ tk,mg "PAGE_FIGURES" = some (.int 200 tk)) (cdv:Value) (A:Around) (outer:List Env) (s:Shared) (H:Hp) (E:XK)
  (hr:Room 1 (A.deeper (envOfC "numbers_in" (defScope qC) s.heap.objs.size f cdv))):
  GSs (bB CX0 P w K mg base ["words","numbers"] "numbers_in" (defScope qC) f cdv A outer s H E).nox H [1,0] true 3 (defBody qC) vN:=by
 have hu:=hr.units;unfold vN zD;exact @aP _ _ _ _ _ _ _ _ _ (@WU _ _ _ _ _ _ _ _ _ _ _ _ _ _ _ _ _ _ _ _ _ _ _ _ _ 1 (bZ (by kernel_rfl) (N':=[ "word" ]) (src:=[ none ])) (cH (by kernel_rfl) (fl':=[ 2 ])) (by rfl) (eV (aB 0)) (by rfl) (by rfl) (fun cl C s H ex=>⟨cI,@GE.sc _ _ _ _ _ _ _ (aZ aGv (hr.mono (by decide)) (by rfl) (aF (aB 0) (aF (@sJ _ _ _ _ _ (200) (by rfl) m_PAGE_FIGURES (by decide)) aH)))⟩) NF.nd (by rfl) (Or.inl (by rfl)) (by rfl) (by rfl) (by intro _;rfl) (by trivial)) (@aN _ _ _ _ _ _ _ (@aY _ _ _ _ _ _ _ _ (@WR _ _ _ _ _ _ _ _ _ _ _ _ (WW dW (aB 1)) (@aW _ _ _ _ _ _ _ _ _ dW (by rfl)) (@JI _ _ _ _ _ _ _ 1 (by rfl) (by trivial) (by rfl) (by decide) (by decide)))))
theorem aBa {fd:FuncData}(aGv:Cal P w K mg base "number_in" 1 ["word","figures"] fQ false 3) (m_PAGE_FIGURES:∃ tk,mg "PAGE_FIGURES" = some (.int 200 tk)) (Fu:Fun K "numbers_in" "numbers_in" qC f fd):
  FnOk P w K mg base CX0 2 f fd ["words"] (spT K nB true 3):=
 gfn Fu NF rfl (by decide) (fun ts t h=>bO h) (fun cdv A outer s H E hr=>@UQ _ _ _ _ _ _ aGv m_PAGE_FIGURES cdv A outer s H E hr) (fun ts t h=>bQ h)
abbrev qF:Stmt:=top 43
theorem NH:FnScope ["hands","words","steps"] ["hands","words"] (defScope qF):=⟨rfl,rfl,rfl,by decide +kernel,rfl,by decide +kernel,by decide +kernel⟩
def vR:Rho->Option Out:=
 aJ (aS 2 (aG (aD (aA 1) aE) nB))
  (aJ (rIf (pOr (fB (f2 (aA 2) (fC .non) oIs)) (fB (f2 (aG (aD (aA 2) aE) cD) (aA 0) oNe))) (aT (fC .non)) bE)
  (aT (aG (aD (aA 2) aE) gH)))
def nD:List T->Option T:=Fof 2 1 vR
theorem RD (t0 t1:T):nD [t0,t1]=(vR [some t0,some t1,none]).bind bJ:=rfl
theorem UT (aHa:Cal P w K mg base "numbers_in" 2 ["words"] nB true 3) (aGs:Cal P w K mg base "from_steps" 3 ["steps"] gH true 3) (aGl:mg "len" = none) (cdv:Value) (A:Around) (outer:List Env) (s:Shared) (H:Hp) (E:XK)
  (hr:Room 3 (A.deeper (envOfC "steps_more" (defScope qF) s.heap.objs.size f cdv))):
  GSs (bB CX0 P w K mg base ["hands","words","steps"] "steps_more" (defScope qF) f cdv A outer s H E).nox H [1,1,1] true 3 (defBody qF) vR:=by
 have hu:=hr.units;unfold vR;exact @aP _ _ _ _ _ _ _ _ _ (@bR _ _ _ _ _ _ _ _ _ _ _ _ 2 (aZ aHa (hr.mono (by decide)) (by rfl) (aF (aB 1) aH)) NH.nd (by rfl) (Or.inl (by rfl)) (by rfl) (by rfl) (by trivial)) (@aP _ _ _ _ _ _ _ _ _ (@bX _ _ _ _ _ _ _ _ _ _ _ _ (@GW.gt _ _ _ _ _ (@fK _ _ _ _ _ _ _ _ _ (@BJ _ _ _ _ _ _ _ _ _ _ _ _ (aB 2) dW) (@gN _ _ _ _ _ _ (@mG _ _ _ _ _ _ _ _ _ _ _ _ hu (cX (by rfl) (by rfl) aGl (aF (aB 2) aH)) (aB 0))))) (@aN _ _ _ _ _ _ _ (@aY _ _ _ _ _ _ _ _ (@aW _ _ _ _ _ _ _ _ _ dW (by rfl)))) bY) (@aN _ _ _ _ _ _ _ (WV (@aN _ _ _ _ _ _ _ (@aY _ _ _ _ _ _ _ _ (@aW _ _ _ _ _ _ _ _ _ (aZ aGs (hr.mono (by decide)) (by rfl) (aF (aB 2) aH)) (by rfl)))))))
theorem aBe {fd:FuncData}(aHa:Cal P w K mg base "numbers_in" 2 ["words"] nB true 3) (aGs:Cal P w K mg base "from_steps" 3 ["steps"] gH true 3) (aGl:mg "len" = none) (Fu:Fun K "steps_more" "steps_more" qF f fd):
  FnOk P w K mg base CX0 4 f fd ["hands","words"] (spT K nD true 3):=
 gfn Fu NH rfl (by decide) (fun ts t h=>bO h) (fun cdv A outer s H E hr=>@UT _ _ _ _ _ _ aHa aGs aGl cdv A outer s H E hr) (fun ts t h=>bQ h)
abbrev pU:Stmt:=top 39
theorem aE1:FnScope ["names","words"] ["names","words"] (defScope pU):=⟨rfl,rfl,rfl,by decide +kernel,rfl,by decide +kernel,by decide +kernel⟩
def yU:Rho->Option T:=
 f2 (aA 0) (aA 1) xL
def yV:Rho->Option T:=
 f2 (aA 1) (aA 0) CS
def vG:Rho->Option Out:=
 aJ (rIf (pOr (nQ (fT (aG (aD (bA (fFL (aA 1)) [none,some 0] aO yU) aE) jH))) (fB (f2 (aG (aD (aA 1) aE) tF) (aG (aD (aA 1) aE) cD) oLt))) (aT (fC .non)) bE)
  (aT (bA (fFL (aA 1)) [none,some 0] aO yV))
def mV:List T->Option T:=Fof 2 0 vG
theorem QG (t0 t1:T):mV [t0,t1]=(vG [some t0,some t1]).bind bJ:=rfl
theorem UG (aGx:mg "all" = none) (aGl:mg "len" = none) (aHq:mg "set" = none) (cdv:Value) (A:Around) (outer:List Env) (s:Shared) (H:Hp) (E:XK)
  (hr:Room 0 (A.deeper (envOfC "hands_named" (defScope pU) s.heap.objs.size f cdv))):
  GSs (bB CX0 P w K mg base ["names","words"] "hands_named" (defScope pU) f cdv A outer s H E).nox H [1,1] true 3 (defBody pU) vG:=by
 have hu:=hr.units;unfold vG yV yU;exact @aP _ _ _ _ _ _ _ _ _ (@bX _ _ _ _ _ _ _ _ _ _ _ _ (@GW.gt _ _ _ _ _ (@fK _ _ _ _ _ _ _ _ _ (@BK _ _ _ _ _ _ (@nM _ _ _ _ _ _ _ (wN (by rfl) (by rfl) (by rfl) aGx (aF (@cS _ _ _ _ _ _ _ _ _ _ _ _ _ _ _ _ _ _ _ _ (bZ (by kernel_rfl) (N':=[ "word" ,"names" ]) (src:=[ none ,some 0 ])) (cH (by kernel_rfl) (fl':=[ 2 ,1 ])) (by decide) (by rfl) (eV (aB 1)) (by rfl) (by rfl) (fun cl C s H ex=>⟨cI,VN (aB 0) (aB 1)⟩) (by intro _;rfl)) aH)) (by intro _;rfl))) (@gN _ _ _ _ _ _ (@kF _ _ _ _ _ _ _ _ _ _ _ _ (IZ (by rfl) (by rfl) (by rfl) aGl (by rfl) aHq (by rfl) (aF (aB 1) aH)) (cX (by rfl) (by rfl) aGl (aF (aB 1) aH)))))) (@aN _ _ _ _ _ _ _ (@aY _ _ _ _ _ _ _ _ (@aW _ _ _ _ _ _ _ _ _ dW (by rfl)))) bY) (@aN _ _ _ _ _ _ _ (@aY _ _ _ _ _ _ _ _ (@aW _ _ _ _ _ _ _ _ _ (@cS _ _ _ _ _ _ _ _ _ _ _ _ _ _ _ _ _ _ _ _ (bZ (by kernel_rfl) (N':=[ "word" ,"names" ]) (src:=[ none ,some 0 ])) (cH (by kernel_rfl) (fl':=[ 2 ,1 ])) (by decide) (by rfl) (eV (aB 1)) (by rfl) (by rfl) (fun cl C s H ex=>⟨cI,VO (aB 1) (aB 0)⟩) (by intro _;rfl)) (by rfl))))
theorem aB1 {fd:FuncData}(aGx:mg "all" = none) (aGl:mg "len" = none) (aHq:mg "set" = none) (Fu:Fun K "hands_named" "hands_named" pU f fd):
  FnOk P w K mg base CX0 1 f fd ["names","words"] (spT K mV true 3):=
 gfn Fu aE1 rfl (by decide) (fun ts t h=>bO h) (fun cdv A outer s H E hr=>@UG _ _ _ _ _ _ aGx aGl aHq cdv A outer s H E hr) (fun ts t h=>bQ h)
abbrev pS:Stmt:=top 12
theorem zN:FnScope ["hands","group","hand"] ["hands"] (defScope pS):=⟨rfl,rfl,rfl,by decide +kernel,rfl,by decide +kernel,by decide +kernel⟩
def vF:Rho->Option Out:=
 aS 1 (f2 (aA 1) (f2 (fC (.int 1)) (aA 2) dQ) oOr)
def vE:Rho->Option Out:=
 aJ (aS 1 (fC (.int 0)))
  (aJ (kO 2 (fFL (aA 0))
  vF)
  (aT (f1 (aA 1) aV)))
def kX:List T->Option T:=Fof 1 2 vE
theorem QF (t0:T):kX [t0]=(vE [some t0,none,none]).bind bJ:=rfl
theorem UE (cdv:Value) (A:Around) (outer:List Env) (s:Shared) (H:Hp) (E:XK)
  (hr:Room 0 (A.deeper (envOfC "group_of" (defScope pS) s.heap.objs.size f cdv))):
  GSs (bB CX0 P w K mg base ["hands","group","hand"] "group_of" (defScope pS) f cdv A outer s H E).nox H [1,1,1] false 3 (defBody pS) vE:=by
 have hu:=hr.units;unfold vE vF;exact @aP _ _ _ _ _ _ _ _ _ (@bR _ _ _ _ _ _ _ _ _ _ _ _ 1 ge_int zN.nd (by rfl) (Or.inl (by rfl)) (by rfl) (by rfl) (by trivial)) (@aP _ _ _ _ _ _ _ _ _ (@qS _ _ _ _ _ _ _ _ _ 2 _ _ _ _ _ PassesOwn.never (by rfl) (eV (aB 0)) zN.nd (by rfl) (Or.inl (by rfl)) (@aN _ _ _ _ _ _ _ (@bR _ _ _ _ _ _ _ _ _ _ _ _ 1 (@wT _ _ _ _ _ _ _ _ _ _ _ _ (aB 1) (@fI _ _ _ _ _ _ _ _ _ _ _ _ ge_int (aB 2))) zN.nd (by rfl) (Or.inl (by rfl)) (by rfl) (by rfl) (by trivial))) (by rfl) (by intro _;rfl) (by trivial)) (@aN _ _ _ _ _ _ _ (@aY _ _ _ _ _ _ _ _ (@aW _ _ _ _ _ _ _ _ _ (@GE.sc _ _ _ _ _ _ _ (aB 1)) (by rfl)))))
theorem aAz {fd:FuncData}(Fu:Fun K "group_of" "group_of" pS f fd):
  FnOk P w K mg base CX0 1 f fd ["hands"] (spT K kX false 3):=
 gfn Fu zN rfl (by decide) (fun ts t h=>bO h) (fun cdv A outer s H E hr=>@UE _ _ _ _ _ _  cdv A outer s H E hr) (fun ts t h=>bQ h)
abbrev qA:Stmt:=top 44
theorem aE6:FnScope ["hands","kind","number","named"] ["hands","kind","number","named"] (defScope qA):=⟨rfl,rfl,rfl,by decide +kernel,rfl,by decide +kernel,by decide +kernel⟩
def NB:Rho->Option T:=
 fIf (fB (f2 (aA 0) (aG (aD (aA 1) aE) kX) oEq)) (f1 (aA 2) aV) (fC (.int 0))
def zB:Rho->Option T:=
 fIf (fB (f2 (aA 0) (f2 (aA 1) (fC (.int 0)) oIx) oEq)) (f1 (aA 2) aV) (fC (.int 0))
def nY:Rho->Option Out:=
 aJ (rIf (fB (f2 (aA 1) (fC (.str "group")) oEq)) (aT (bA (dE (aD (f2 (fC (.int 1)) (aA 0) dQ) aE) dF) [none,some 3,some 2] aO NB)) bE)
  (aJ (rIf (gP (fB (f2 (aA 1) (fC (.str "each")) oEq)) (fB (f2 (aG (aD (aA 3) aE) cD) (fC (.int 1)) oEq))) (aT (aG (aD (bA (dE (aD (aA 0) aE) dF) [none,some 3,some 2] aO zB) aE) gI)) bE)
  (aJ (rIf (gP (fB (f2 (aA 1) (fC (.str "cover")) oEq)) (fB (f2 (aA 2) (fC (.int 0)) oGe))) (aT (aG (aD (aA 0) (aD (cG (aD (dI (aD (f1 (aA 2) aV) (aD (f1 (aG (aD (aA 3) aE) kX) aV) aE))) aE)) aE)) gF)) bE)
  (aJ (rIf (gP (fB (f2 (aA 1) (fC (.str "cut")) oEq)) (gP (fB (f2 (aA 2) (fC (.int 0)) oGe)) (fB (f2 (aG (aD (aA 3) aE) cD) (fC (.int 2)) oEq)))) (aT (aG (aD (aA 0) (aD (cG (aD (dI (aD (f1 (f2 (aA 3) (fC (.int 0)) oIx) aV) (aD (f1 (f2 (aA 3) (fC (.int 1)) oIx) aV) (aD (f1 (aA 2) aV) aE)))) aE)) aE)) gG)) bE)
  (aT (fC .non)))))
def hU:List T->Option T:=Fof 4 0 nY
theorem zV (t0 t1 t2 t3:T):hU [t0,t1,t2,t3]=(nY [some t0,some t1,some t2,some t3]).bind bJ:=rfl
theorem UN (aHd:Cal P w K mg base "group_of" 1 ["hands"] kX false 3) (aGw:Cal P w K mg base "row_table" 3 ["row"] gI true 3) (aGr:Cal P w K mg base "from_covers" 3 ["hands","covers"] gF true 3) (aGu:Cal P w K mg base "from_cuts" 3 ["hands","cuts"] gG true 3) (aGm:mg "range" = none) (aGl:mg "len" = none) (cdv:Value) (A:Around) (outer:List Env) (s:Shared) (H:Hp) (E:XK)
  (hr:Room 3 (A.deeper (envOfC "named_more" (defScope qA) s.heap.objs.size f cdv))):
  GSs (bB CX0 P w K mg base ["hands","kind","number","named"] "named_more" (defScope qA) f cdv A outer s H E).nox H [1,1,1,1] true 3 (defBody qA) nY:=by
 have hu:=hr.units;unfold nY zB NB;exact @aP _ _ _ _ _ _ _ _ _ (@bX _ _ _ _ _ _ _ _ _ _ _ _ (@dO _ _ _ _ _ _ _ _ _ _ _ _ hu (aB 1) bL) (@aN _ _ _ _ _ _ _ (@aY _ _ _ _ _ _ _ _ (@aW _ _ _ _ _ _ _ _ _ (@cS _ _ _ _ _ _ _ _ _ _ _ _ _ _ _ _ _ _ _ _ (bZ (by kernel_rfl) (N':=[ "group" ,"named" ,"number" ]) (src:=[ none ,some 3 ,some 2 ])) (cH (by kernel_rfl) (fl':=[ 2 ,1 ,1 ])) (by decide) (by rfl) (fJ (by rfl) (by rfl) aGm (aF (@fI _ _ _ _ _ _ _ _ _ _ _ _ ge_int (aB 0)) aH)) (by rfl) (by rfl) (fun cl C s H ex=>⟨cI,@BD _ _ _ _ _ _ _ _ _ _ _ _ (@dO _ _ _ _ _ _ _ _ _ _ _ _ hu (aB 0) (aZ aHd (hr.mono (by decide)) (by rfl) (aF (aB 1) aH))) (@GE.sc _ _ _ _ _ _ _ (aB 2)) ge_int⟩) (by intro _;rfl)) (by rfl)))) bY) (@aP _ _ _ _ _ _ _ _ _ (@bX _ _ _ _ _ _ _ _ _ _ _ _ (@GW.gt _ _ _ _ _ (@qT _ _ _ _ _ _ _ _ _ (@dO _ _ _ _ _ _ _ _ _ _ _ _ hu (aB 1) bL) (@sR _ _ _ _ _ _ (@dO _ _ _ _ _ _ _ _ _ _ _ _ hu (cX (by rfl) (by rfl) aGl (aF (aB 3) aH)) ge_int)))) (@aN _ _ _ _ _ _ _ (@aY _ _ _ _ _ _ _ _ (@aW _ _ _ _ _ _ _ _ _ (aZ aGw (hr.mono (by decide)) (by rfl) (aF (@cS _ _ _ _ _ _ _ _ _ _ _ _ _ _ _ _ _ _ _ _ (bZ (by kernel_rfl) (N':=[ "hand" ,"named" ,"number" ]) (src:=[ none ,some 3 ,some 2 ])) (cH (by kernel_rfl) (fl':=[ 2 ,1 ,1 ])) (by decide) (by rfl) (fJ (by rfl) (by rfl) aGm (aF (aB 0) aH)) (by rfl) (by rfl) (fun cl C s H ex=>⟨cI,@BD _ _ _ _ _ _ _ _ _ _ _ _ (@dO _ _ _ _ _ _ _ _ _ _ _ _ hu (aB 0) (@bW _ _ _ _ _ _ _ _ _ _ _ _ (aB 1) ge_int (by exact fun _ _=>rfl))) (@GE.sc _ _ _ _ _ _ _ (aB 2)) ge_int⟩) (by intro _;rfl)) aH)) (by rfl)))) bY) (@aP _ _ _ _ _ _ _ _ _ (@bX _ _ _ _ _ _ _ _ _ _ _ _ (@GW.gt _ _ _ _ _ (@qT _ _ _ _ _ _ _ _ _ (@dO _ _ _ _ _ _ _ _ _ _ _ _ hu (aB 1) bL) (@sR _ _ _ _ _ _ (@xA _ _ _ _ _ _ _ _ _ _ _ _ (aB 2) ge_int)))) (@aN _ _ _ _ _ _ _ (@aY _ _ _ _ _ _ _ _ (@aW _ _ _ _ _ _ _ _ _ (aZ aGr (hr.mono (by decide)) (by rfl) (aF (aB 0) (aF (@eI _ _ _ _ _ _ _ (aF (@sL _ _ _ _ _ _ _ _ (aF (@GE.sc _ _ _ _ _ _ _ (aB 2)) (aF (@GE.sc _ _ _ _ _ _ _ (aZ aHd (hr.mono (by decide)) (by rfl) (aF (aB 3) aH))) aH))) aH)) aH))) (by rfl)))) bY) (@aP _ _ _ _ _ _ _ _ _ (@bX _ _ _ _ _ _ _ _ _ _ _ _ (@GW.gt _ _ _ _ _ (@qT _ _ _ _ _ _ _ _ _ (@dO _ _ _ _ _ _ _ _ _ _ _ _ hu (aB 1) bL) (@qT _ _ _ _ _ _ _ _ _ (@xA _ _ _ _ _ _ _ _ _ _ _ _ (aB 2) ge_int) (@sR _ _ _ _ _ _ (@dO _ _ _ _ _ _ _ _ _ _ _ _ hu (cX (by rfl) (by rfl) aGl (aF (aB 3) aH)) ge_int))))) (@aN _ _ _ _ _ _ _ (@aY _ _ _ _ _ _ _ _ (@aW _ _ _ _ _ _ _ _ _ (aZ aGu (hr.mono (by decide)) (by rfl) (aF (aB 0) (aF (@eI _ _ _ _ _ _ _ (aF (@sL _ _ _ _ _ _ _ _ (aF (@GE.sc _ _ _ _ _ _ _ (@bW _ _ _ _ _ _ _ _ _ _ _ _ (aB 3) ge_int (by exact fun _ _=>rfl))) (aF (@GE.sc _ _ _ _ _ _ _ (@bW _ _ _ _ _ _ _ _ _ _ _ _ (aB 3) ge_int (by exact fun _ _=>rfl))) (aF (@GE.sc _ _ _ _ _ _ _ (aB 2)) aH)))) aH)) aH))) (by rfl)))) bY) (@aN _ _ _ _ _ _ _ (@aY _ _ _ _ _ _ _ _ (@aW _ _ _ _ _ _ _ _ _ dW (by rfl)))))))
theorem aB8 {fd:FuncData}(aHd:Cal P w K mg base "group_of" 1 ["hands"] kX false 3) (aGw:Cal P w K mg base "row_table" 3 ["row"] gI true 3) (aGr:Cal P w K mg base "from_covers" 3 ["hands","covers"] gF true 3) (aGu:Cal P w K mg base "from_cuts" 3 ["hands","cuts"] gG true 3) (aGm:mg "range" = none) (aGl:mg "len" = none) (Fu:Fun K "named_more" "named_more" qA f fd):
  FnOk P w K mg base CX0 4 f fd ["hands","kind","number","named"] (spT K hU true 3):=
 gfn Fu aE6 rfl (by decide) (fun ts t h=>bO h) (fun cdv A outer s H E hr=>@UN _ _ _ _ _ _ aHd aGw aGr aGu aGm aGl cdv A outer s H E hr) (fun ts t h=>bQ h)
abbrev pY:Stmt:=top 45
theorem EE:FnScope ["names","words","number","named"] ["names","words"] (defScope pY):=⟨rfl,rfl,rfl,by decide +kernel,rfl,by decide +kernel,by decide +kernel⟩
def rJ:Rho->Option Out:=
 aJ (rIf (fB (f2 (f2 (aA 1) (fC (.int 0)) oIx) (fC (.str "steps")) oEq)) (aT (aG (aD (aG (aD (aA 0) aE) cD) (aD (fG (aA 1) (eW (fC (.int 1))) cJ cJ) aE)) nD)) bE)
  (aJ (rIf (fB (f2 (aG (aD (aA 1) aE) cD) (fC (.int 3)) oLt)) (aT (fC .non)) bE)
  (aJ (aS 2 (f1 (aG (aD (f2 (aA 1) (fC (.int 1)) oIx) (aD (fC (.int 200)) aE)) fQ) aV))
  (aJ (aS 3 (aG (aD (aA 0) (aD (fG (aA 1) (eW (fC (.int 2))) cJ cJ) aE)) mV))
  (aJ (rIf (pOr (fB (f2 (aA 2) (fC .non) oIs)) (fB (f2 (aA 3) (fC .non) oIs))) (aT (fC .non)) bE)
  (aT (aG (aD (aG (aD (aA 0) aE) cD) (aD (f2 (aA 1) (fC (.int 0)) oIx) (aD (aA 2) (aD (aA 3) aE)))) hU))))))
def dM:List T->Option T:=Fof 2 2 rJ
theorem FF (t0 t1:T):dM [t0,t1]=(rJ [some t0,some t1,none,none]).bind bJ:=rfl
theorem UL (aHb:Cal P w K mg base "steps_more" 4 ["hands","words"] nD true 3) (aGv:Cal P w K mg base "number_in" 1 ["word","figures"] fQ false 3) (aH4:Cal P w K mg base "hands_named" 1 ["names","words"] mV true 3) (aH9:Cal P w K mg base "named_more" 4 ["hands","kind","number","named"] hU true 3) (aGl:mg "len" = none) (m_PAGE_FIGURES:∃ tk,mg "PAGE_FIGURES" = some (.int 200 tk)) (cdv:Value) (A:Around) (outer:List Env) (s:Shared) (H:Hp) (E:XK)
  (hr:Room 4 (A.deeper (envOfC "more_of" (defScope pY) s.heap.objs.size f cdv))):
  GSs (bB CX0 P w K mg base ["names","words","number","named"] "more_of" (defScope pY) f cdv A outer s H E).nox H [1,1,1,1] true 3 (defBody pY) rJ:=by
 have hu:=hr.units;unfold rJ;exact @aP _ _ _ _ _ _ _ _ _ (@bX _ _ _ _ _ _ _ _ _ _ _ _ (@dO _ _ _ _ _ _ _ _ _ _ _ _ hu (@bW _ _ _ _ _ _ _ _ _ _ _ _ (aB 1) ge_int (by exact fun _ _=>rfl)) bL) (@aN _ _ _ _ _ _ _ (@aY _ _ _ _ _ _ _ _ (@aW _ _ _ _ _ _ _ _ _ (aZ aHb (hr.mono (by decide)) (by rfl) (aF (cX (by rfl) (by rfl) aGl (aF (aB 0) aH)) (aF (@kB _ _ _ _ _ _ _ _ _ _ _ _ _ _ _ (aB 1) (@jC _ _ _ _ _ _ _ ge_int) dN dN (by intro _ _;first | exact⟨_,rfl⟩ | (refine⟨_,?_⟩;with_unfolding_all rfl))) aH))) (by rfl)))) bY) (@aP _ _ _ _ _ _ _ _ _ (@bX _ _ _ _ _ _ _ _ _ _ _ _ (@kF _ _ _ _ _ _ _ _ _ _ _ _ (cX (by rfl) (by rfl) aGl (aF (aB 1) aH)) ge_int) (@aN _ _ _ _ _ _ _ (@aY _ _ _ _ _ _ _ _ (@aW _ _ _ _ _ _ _ _ _ dW (by rfl)))) bY) (@aP _ _ _ _ _ _ _ _ _ (@bR _ _ _ _ _ _ _ _ _ _ _ _ 2 (@GE.sc _ _ _ _ _ _ _ (aZ aGv (hr.mono (by decide)) (by rfl) (aF (@bW _ _ _ _ _ _ _ _ _ _ _ _ (aB 1) ge_int (by exact fun _ _=>rfl)) (aF (@sJ _ _ _ _ _ (200) (by rfl) m_PAGE_FIGURES (by decide)) aH)))) EE.nd (by rfl) (Or.inl (by rfl)) (by rfl) (by rfl) (by trivial)) (@aP _ _ _ _ _ _ _ _ _ (@bR _ _ _ _ _ _ _ _ _ _ _ _ 3 (aZ aH4 (hr.mono (by decide)) (by rfl) (aF (aB 0) (aF (@kB _ _ _ _ _ _ _ _ _ _ _ _ _ _ _ (aB 1) (@jC _ _ _ _ _ _ _ ge_int) dN dN (by intro _ _;first | exact⟨_,rfl⟩ | (refine⟨_,?_⟩;with_unfolding_all rfl))) aH))) EE.nd (by rfl) (Or.inl (by rfl)) (by rfl) (by rfl) (by trivial)) (@aP _ _ _ _ _ _ _ _ _ (@bX _ _ _ _ _ _ _ _ _ _ _ _ (@GW.gt _ _ _ _ _ (@fK _ _ _ _ _ _ _ _ _ (@BJ _ _ _ _ _ _ _ _ _ _ _ _ (aB 2) dW) (@gN _ _ _ _ _ _ (@BJ _ _ _ _ _ _ _ _ _ _ _ _ (aB 3) dW)))) (@aN _ _ _ _ _ _ _ (@aY _ _ _ _ _ _ _ _ (@aW _ _ _ _ _ _ _ _ _ dW (by rfl)))) bY) (@aN _ _ _ _ _ _ _ (@aY _ _ _ _ _ _ _ _ (@aW _ _ _ _ _ _ _ _ _ (aZ aH9 (hr.mono (by decide)) (by rfl) (aF (cX (by rfl) (by rfl) aGl (aF (aB 0) aH)) (aF (@bW _ _ _ _ _ _ _ _ _ _ _ _ (aB 1) ge_int (by exact fun _ _=>rfl)) (aF (aB 2) (aF (aB 3) aH))))) (by rfl))))))))
theorem aB6 {fd:FuncData}(aHb:Cal P w K mg base "steps_more" 4 ["hands","words"] nD true 3) (aGv:Cal P w K mg base "number_in" 1 ["word","figures"] fQ false 3) (aH4:Cal P w K mg base "hands_named" 1 ["names","words"] mV true 3) (aH9:Cal P w K mg base "named_more" 4 ["hands","kind","number","named"] hU true 3) (aGl:mg "len" = none) (m_PAGE_FIGURES:∃ tk,mg "PAGE_FIGURES" = some (.int 200 tk)) (Fu:Fun K "more_of" "more_of" pY f fd):
  FnOk P w K mg base CX0 5 f fd ["names","words"] (spT K dM true 3):=
 gfn Fu EE rfl (by decide) (fun ts t h=>bO h) (fun cdv A outer s H E hr=>@UL _ _ _ _ _ _ aHb aGv aH4 aH9 aGl m_PAGE_FIGURES cdv A outer s H E hr) (fun ts t h=>bQ h)
abbrev rK:Stmt:=inClass (top 35) 0
theorem aDr:FnScope ["self","names","tables","asks"] ["self","names","tables","asks"] (defScope rK):=⟨rfl,rfl,rfl,by decide +kernel,rfl,by decide +kernel,by decide +kernel⟩
theorem aAf {f C:Addr}{fd:FuncData}(F:Fun K "__init__" "Page.__init__" rK f fd) (T:PgTxt K mg C):FnOk P w K mg base CX0 1 f fd ["self","names","tables","asks"] (EJ C):=by
 refine F.ok aDr (fun vs H Q E h=>?_) (fun cdv A outer s H vs Q E hr h=>?_)
 ·obtain⟨p,dx,n,t,a,rfl,_⟩:=h
  rfl
 ·obtain⟨p,dx,n,t,a,rfl,hp,k⟩:=h
  refine⟨_,cR (DK (pv 0) (pv 1) rfl) (cR (DK (pv 0) (pv 2) rfl) (eO (DK (pv 0) (pv 3) rfl))),?_⟩;refine⟨_,rfl,_,rfl,p,C,dx,[],rfl,hp,T.cl,T.nN,(by show 0<1000;decide),?_⟩;refine⟨_,rfl,_,rfl,p,C,dx,_,rfl,bN,T.cl,T.nT,aCz _,?_⟩;exact⟨_,rfl,_,rfl,p,C,dx,_,rfl,bN,T.cl,T.nA,aD0 _ _,k⟩
abbrev zI:Stmt:=top 47
theorem NJ:FnScope ["page","words","more","last"] ["page","words"] (defScope zI):=⟨rfl,rfl,rfl,by decide +kernel,rfl,by decide +kernel,by decide +kernel⟩
theorem aBg {f C:Addr}{fd:FuncData}{k k2:Nat}{Fm Fa:List T->Option T}(aIf:Cal P w K mg base "more_of" k ["names","words"] Fm true 3) (aHc:Cal P w K mg base "added" k2 ["one","other"] Fa true 3) (aGl:mg "len" = none) (F:Fun K "takes_more" "takes_more" zI f fd) (T:PgTxt K mg C):FnOk P w K mg base CX0 (max k k2+1) f fd ["page","words"] (NS K C Fm Fa):=by
 refine F.ok NJ (fun vs H Q E h=>?_) (fun cdv A outer s H vs Q E hr h=>?_)
 ·obtain⟨_,_,_,_,_,_,_,_,_,_,_,rfl,_⟩:=h
  rfl
 ·obtain⟨B,p,lt,ws,tabs,nm,t,wd,q,more,t',rfl,⟨dx,ln,la,vs,hp,hln,hlt,hla,rp,hBl,sB,n1,n2,hvl⟩,rq,em,ea,kq⟩:=h
  obtain⟨fm,fdm,FOm,hmm,hkm,hbm⟩:=aIf.ex;obtain⟨fa,fda,FOa,hma,hka,hba⟩:=aHc.ex;have nd:=NJ.nd;refine⟨_,cR (jO (i:=2) nd rfl (Or.inl rfl) (jL FOm (hr.mono (aKb _ _)) rfl hmm hkm hbm .nil fX (bI (gR (pv 0) rfl) (bI (pv 1) cB))))
   (cR (jM (PW.pt (tZ (yD (DE (pv 2))) (yE (nW tN (gQ wD (by rfl) aGl PySem.boot_len (bI (gR (pv 0) rfl) cB)) eN (eE _))))) (eO (jN tT)) kN)
   (cR (jO (i:=3) nd rfl (Or.inl rfl) (kL nO (gR (pv 0) rfl) (DH ER eN) (fun _ _=>rfl)))
   (cR (aCv (xY (bI (kL BV (pv 3) eN (fun _ _=>rfl)) (bI (jL FOa (hr.mono (Nat.le_max_right _ _)) rfl hma hka hba .nil fX (bI (kL BV (pv 3) eN (fun _ _=>rfl)) (bI (pv 2) cB))) cB))) (aCl (gR (pv 0) rfl) (DH ER eN) aEc))
   (eO (jN tT))))),?_⟩
  refine⟨_,rfl,p,C,dx,_,_,rfl,hp,T.cl,T.nN,DI _ _ _,_,rfl,?_⟩;refine⟨[.lst (tW ws),.lst (tW wd)],.lst more,⟨.ref ln,[q],rfl,⟨ln,_,rfl,.inl ⟨trivial,.inl hln⟩,uA _ _ _ _⟩,q,[],rfl,rq.weak fun _ _=>trivial,rfl⟩,em,fun v H1 s1 r1=>?_⟩;obtain⟨a,xs,rfl,ha0,ha1,rmore⟩:=r1;refine⟨_,rfl,_,rfl,?_⟩;rw[show decide (V.ref a=V.non)=false from by simp];refine cY ?_;refine⟨_,rfl,p,C,dx,_,_,rfl,s1 _ _ hp,T.cl,T.nT,nV _ _ _,lt,vs,rfl,.inl (SqL.of (s1 _ _ hlt)),?_⟩;obtain⟨v0,v1,rfl,r0,rl⟩:=ML rp;obtain⟨vl,z,rfl,rl,hz⟩:=rl;cases hz;obtain⟨pt,ys,rfl,hpt,rys⟩:=rl.sqT;obtain⟨y0,yr,rfl,e0,rys⟩:=rys;obtain⟨tv,yr2,rfl,rt,e2⟩:=rys;cases e2;cases (show y0=.str nm from e0);refine⟨rfl,_,rfl,?_⟩;rw[show decide (V.int (((v0++[V.ref pt]).length:Nat):Int)=V.int 0)=false from by simp;lia];refine cY ?_;have hlt1:=s1 _ _ hlt;have hp1:=s1 _ _ hp;refine⟨_,rfl,p,C,dx,_,_,rfl,hp1,T.cl,T.nT,nV _ _ _,_,rfl,lt,_,_,_,rfl,rfl,SqL.of hlt1,RT _ _,?_⟩;have sq1:SqT K H1 pt [V.str nm,tv]:=by
   rcases hpt with h | h
   ·exact .inl (eX (fun o q=>s1 _ _ q) h)
   ·exact .inr h
  refine⟨_,rfl,pt,_,_,_,rfl,rfl,sq1,rfl,_,rfl,pt,_,_,_,rfl,rfl,sq1,rfl,_,rfl,?_⟩;refine⟨[t,.lst more],.lst t',⟨tv,[.ref a],rfl,(rt.grow s1).weak fun _ _=>trivial,.ref a,[],rfl,⟨a,xs,rfl,.inl ⟨trivial,.inl ha1⟩,rmore.weak fun _ _=>trivial⟩,rfl⟩,ea,fun v H2 s2 r2=>?_⟩;obtain⟨b,us,rfl,hb0,hb1,rt'⟩:=r2;refine⟨(by show 2<=sizeLine;decide),fun pn hn=>?_⟩;have hp2:=s2 _ _ hp1;have hlt2:=s2 _ _ hlt1;have npp:p≠pn:=cQ hp2 hn;have nlp:lt≠pn:=cQ hlt2 hn;have npl:p≠lt:=KO hp hlt (by intro z;cases z);refine⟨_,rfl,p,C,dx,_,_,rfl,(by rw[aU npp];exact hp2),T.cl,T.nT,nV _ _ _,_,rfl,lt,_,_,_,rfl,rfl,(by rw[aU nlp];exact hlt2),YF _ _,?_⟩;have keep:∀ c o,c≠lt->H2 c=some o->(upd (upd H2 pn (.tup [V.str nm,V.ref b])) lt (.lst ((v0++[V.ref pt]).set v0.length (V.ref pn)))) c=some o:=fun c o hc e=>by
   rw[aU hc,aU (cQ e hn)];exact e
  have s02:aK H H2:=s1.trans s2;have kt:∀ c (u:Fix),Rd H2 c u.1->Rd (upd (upd H2 pn (.tup [V.str nm,V.ref b])) lt (.lst ((v0++[V.ref pt]).set v0.length (V.ref pn)))) c u.1:=fun c u e=>fY (a:=lt) (xs:=v0++[V.ref pt]) (by rw[aU nlp];exact hlt2) (eX (fun o q=>(cK hn _) _ _ q) e);have blt:b≠lt:=fun z=>by rw[z,hlt1] at hb0;cases hb0
  refine kq _ (fun c o hc e=>keep c o hc (s02 _ _ e)) ⟨dx,ln,la,v0++[V.ref pn],keep _ _ npl hp2,keep _ _ n1 (s02 _ _ hln),?_,keep _ _ n2 (s02 _ _ hla),?_,hBl,fun c o e=>keep c o (fun z=>by rw[z,hBl] at e;cases e) (s02 _ _ (sB _ _ e)),n1,n2,by simpa using hvl⟩
  ·rw[bN];simp
  ·refine RepL.app ((r0.grow s02).keep kt (fun c o hc e=>keep c o hc.2 e) (fun _ h _=>h) _) ⟨V.ref pn,[],rfl,⟨pn,[V.str nm,V.ref b],rfl,.inl (.inl (by rw[aU (Ne.symm nlp),bN])),V.str nm,[V.ref b],rfl,rfl,V.ref b,[],rfl,⟨b,us,rfl,.inl ⟨⟨(sB.trans s1).free hb0,blt⟩,.inl (keep _ _ blt hb1)⟩,rt'.keep kt (fun c o hc e=>keep c o (fun z=>by rw[z] at hc;have:=hc.1.2.2 (by decide);rw[hlt1] at this;cases this) e) (fun c hc _=>⟨(sB.trans s1).free (hc.1.2.2 (by decide)),fun z=>by rw[z] at hc;have:=hc.1.2.2 (by decide);rw[hlt1] at this;cases this⟩) _⟩,rfl⟩,rfl⟩
abbrev zH:Stmt:=top 40
theorem NI:FnScope ["page","name","known","table"] ["page","name"] (defScope zH):=⟨rfl,rfl,rfl,by decide +kernel,rfl,by decide +kernel,by decide +kernel⟩
theorem aBf {f C:Addr}{fd:FuncData}(F:Fun K "table_named" "table_named" zH f fd) (T:PgTxt K mg C):FnOk P w K mg base CX0 1 f fd ["page","name"] (NT K C):=by
 refine F.ok NI (fun vs H Q E h=>?_) (fun cdv A outer s H vs Q E hr h=>?_)
 ·obtain⟨_,_,_,_,_,_,rfl,_⟩:=h
  rfl
 ·obtain⟨B,p,lt,ws,tabs,nm,rfl,⟨dx,ln,la,vs,hp,hln,hlt,hla,rp,hBl,sB,n1,n2,hvl⟩,hno,kq⟩:=h
  have nd:=NI.nd;refine⟨_,cR (yB PassesOwn.never rfl (LQ (gR (pv 0) rfl)) (xZ rfl (tV (mN (i:=2) nd rfl (Or.inl rfl)) (tV (mN (i:=3) nd rfl (Or.inl rfl)) DJ))) (eO (jM (nW tN (pv 2) (pv 1) (eE _)) yC kN))) (eO (jN DG)),?_⟩;refine⟨_,rfl,p,C,dx,_,_,rfl,hp,T.cl,T.nT,nV _ _ _,lt,rfl,⟨_,SqL.of hlt⟩,?_⟩;refine VF (xs:=vs) (fun _ σ H'=>H'=H/\∃ a b,σ=[some (.ref p),some (.str nm),a,b]) ⟨rfl,none,none,rfl⟩ (fun i σ H' _ z=>by rw[z.1];exact SqL.of hlt) (fun i x σ H' hx z=>?_) (fun σ H' z=>?_)
  ·obtain⟨rfl,a,b,rfl⟩:=z
   obtain⟨t,ht,rt⟩:=MM rp hx;obtain⟨k,u,rfl,hk⟩:=hno t ht;obtain⟨pt,ys,rfl,hpt,rys⟩:=rt.sqT;obtain⟨y0,yr,rfl,e0,rys⟩:=rys;obtain⟨tv,yr2,rfl,rt,e2⟩:=rys;cases e2;cases (show y0=.str k from e0);refine⟨pt,_,rfl,hpt,rfl,_,_,rfl,_,_,rfl,rfl,?_⟩;refine⟨_,rfl,_,rfl,rfl,_,rfl,?_⟩;rw[show decide (V.str k=V.str nm)=false from decide_eq_false (by intro z;cases z;exact hk rfl)];refine cY ?_;exact⟨rfl,_,_,rfl⟩
  ·obtain⟨rfl,a,b,rfl⟩:=z
   exact kq
abbrev zK:Stmt:=top 46
theorem NL:FnScope ["page","words"] ["page","words"] (defScope zK):=⟨rfl,rfl,rfl,by decide +kernel,rfl,by decide +kernel,by decide +kernel⟩
theorem aBi {f C ft:Addr}{fd fdt:FuncData}{k k2:Nat}{n0:Bool}{Fn:List T->Option T}(aIg:Cal P w K mg base "is_name" k ["word"] Fn n0 3) (FOt:FnOk P w K mg base CX0 k2 ft fdt ["page","name"] (NT K C)) (hmt:mg "table_named" = some (.ref ft)) (hkt:PySem.W.keepIn K (.ref ft)=true) (hbt:eF K fdt ["page","name"] []) (aGl:mg "len" = none) (F:Fun K "takes_table" "takes_table" zK f fd) (T:PgTxt K mg C):FnOk P w K mg base CX0 (max k k2+1) f fd ["page","words"] (NV K C Fn):=by
 refine F.ok NL (fun vs H Q E h=>?_) (fun cdv A outer s H vs Q E hr h=>?_)
 ·obtain⟨_,_,_,_,_,_,_,rfl,_⟩:=h
  rfl
 ·obtain⟨B,p,lt,ws,tabs,nm,q,rfl,Pg,htl,hw6,rq,en,hno,kq⟩:=h
  obtain⟨dx,ln,la,vs,hp,hln,hlt,hla,rp,hBl,sB0,n1,n2,hvl⟩:=id Pg;obtain⟨fn,fdn,FOn,hmn,hkn,hbn⟩:=aIg.ex;have nd:=NL.nd;obtain⟨qa,qs,rfl,sq,rqs⟩:=rq.sqL;obtain⟨y0,yr,rfl,e0,e1⟩:=rqs;cases e1;cases (show y0=.str nm from e0);refine⟨_,cR (jM (PW.pt (tZ (nW aBy (gQ wD (by rfl) aGl PySem.boot_len (bI (pv 1) cB)) eN (eE _)) (tZ (DM (DN (jL FOn (hr.mono (aKb _ _)) rfl hmn hkn hbn .nil fX (bI (kL nO (pv 1) eN (fun _ _=>rfl)) cB)))) (yE (yD (LK (jL FOt (hr.mono (Nat.le_max_right _ _)) rfl hmt hkt hbt .nil fX (bI (pv 0) (bI (kL nO (pv 1) eN (fun _ _=>rfl)) cB))))))))) (eO (jN tT)) kN)
   (cR (yA (nS PySem.F.plainAttrs_list PySem.F.slot_list_append PySem.F.type_list_append CK (gR (pv 0) rfl) (bI (xY (bI (kL nO (pv 1) eN (fun _ _=>rfl)) (bI (tU LG (xX (bI eN cB)) (tU LH eN (gQ wD (by rfl) aGl PySem.boot_len (bI (gR (pv 0) rfl) cB)))) cB))) cB)))
   (eO (jN tT))),?_⟩
  refine⟨_,rfl,qa,_,rfl,.inl sq,rfl,_,rfl,?_⟩;refine cY ?_;refine⟨_,rfl,qa,_,_,_,rfl,rfl,sq,rfl,?_⟩;refine⟨[.str nm],.bl true,⟨.str nm,[],rfl,rfl,rfl⟩,en,fun v H1 s1 r1=>?_⟩;cases (aM.scal rfl).mp r1;refine⟨_,rfl,?_⟩;refine cY ?_;have sq1:=aEr s1 sq;refine⟨_,rfl,_,rfl,qa,_,_,_,rfl,rfl,sq1,rfl,?_⟩;refine⟨B,p,lt,ws,tabs,nm,rfl,Pg.grow s1,hno,?_⟩;refine⟨_,rfl,?_⟩;refine cY ?_;have hp1:=s1 _ _ hp;have hlt1:=s1 _ _ hlt;have hln1:=s1 _ _ hln;refine⟨_,rfl,p,C,dx,_,_,rfl,hp1,T.cl,T.nT,nV _ _ _,.inl ⟨rfl,_,SqL.of hlt1⟩,_,rfl,qa,_,_,_,rfl,rfl,sq1,rfl,?_⟩;refine⟨(by show 1<=sizeLine;decide),fun l0 hl0=>?_⟩;have sA:aK H1 (upd H1 l0 (.lst [V.int 0])):=cK hl0 _;refine⟨_,rfl,p,C,dx,_,_,rfl,sA _ _ hp1,T.cl,T.nN,DI _ _ _,ln,_,rfl,.inl (SqL.of (sA _ _ hln1)),?_⟩;have hwl:(ws.map V.str).length=ws.length:=aJq _;have p64:2^ws.length<=64:=aKf (Nat.pow_le_pow_right (by decide) hw6) (by decide);have es:(fun (i j:Int)=>V.int (i*2^j.toNat)) 1 (((ws.map V.str).length:Nat):Int)=V.int ((2^ws.length:Nat):Int):=by
   show V.int (1*2^(((ws.map V.str).length:Nat):Int).toNat)=_;rw[hwl,aJ7,Int.one_mul];simp
  refine⟨_,_,rfl,rfl,⟨by lia,by rw[hwl];lia,by decide⟩,?_⟩;rw[es];have b1 : -(2^63:Int)<=((2^ws.length:Nat):Int):=Int.le_trans (by decide) (Int.natCast_nonneg _);have b2:((2^ws.length:Nat):Int)<2^63:=Int.lt_of_le_of_lt (Int.ofNat_le.mpr p64) (by decide);refine⟨l0,_,_,rfl,rfl,bN,b1,b2,by rw[aJ7];exact aKf p64 (by decide),fun l1 hl1=>?_⟩;rw[aJ7];have sB:aK H1 (upd (upd H1 l0 (.lst [V.int 0])) l1 (.lst (List.replicate (2^ws.length) (V.int 0)))):=sA.trans (cK hl1 _);have hl1':(upd (upd H1 l0 (.lst [V.int 0])) l1 (.lst (List.replicate (2^ws.length) (V.int 0)))) l1=some (.lst (List.replicate (2^ws.length) (V.int 0))):=bN;have ll1:lt≠l1:=cQ (sA _ _ hlt1) hl1;generalize upd (upd H1 l0 (.lst [V.int 0])) l1 (.lst (List.replicate (2^ws.length) (V.int 0)))=H2 at sB hl1';refine⟨(by show 2<=sizeLine;decide),fun pn hn=>?_⟩;have hp2:=sB _ _ hp1;have hlt2:=sB _ _ hlt1;have npp:p≠pn:=cQ hp2 hn;have nlp:lt≠pn:=cQ hlt2 hn;have npl:p≠lt:=KO hp hlt (by intro z;cases z);refine⟨lt,vs,_,rfl,rfl,(by rw[aU nlp];exact hlt2),Nat.lt_of_le_of_lt hvl (by decide),?_⟩;have keep:∀ c o,c≠lt->H2 c=some o->(upd (upd H2 pn (.tup [V.str nm,V.ref l1])) lt (.lst (vs++[V.ref pn]))) c=some o:=fun c o hc e=>by
   rw[aU hc,aU (cQ e hn)];exact e
  have s02:aK H H2:=s1.trans sB;have kt:∀ c (u:Fix),Rd H2 c u.1->Rd (upd (upd H2 pn (.tup [V.str nm,V.ref l1])) lt (.lst (vs++[V.ref pn]))) c u.1:=fun c u e=>fY (a:=lt) (xs:=vs) (by rw[aU nlp];exact hlt2) (eX (fun o q=>(cK hn _) _ _ q) e);have hvt:vs.length=tabs.length:=(rp.length).symm;refine kq _ (fun c o hc e=>keep c o hc (s02 _ _ e)) ⟨dx,ln,la,vs++[V.ref pn],keep _ _ npl hp2,keep _ _ n1 (s02 _ _ hln),bN,keep _ _ n2 (s02 _ _ hla),?_,hBl,fun c o e=>keep c o (fun z=>by rw[z,hBl] at e;cases e) (s02 _ _ (sB0 _ _ e)),n1,n2,by rw[aJn,aJu];lia⟩;exact RepL.app ((rp.grow s02).keep kt (fun c o hc e=>keep c o hc.2 e) (fun _ h _=>h) _) ⟨V.ref pn,[],rfl,⟨pn,[V.str nm,V.ref l1],rfl,.inl (.inl (by rw[aU (Ne.symm nlp),bN])),V.str nm,[V.ref l1],rfl,rfl,V.ref l1,[],rfl,⟨l1,_,rfl,.inl ⟨⟨(sB0.trans (s1.trans sA)).free hl1,Ne.symm ll1⟩,.inl (keep _ _ (Ne.symm ll1) hl1')⟩,MS _ _ _ _⟩,rfl⟩,rfl⟩
abbrev zJ:Stmt:=top 49
theorem NK:FnScope ["page","row","words"] ["page","row"] (defScope zJ):=⟨rfl,rfl,rfl,by decide +kernel,rfl,by decide +kernel,by decide +kernel⟩
theorem aBh {f C ft fm:Addr}{fd fdt fdm:FuncData}{k k2:Nat}{Fm Fa Fn:List T->Option T}(FOt:FnOk P w K mg base CX0 k ft fdt ["page","words"] (NV K C Fn)) (hmt:mg "takes_table" = some (.ref ft)) (hkt:PySem.W.keepIn K (.ref ft)=true) (hbt:eF K fdt ["page","words"] [])
  (FOm:FnOk P w K mg base CX0 k2 fm fdm ["page","words"] (NS K C Fm Fa)) (hmm:mg "takes_more" = some (.ref fm)) (hkm:PySem.W.keepIn K (.ref fm)=true) (hbm:eF K fdm ["page","words"] []) (F:Fun K "takes_row" "takes_row" zJ f fd) (T:PgTxt K mg C):FnOk P w K mg base CX0 (max k k2+1) f fd ["page","row"] (NU K C Fm Fa Fn):=by
 refine F.ok NK (fun vs H Q E h=>?_) (fun cdv A outer s H vs Q E hr h=>?_)
 ·obtain⟨_,_,_,_,_,_,_,rfl,_⟩:=h
  rfl
 ·obtain⟨B,p,lt,ws,tabs,row,tabs',rfl,Pg,R,kq⟩:=h
  obtain⟨dx,ln,la,vs,hp,hln,hlt,hla,rp,hBl,sB0,n1,n2,hvl⟩:=id Pg;have nd:=NK.nd;refine⟨_,cR (jO (i:=2) nd rfl (Or.inl rfl) (nS PySem.F.plainAttrs_str PySem.F.slot_str_split PySem.F.type_str_split CL (pv 1) (bI nU cB)))
   (cR (jM (nW tN (kL nO (pv 2) eN (fun _ _=>rfl)) nU (eE _)) (eO (jN (jL FOt (hr.mono (aKb _ _)) rfl hmt hkt hbt .nil fX (bI (pv 0) (bI (aCg aEh (pv 2) (LW eN) LV) cB))))) kN)
   (cR (jM (nW tN (kL nO (pv 2) eN (fun _ _=>rfl)) nU (eE _)) yC kN)
   (eO (jN (jL FOm (hr.mono (Nat.le_max_right _ _)) rfl hmm hkm hbm .nil fX (bI (pv 0) (bI (pv 2) cB))))))),?_⟩
  have cases':(Txt.split row (Str.ofString " ")).length<=sizeLine/\row.length<=sizeLine:=by
   cases R with
   | tab e hl _ _ _ _=>rw[e];exact⟨by show 2<=sizeLine;decide,aKf hl (by decide)⟩
   | more e hl hwl _ _ _ _ _=>rw[e];exact⟨by rw[aJo];exact aKf (Nat.succ_le_succ hwl) (by decide),aKf hl (by decide)⟩
  refine⟨_,rfl,rfl,row,Str.ofString " ",rfl,rfl,by decide +kernel,cases'.2,cases'.1,fun q hq=>?_⟩;have sA:aK H (upd H q (.lst ((Txt.split row (Str.ofString " ")).map V.str))):=cK hq _;have hqq:(upd H q (.lst ((Txt.split row (Str.ofString " ")).map V.str))) q=some (.lst ((Txt.split row (Str.ofString " ")).map V.str)):=bN;have nql:q≠lt:=fun z=>by rw[z,hlt] at hq;cases hq
  generalize upd H q (.lst ((Txt.split row (Str.ofString " ")).map V.str))=H1 at sA hqq;cases R with
  | tab e hl h1 h6 hn hno=>
   rename_i nm;rw[e] at hqq;refine⟨_,rfl,q,_,_,_,rfl,rfl,SqL.of hqq,rfl,rfl,_,rfl,?_⟩;refine fS ?_;refine⟨_,rfl,_,rfl,_,rfl,q,_,rfl,SqL.of hqq,fun q2 hq2=>?_⟩;have ec:rZ ([Str.ofString "table",nm].map V.str) (some 1) none=[V.str nm]:=rfl;rw[ec];have sB:aK H1 (upd H1 q2 (.lst [V.str nm])):=cK hq2 _;have hq22:(upd H1 q2 (.lst [V.str nm])) q2=some (.lst [V.str nm]):=bN;have n2l:q2≠lt:=fun z=>by rw[z,sA _ _ hlt] at hq2;cases hq2
   generalize upd H1 q2 (.lst [V.str nm])=H2 at sB hq22;exact⟨B,p,lt,ws,tabs,nm,.ref q2,rfl,Pg.grow (sA.trans sB),h1,h6,⟨q2,_,rfl,.inl ⟨n2l,.inl hq22⟩,uA _ _ _ [nm]⟩,hn,hno,fun H' k2 P2=>kq H' (fun b o hb e=>k2 b o hb (sB _ _ (sA _ _ e))) P2⟩
  | more e hl hwl n1 n2 et em ea=>
   rename_i w0 wd tb nm t more t';rw[e] at hqq;have a0:atI (List.map V.str (w0::wd)) 0=some (V.str w0):=L2.atI_nat (xs:=List.map V.str (w0::wd)) (j:=0) rfl;refine⟨_,rfl,q,_,_,V.str w0,rfl,rfl,SqL.of hqq,a0,rfl,_,rfl,?_⟩;rw[show decide (V.str w0=V.str (Str.ofString "table"))=false from decide_eq_false (by intro z;cases z;exact n1 rfl)];refine cY ?_;refine⟨_,rfl,q,_,_,V.str w0,rfl,rfl,SqL.of hqq,a0,rfl,_,rfl,?_⟩;rw[show decide (V.str w0=V.str (Str.ofString "ask"))=false from decide_eq_false (by intro z;cases z;exact n2 rfl)];refine cY ?_;refine⟨_,rfl,_,rfl,?_⟩;subst et;refine⟨B,p,lt,ws,tb,nm,t,w0::wd,.ref q,more,t',rfl,Pg.grow sA,⟨q,_,rfl,.inl ⟨nql,.inl hqq⟩,uA _ _ _ (w0::wd)⟩,em,ea,fun H' k2 P2=>kq H' (fun b o hb e=>k2 b o hb (sA _ _ e)) P2⟩
abbrev fZ:Stmt:=top 50
theorem zL:FnScope ["row","words","names"] ["row"] (defScope fZ):=⟨rfl,rfl,rfl,by decide +kernel,rfl,by decide +kernel,by decide +kernel⟩
theorem aAn {f C fi:Addr}{fd fdi:FuncData}{k:Nat}{Fn:List T->Option T}(aHp:Cal P w K mg base "is_name" k ["word"] Fn false 3) (aGl:mg "len" = none) (m_MOST_HANDS:∃ tk,mg "MOST_HANDS" = some (.int 6 tk)) (aGx:mg "all" = none) (aHq:mg "set" = none)
  (M:Mk K C fi) (FOi:FnOk P w K mg base CX0 1 fi fdi ["self","names","tables","asks"] (EJ C)) (hbi:eF K fdi ["self","names","tables","asks"] []) (F:Fun K "begun_page" "begun_page" fZ f fd) (T:PgTxt K mg C):FnOk P w K mg base CX0 (max k 2+1) f fd ["row"] (NR K C Fn):=by
 refine F.ok zL (fun vs H Q E h=>?_) (fun cdv A outer s H vs Q E hr h=>?_)
 ·obtain⟨_,_,_,rfl,_⟩:=h
  rfl
 ·obtain⟨row,ws,wd,rfl,e1,e2,e3,e4,kq⟩:=h
  have hu:=hr.units;have nd:=zL.nd;have d1:GS (bB CX0 P w K mg base ["row","words","names"] "begun_page" (defScope fZ) f cdv A outer s H E).nox H [1,1,0] true 3 ((defBody fZ).getD 0 (.Pass ⟨0,0,0,0⟩)) bg1:=by
   unfold bg1;exact @bR _ _ _ _ _ _ _ _ _ _ _ _ 1 (VZ (aB 0) bL) zL.nd (by rfl) (Or.inl (by rfl)) (by rfl) (by rfl) (by first | exact .inl rfl | exact .inr rfl | trivial)
  have d2:GS (bB CX0 P w K mg base ["row","words","names"] "begun_page" (defScope fZ) f cdv A outer s H E).nox H [1,1,0] true 3 ((defBody fZ).getD 1 (.Pass ⟨0,0,0,0⟩)) bg2:=by
   unfold bg2;exact @BI _ _ _ _ _ _ _ _ _ _ _ 2 (@GE.flt _ _ _ _ _ _ (@kB _ _ _ _ _ _ _ _ _ _ _ _ _ _ _ (aB 1) (@jC _ _ _ _ _ _ _ ge_int) dN dN (by intro _ _;first | exact⟨_,rfl⟩ | (refine⟨_,?_⟩;with_unfolding_all rfl)))) zL.nd (by rfl) (Or.inl (by rfl)) (by rfl) (by rfl) (by first | exact .inl rfl | exact .inr rfl | trivial)
  have d3:GS (bB CX0 P w K mg base ["row","words","names"] "begun_page" (defScope fZ) f cdv A outer s H E).nox H [1,1,0] true 3 ((defBody fZ).getD 2 (.Pass ⟨0,0,0,0⟩)) bg3:=by
   unfold bg3;exact @bX _ _ _ _ _ _ _ _ _ _ _ _ (@GW.gt _ _ _ _ _ (@fK _ _ _ _ _ _ _ _ _ (@mG _ _ _ _ _ _ _ _ _ _ _ _ hu (@bW _ _ _ _ _ _ _ _ _ _ _ _ (aB 1) ge_int (by exact fun _ _=>rfl)) bL) (@fK _ _ _ _ _ _ _ _ _ (@kF _ _ _ _ _ _ _ _ _ _ _ _ (cX (by rfl) (by rfl) aGl (aF (aB 2) aH)) ge_int) (@gN _ _ _ _ _ _ (@sQ _ _ _ _ _ _ _ _ _ _ _ _ (cX (by rfl) (by rfl) aGl (aF (aB 2) aH)) (@sJ _ _ _ _ _ (6) (by rfl) m_MOST_HANDS (by decide))))))) (@aN _ _ _ _ _ _ _ (@aY _ _ _ _ _ _ _ _ (@aW _ _ _ _ _ _ _ _ _ dW (by rfl)))) bY
  have d4:GS (bB CX0 P w K mg base ["row","words","names"] "begun_page" (defScope fZ) f cdv A outer s H E).nox H [1,1,0] true 3 ((defBody fZ).getD 3 (.Pass ⟨0,0,0,0⟩)) (bg4 Fn):=by
   unfold bg4 bgE;exact @bX _ _ _ _ _ _ _ _ _ _ _ _ (@GW.gt _ _ _ _ _ (@fK _ _ _ _ _ _ _ _ _ (@BK _ _ _ _ _ _ (@nM _ _ _ _ _ _ _ (wN (by rfl) (by rfl) (by rfl) aGx (aF (@cS _ _ _ _ _ _ _ _ _ _ _ _ _ _ _ _ _ _ _ _ (bZ (by kernel_rfl) (N':=[ "name" ]) (src:=[ none ])) (cH (by kernel_rfl) (fl':=[ 2 ])) (by decide) (by rfl) (eV (aB 2)) (by rfl) (by rfl) (fun cl C s H ex=>⟨cI,@GE.sc _ _ _ _ _ _ _ (aZ aHp (hr.mono (aKb _ _)) (by rfl) (aF (aB 0) aH))⟩) (by intro _;rfl)) aH)) (by intro _;rfl))) (@gN _ _ _ _ _ _ (@kF _ _ _ _ _ _ _ _ _ _ _ _ (IZ (by rfl) (by rfl) (by rfl) aGl (by rfl) aHq (by rfl) (aF (aB 2) aH)) (cX (by rfl) (by rfl) aGl (aF (aB 2) aH)))))) (@aN _ _ _ _ _ _ _ (@aY _ _ _ _ _ _ _ _ (@aW _ _ _ _ _ _ _ _ _ dW (by rfl)))) bY
  refine⟨_,cR d1 (cR d2 (cR d3 (cR d4 (eO (jN (LO M FOi (hr.mono (Nat.le_max_right _ _)) rfl T.mgC hbi .nil fX (bI (pv 2) (bI (xX cB) (bI (xX cB) cB))))))))),?_⟩;have S0:=NP (K:=K) (H:=H) (fl:=[1,1,0]) (N:=["row","words","names"]) (ps:=["row"]) (ts:=[.str row]) (vs:=[.str row]) rfl (by decide) rfl ⟨.str row,[],rfl,rfl,rfl⟩ (by decide);refine⟨[],_,[],_,S0,e1,fun σ1 M1 H1 S1=>?_⟩;refine⟨[],_,M1,_,S1,e2,fun σ2 M2 H2 S2=>?_⟩;refine⟨[],_,M2,_,S2,e3,fun σ3 M3 H3 S3=>?_⟩;refine⟨[],_,M3,_,S3,e4,fun σ4 M4 H4 S4=>?_⟩;obtain⟨ln,ts,xs,e5,e6,hln,rx,hM⟩:=S4.muL 2 (tW ws) rfl rfl;cases e5;cases rB rx;have s4:aK H H4:=S4.same;refine⟨_,e6,(by show 0<=sizeLine;exact aKo _),fun lt hlt=>?_⟩;have sA:aK H4 (upd H4 lt (.lst [])):=cK hlt _;refine⟨(by show 0<=sizeLine;exact aKo _),fun la hla=>?_⟩;have sB:aK (upd H4 lt (.lst [])) (upd (upd H4 lt (.lst [])) la (.lst [])):=cK hla _;intro p dx hp hdx ndx;refine⟨p,dx,.ref ln,.ref lt,.ref la,rfl,bN,rfl,?_⟩;have hlt2:(upd (upd H4 lt (.lst [])) la (.lst [])) lt=some (.lst []):=sB _ _ bN;have hln2:=sB _ _ (sA _ _ hln);have nll:ln≠lt:=cQ hln hlt;have nal:la≠lt:=fun z=>by rw[z,bN] at hla;cases hla
  have hla2:(upd (upd H4 lt (.lst [])) la (.lst [])) la=some (.lst []):=bN;have frees:∀ x,(upd (upd H4 lt (.lst [])) la (.lst [])) x=none->H x=none:=fun x hx=>by
   cases e:H x with
   | none=>rfl
   | some o=>rw[sB _ _ (sA _ _ (s4 _ _ e))] at hx;cases hx
  have hlt0:H lt=none:=by
   cases e:H lt with
   | none=>rfl
   | some o=>rw[s4 _ _ e] at hlt;cases hlt
  have fin:∀ c o,(upd (upd H4 lt (.lst [])) la (.lst [])) c=some o->(upd (upd (upd (upd (upd (upd (upd H4 lt (.lst [])) la (.lst [])) dx (.own p)) p (.ins C dx [])) p (.ins C dx (bU "names" (.ref ln) []))) p (.ins C dx (bU "tables" (.ref lt) (bU "names" (.ref ln) [])))) p (.ins C dx (pgF (.ref ln) (.ref lt) (.ref la)))) c=some o:=fun c o e=>by
   have n1:c≠p:=cQ e hp;have n2:c≠dx:=cQ e hdx;rw[aU n1,aU n1,aU n1,aU n1,aU n2];exact e
  refine kq p lt _ (fun c o e=>fin c o (sB _ _ (sA _ _ (s4 _ _ e)))) (frees p hp) hlt0 ⟨dx,ln,la,[],bN,fin _ _ hln2,fin _ _ hlt2,fin _ _ hla2,rfl,hlt0,fun c o e=>fin c o (sB _ _ (sA _ _ (s4 _ _ e))),nll,nal,aKo _⟩
abbrev zG:Stmt:=top 51
theorem NG:FnScope ["text","rows","page","number","row","taken"] ["text"] (defScope zG):=⟨rfl,rfl,rfl,by decide +kernel,rfl,by decide +kernel,by decide +kernel⟩
theorem aBb {f C fb fr fi:Addr}{fd fdb fdr fdi:FuncData}{k k2:Nat}{Fm Fa Fn:List T->Option T}(FOb:FnOk P w K mg base CX0 k fb fdb ["row"] (NR K C Fn)) (hmb:mg "begun_page" = some (.ref fb)) (hkb:PySem.W.keepIn K (.ref fb)=true) (hbb:eF K fdb ["row"] [])
  (FOr:FnOk P w K mg base CX0 k2 fr fdr ["page","row"] (NU K C Fm Fa Fn)) (hmr:mg "takes_row" = some (.ref fr)) (hkr:PySem.W.keepIn K (.ref fr)=true) (hbr:eF K fdr ["page","row"] []) (aIh:mg "enumerate" = none)
  (M:Mk K C fi) (FOi:FnOk P w K mg base CX0 1 fi fdi ["self","names","tables","asks"] (EJ C)) (hbi:eF K fdi ["self","names","tables","asks"] []) (F:Fun K "read_page" "read_page" zG f fd) (T:PgTxt K mg C):FnOk P w K mg base CX0 (max (max k k2) 2+1) f fd ["text"] (EK K C Fm Fa Fn):=by
 refine F.ok NG (fun vs H Q E h=>?_) (fun cdv A outer s H vs Q E hr h=>?_)
 ·obtain⟨_,_,_,rfl,_⟩:=h
  rfl
 ·obtain⟨text,ws,tabs,rfl,hl1,hl2,R,kq⟩:=h
  have nd:=NG.nd;refine⟨_,cR (jO (i:=1) nd rfl (Or.inl rfl) (nS PySem.F.plainAttrs_str PySem.F.slot_str_split PySem.F.type_str_split CL (pv 0) (bI nU cB)))
   (cR (jO (i:=2) nd rfl (Or.inr rfl) DG)
   (cR (yB PassesOwn.never rfl (aCn rfl aIh (bI (pv 1) cB) (aCs eN aCt)) (xZ rfl (tV (mN (i:=3) nd rfl (Or.inl rfl)) (tV (mN (i:=4) nd rfl (Or.inl rfl)) DJ)))
    (cR (jM (PW.pt (tZ (nW tN (pv 4) nU (eE _)) (yE (DN (aCh (pv 4) nU))))) (eO aCw) kN)
    (cR (jM (yD (DE (pv 2))) (cR (jO (i:=2) nd rfl (Or.inr rfl) (jL FOb (hr.mono (aKf (aKb _ _) (aKb _ _))) rfl hmb hkb hbb .nil fX (bI (pv 4) cB))) (eO (jO (i:=5) nd rfl (Or.inl rfl) (aCc (LK (pv 2))))))
     (eO (jO (i:=5) nd rfl (Or.inl rfl) (jL FOr (hr.mono (aKf (Nat.le_max_right _ _) (aKb _ _))) rfl hmr hkr hbr .nil fX (bI (pv 2) (bI (pv 4) cB))))))
    (eO (jM (DM (DN (pv 5))) yC kN)))))
   (cR (jM (yD (DE (pv 2))) yC kN)
   (eO (jN (LO M FOi (hr.mono (Nat.le_max_right _ _)) rfl T.mgC hbi .nil fX (bI (gR (pv 2) rfl) (bI (gR (pv 2) rfl) (bI (DF (bZ (by kernel_rfl) (N':=["row","ask"]) (src:=[none,none])) rfl (LQ (gR (pv 2) rfl)) (fun cl C s H ex=>⟨aCj,LT,peF⟩)) cB))))))))),?_⟩
  have hnl:(Str.ofString "\n").length≠0:=by decide +kernel
  refine⟨_,rfl,rfl,text,Str.ofString "\n",rfl,rfl,by decide +kernel,hl1,hl2,fun q hq=>?_⟩;have sA:aK H (upd H q (.lst ((Txt.split text (Str.ofString "\n")).map V.str))):=cK hq _;have hqq:(upd H q (.lst ((Txt.split text (Str.ofString "\n")).map V.str))) q = some (.lst ((Txt.split text (Str.ofString "\n")).map V.str)):=bN;generalize upd H q (.lst ((Txt.split text (Str.ofString "\n")).map V.str))=H1 at sA hqq;generalize Txt.split text (Str.ofString "\n")=rows at R hqq;refine⟨_,rfl,q,_,rfl,rfl,SqL.of hqq,?_⟩;refine VE (xs:=rows.map V.str) (fun i σ H'=>∃ st v3 v4 v5 pg,σ=[some (.str text),some (.ref q),some pg,v3,v4,v5]/\H' q=some (.lst (rows.map V.str))/\aK H H'/\wB K C H H' q st pg/\Rds Fm Fa Fn (rows.drop i) st (some (ws,tabs)))
   ⟨none,none,none,none,.non,rfl,hqq,sA,rfl,R⟩ (fun i σ H' _ z=>by obtain⟨_,_,_,_,_,_,z,_⟩:=z;exact SqL.of z) (fun i x σ H' Tp hx z hT=>?_) (fun σ H' z=>?_)
  ·obtain⟨st,v3,v4,v5,pg,rfl,hq',s0,sp,Rr⟩:=z
   rw[aJk] at hx;cases er:rows[i]? with
   | none=>rw[er] at hx;cases hx
   | some r=>
   rw[er] at hx;cases (aIi hx);have ed:rows.drop i=r::rows.drop (i+1):=by
    obtain⟨h1,h2⟩:=aIn.mp er;rw[aJ9 h1,h2]
   rw[ed] at Rr;have sT:aK H' (upd H' Tp (.tup [.int ((i+1:Nat):Int),.str r])):=cK hT _;have hTT:(upd H' Tp (.tup [.int ((i+1:Nat):Int),.str r])) Tp=some (.tup [.int ((i+1:Nat):Int),.str r]):=bN;refine⟨Tp,_,rfl,SqT.of hTT,rfl,_,_,rfl,_,_,rfl,rfl,?_⟩;generalize upd H' Tp (.tup [.int ((i+1:Nat):Int),.str r])=H2 at sT hTT;have hq2:=sT _ _ hq';have s2:=s0.trans sT;have sp2:=sp.grow sT;refine⟨_,rfl,rfl,_,rfl,?_⟩;have ev:decide (V.str r=V.str (Str.ofString ""))=decide (r=Str.ofString ""):=by simp
   rw[ev];have skp:gX r=true->Rds Fm Fa Fn (rows.drop (i+1)) st (some (ws,tabs)):=fun h=>by
    cases Rr with
    | skip _ k=>exact k
    | beg h' _ _=>rw[h] at h';cases h'
    | row h' _ _=>rw[h] at h';cases h'
   rcases Bool.eq_false_or_eq_true (decide (r=Str.ofString "")) with z0 | z0
   ·rw[z0]
    refine fS ?_;exact⟨st,_,_,v5,pg,rfl,hq2,s2,sp2,skp (by unfold gX;rw[z0];rfl)⟩
   rw[z0];refine cY ?_;refine⟨_,rfl,r,rfl,_,rfl,_,rfl,?_⟩;rcases Bool.eq_false_or_eq_true (Txt.startswith r (Str.ofString "#")) with z1 | z1
   ·rw[z1]
    refine fS ?_;exact⟨st,_,_,v5,pg,rfl,hq2,s2,sp2,skp (by unfold gX;rw[z0,z1];rfl)⟩
   rw[z1];refine cY ?_;have nsk:gX r=false:=by unfold gX;rw[z0,z1];rfl
   refine⟨_,rfl,_,rfl,?_⟩;cases Rr with
   | skip h' _=>rw[nsk] at h';cases h'
   | beg hb b k=>
    rename_i ws';cases (show pg=.non from sp2);obtain⟨wd,e1,e2,e3,e4⟩:=b;refine fS ?_;refine⟨_,rfl,r,ws',wd,rfl,e1,e2,e3,e4,fun p lt H3 s3 hp hlt Pg=>?_⟩;refine⟨_,rfl,_,rfl,_,rfl,?_⟩;refine cY ?_;have nql:q≠lt:=cQ hq2 hlt;exact⟨some (ws',[]),_,_,_,.ref p,rfl,s3 _ _ hq2,s2.trans s3,⟨p,lt,rfl,Pg.since s2,nql⟩,k⟩
   | row hb b k=>
    rename_i ws' tb tb';obtain⟨p,lt,rfl,Pg,nql⟩:=sp2;refine cY ?_;refine⟨_,rfl,_,rfl,H,p,lt,ws',tb,r,tb',rfl,Pg,b,fun H3 k3 Pg3=>?_⟩;refine⟨_,rfl,_,rfl,?_⟩;refine cY ?_;exact⟨some (ws',tb'),_,_,_,.ref p,rfl,k3 _ _ nql hq2,Pg3.ex.choose_spec.choose_spec.choose_spec.choose_spec.2.2.2.2.2.2.1,⟨p,lt,rfl,Pg3,nql⟩,k⟩
  ·obtain⟨st,v3,v4,v5,pg,rfl,hq',s0,sp,Rr⟩:=z
   rw[show rows.drop (rows.map V.str).length=[] by rw[aJq,List.drop_length]] at Rr;cases Rr;obtain⟨p,lt,rfl,Pg,nql⟩:=sp;obtain⟨dx,ln,la,vs,hp,hln,hlt,hla,rp,hBl,sB,n1,n2,hvl⟩:=id Pg;refine⟨_,rfl,_,rfl,?_⟩;refine cY ?_;refine⟨_,rfl,p,C,dx,_,_,rfl,hp,T.cl,T.nN,DI _ _ _,_,rfl,p,C,dx,_,_,rfl,hp,T.cl,T.nT,nV _ _ _,_,rfl,p,C,dx,_,_,rfl,hp,T.cl,T.nA,aCk _ _ _,la,rfl,⟨_,SqL.of hla⟩,fun D hD=>?_⟩;have sD:aK H' (upd H' D (.lst [])):=cK hD _;have hDD:(upd H' D (.lst [])) D=some (.lst []):=bN;have nDl:D≠lt:=fun z=>by rw[z,hlt] at hD;cases hD
   generalize upd H' D (.lst [])=H2 at sD hDD;refine⟨fun i m σ H''=>i=0/\H''=H2,⟨0,rfl,rfl⟩,?_⟩;rintro i m σ1 H3 ⟨rfl,rfl⟩;refine .inl ⟨⟨[],SqL.of (sD _ _ hla),aKo _⟩,?_⟩;intro x dx2 nx ndx nex;refine⟨x,dx2,.ref ln,.ref lt,.ref D,rfl,bN,rfl,?_⟩;have fin:∀ c o,H3 c=some o->(upd (upd (upd (upd (upd H3 dx2 (.own x)) x (.ins C dx2 [])) x (.ins C dx2 (bU "names" (.ref ln) []))) x (.ins C dx2 (bU "tables" (.ref lt) (bU "names" (.ref ln) [])))) x (.ins C dx2 (pgF (.ref ln) (.ref lt) (.ref D)))) c=some o:=fun c o e=>by
    have n1:c≠x:=cQ e nx;have n2:c≠dx2:=cQ e ndx;rw[aU n1,aU n1,aU n1,aU n1,aU n2];exact e
   have sF:aK H' (upd (upd (upd (upd (upd H3 dx2 (.own x)) x (.ins C dx2 [])) x (.ins C dx2 (bU "names" (.ref ln) []))) x (.ins C dx2 (bU "tables" (.ref lt) (bU "names" (.ref ln) [])))) x (.ins C dx2 (pgF (.ref ln) (.ref lt) (.ref D)))):=fun c o e=>fin c o (sD _ _ e);exact kq x lt _ ⟨dx2,ln,D,vs,bN,sF _ _ hln,sF _ _ hlt,fin _ _ hDD,rp.grow sF,hBl,sB.trans sF,n1,nDl,hvl⟩
abbrev pN:Stmt:=top 15
theorem aDw:FnScope ["table"] ["table"] (defScope pN):=⟨rfl,rfl,rfl,by decide +kernel,rfl,by decide +kernel,by decide +kernel⟩
def uV:Rho->Option Out:=
 aT (f2 (aG (aD (aA 0) aE) cD) (fC (.int 1)) kK)
def mU:List T->Option T:=Fof 1 0 uV
theorem PX (t0:T):mU [t0]=(uV [some t0]).bind bJ:=rfl
theorem TZ (aGl:mg "len" = none) (cdv:Value) (A:Around) (outer:List Env) (s:Shared) (H:Hp) (E:XK)
  (hr:Room 0 (A.deeper (envOfC "everybody" (defScope pN) s.heap.objs.size f cdv))):
  GSs (bB CX0 P w K mg base ["table"] "everybody" (defScope pN) f cdv A outer s H E).nox H [1] false 3 (defBody pN) uV:=by
 have hu:=hr.units;unfold uV;exact @aN _ _ _ _ _ _ _ (@aY _ _ _ _ _ _ _ _ (@aW _ _ _ _ _ _ _ _ _ (@wV _ _ _ _ _ _ _ _ _ _ _ _ (cX (by rfl) (by rfl) aGl (aF (aB 0) aH)) ge_int) (by rfl)))
theorem aAu {fd:FuncData}(aGl:mg "len" = none) (Fu:Fun K "everybody" "everybody" pN f fd):
  FnOk P w K mg base CX0 1 f fd ["table"] (spT K mU false 3):=
 gfn Fu aDw rfl (by decide) (fun ts t h=>bO h) (fun cdv A outer s H E hr=>@TZ _ _ _ _ _ _ aGl cdv A outer s H E hr) (fun ts t h=>bQ h)
abbrev qG:Stmt:=top 53
theorem aE9:FnScope ["table","one","other"] ["table","one","other"] (defScope qG):=⟨rfl,rfl,rfl,by decide +kernel,rfl,by decide +kernel,by decide +kernel⟩
def vS:Rho->Option Out:=
 aT (f2 (f2 (f2 (aA 0) (aA 1) oIx) (f2 (aA 0) (aA 2) oIx) cA) (f2 (f2 (aA 0) (f2 (aA 1) (aA 2) oOr) oIx) (f2 (aA 0) (f2 (aA 1) (aA 2) qY) oIx) cA) oLt)
def nE:List T->Option T:=Fof 3 0 vS
theorem RE (t0 t1 t2:T):nE [t0,t1,t2]=(vS [some t0,some t1,some t2]).bind bJ:=rfl
theorem UU (cdv:Value) (A:Around) (outer:List Env) (s:Shared) (H:Hp) (E:XK)
  (hr:Room 0 (A.deeper (envOfC "two_break" (defScope qG) s.heap.objs.size f cdv))):
  GSs (bB CX0 P w K mg base ["table","one","other"] "two_break" (defScope qG) f cdv A outer s H E).nox H [1,1,1] false 3 (defBody qG) vS:=by
 have hu:=hr.units;unfold vS;exact @aN _ _ _ _ _ _ _ (@aY _ _ _ _ _ _ _ _ (@aW _ _ _ _ _ _ _ _ _ (@VS _ _ _ _ _ _ _ _ _ _ _ _ (@eC _ _ _ _ _ _ _ _ _ _ _ _ (@bW _ _ _ _ _ _ _ _ _ _ _ _ (aB 0) (aB 1) (by exact fun _ _=>rfl)) (@bW _ _ _ _ _ _ _ _ _ _ _ _ (aB 0) (aB 2) (by exact fun _ _=>rfl))) (@eC _ _ _ _ _ _ _ _ _ _ _ _ (@bW _ _ _ _ _ _ _ _ _ _ _ _ (aB 0) (@wT _ _ _ _ _ _ _ _ _ _ _ _ (aB 1) (aB 2)) (by exact fun _ _=>rfl)) (@bW _ _ _ _ _ _ _ _ _ _ _ _ (aB 0) (@wO _ _ _ _ _ _ _ _ _ _ _ _ (aB 1) (aB 2)) (by exact fun _ _=>rfl)))) (by rfl)))
theorem aBj {fd:FuncData}(Fu:Fun K "two_break" "two_break" qG f fd):
  FnOk P w K mg base CX0 1 f fd ["table","one","other"] (spT K nE false 3):=
 gfn Fu aE9 rfl (by decide) (fun ts t h=>bO h) (fun cdv A outer s H E hr=>@UU _ _ _ _ _ _  cdv A outer s H E hr) (fun ts t h=>bQ h)
abbrev pH:Stmt:=top 54
theorem vU:FnScope ["table","group","outside","place","first","second"] ["table","group"] (defScope pH):=⟨rfl,rfl,rfl,by decide +kernel,rfl,by decide +kernel,by decide +kernel⟩
def rE:Rho->Option Out:=
 rIf (fT (aG (aD (aA 0) (aD (f2 (aA 1) (f2 (fC (.int 1)) (aA 4) dQ) oOr) (aD (f2 (aA 1) (f2 (fC (.int 1)) (aA 5) dQ) oOr) aE))) nE)) (aT (dI (aD (f1 (aA 1) aV) (aD (f1 (aA 4) aV) (aD (f1 (aA 5) aV) aE))))) bE
def uP:Rho->Option Out:=
 kO 5 (fFL (fG (aA 2) (eW (f2 (aA 3) (fC (.int 1)) cA)) cJ cJ))
  rE
def uO:Rho->Option Out:=
 aJ (aS 2 (aG (aD (f2 (aG (aD (aA 0) aE) mU) (aA 1) DA) aE) fD))
  (aJ (rA [3,4] (sE (fFL (aA 2)))
  uP)
  (aT (fC .non)))
def mQ:List T->Option T:=Fof 2 4 uO
theorem PL (t0 t1:T):mQ [t0,t1]=(uO [some t0,some t1,none,none,none,none]).bind bJ:=rfl
theorem TR (aHe:Cal P w K mg base "everybody" 1 ["table"] mU false 3) (aGo:Cal P w K mg base "hands_in" 1 ["group"] fD true 3) (aHg:Cal P w K mg base "two_break" 1 ["table","one","other"] nE false 3) (aH6:mg "enumerate" = none) (cdv:Value) (A:Around) (outer:List Env) (s:Shared) (H:Hp) (E:XK)
  (hr:Room 1 (A.deeper (envOfC "break_beside" (defScope pH) s.heap.objs.size f cdv))):
  GSs (bB CX0 P w K mg base ["table","group","outside","place","first","second"] "break_beside" (defScope pH) f cdv A outer s H E).nox H [1,1,1,1,1,1] false 3 (defBody pH) uO:=by
 have hu:=hr.units;unfold uO uP rE;exact @aP _ _ _ _ _ _ _ _ _ (@bR _ _ _ _ _ _ _ _ _ _ _ _ 2 (aZ aGo (hr.mono (by decide)) (by rfl) (aF (@WD _ _ _ _ _ _ _ _ _ _ _ _ (aZ aHe (hr.mono (by decide)) (by rfl) (aF (aB 0) aH)) (aB 1)) aH)) vU.nd (by rfl) (Or.inl (by rfl)) (by rfl) (by rfl) (by trivial)) (@aP _ _ _ _ _ _ _ _ _ (@wZ _ _ _ _ _ _ _ _ _ _ _ [3 ,4] _ _ _ _ _ PassesOwn.never (by rfl) (@WH _ _ _ _ _ _ _ _ _ _ _ _ _ (by rfl) (by rfl) aH6 (aB 2) (by rfl)) (@eJ _ _ _ _ _ _ vU.nd (by rfl) (Or.inl (by rfl)) (@eJ _ _ _ _ _ _ vU.nd (by rfl) (Or.inl (by rfl)) (@nK _) (by trivial) (by rfl)) (by trivial) (by rfl)) (@aN _ _ _ _ _ _ _ (@qS _ _ _ _ _ _ _ _ _ 5 _ _ _ _ _ PassesOwn.never (by rfl) (eV (@kB _ _ _ _ _ _ _ _ _ _ _ _ _ _ _ (aB 2) (@jC _ _ _ _ _ _ _ (@eC _ _ _ _ _ _ _ _ _ _ _ _ (aB 3) ge_int)) dN dN (by intro _ _;first | exact⟨_,rfl⟩ | (refine⟨_,?_⟩;with_unfolding_all rfl)))) vU.nd (by rfl) (Or.inl (by rfl)) (@aN _ _ _ _ _ _ _ (@bX _ _ _ _ _ _ _ _ _ _ _ _ (@nM _ _ _ _ _ _ _ (aZ aHg (hr.mono (by decide)) (by rfl) (aF (aB 0) (aF (@wT _ _ _ _ _ _ _ _ _ _ _ _ (aB 1) (@fI _ _ _ _ _ _ _ _ _ _ _ _ ge_int (aB 4))) (aF (@wT _ _ _ _ _ _ _ _ _ _ _ _ (aB 1) (@fI _ _ _ _ _ _ _ _ _ _ _ _ ge_int (aB 5))) aH)))) (by intro _;rfl)) (@aN _ _ _ _ _ _ _ (@aY _ _ _ _ _ _ _ _ (@sO _ _ _ _ _ _ _ _ _ (@gM _ _ _ _ _ _ _ _ (@aW _ _ _ _ _ _ _ _ _ (@GE.sc _ _ _ _ _ _ _ (aB 1)) (by rfl)) (@gM _ _ _ _ _ _ _ _ (@aW _ _ _ _ _ _ _ _ _ (@GE.sc _ _ _ _ _ _ _ (aB 4)) (by rfl)) (@gM _ _ _ _ _ _ _ _ (@aW _ _ _ _ _ _ _ _ _ (@GE.sc _ _ _ _ _ _ _ (aB 5)) (by rfl)) sP (by rfl) (by rfl)) (by rfl) (by rfl)) (by rfl) (by rfl)) (by rfl)))) bY)) (by rfl) (by intro _;rfl) (by trivial))) (by rfl) (by rfl) (by rfl) (by rfl) (by rfl) (by intro _;rfl)) (@aN _ _ _ _ _ _ _ (@aY _ _ _ _ _ _ _ _ (@aW _ _ _ _ _ _ _ _ _ dW (by rfl)))))
theorem aAo {fd:FuncData}(aHe:Cal P w K mg base "everybody" 1 ["table"] mU false 3) (aGo:Cal P w K mg base "hands_in" 1 ["group"] fD true 3) (aHg:Cal P w K mg base "two_break" 1 ["table","one","other"] nE false 3) (aH6:mg "enumerate" = none) (Fu:Fun K "break_beside" "break_beside" pH f fd):
  FnOk P w K mg base CX0 2 f fd ["table","group"] (spT K mQ false 3):=
 gfn Fu vU rfl (by decide) (fun ts t h=>bO h) (fun cdv A outer s H E hr=>@TR _ _ _ _ _ _ aHe aGo aHg aH6 cdv A outer s H E hr) (fun ts t h=>bQ h)
abbrev pI:Stmt:=top 55
theorem EB:FnScope ["table","group","found"] ["table"] (defScope pI):=⟨rfl,rfl,rfl,by decide +kernel,rfl,by decide +kernel,by decide +kernel⟩
def yO:Rho->Option Out:=
 aJ (aS 2 (f1 (aG (aD (aA 0) (aD (aA 1) aE)) mQ) aV))
  (rIf (fB (f2 (aA 2) (fC .non) xO)) (aT (f1 (aA 2) aV)) bE)
def uQ:Rho->Option Out:=
 aJ (kO 1 (dE (aD (aG (aD (aA 0) aE) cD) aE) dF)
  yO)
  (aT (fC .non))
def mR:List T->Option T:=Fof 1 2 uQ
theorem PM (t0:T):mR [t0]=(uQ [some t0,none,none]).bind bJ:=rfl
theorem TU (aH2:Cal P w K mg base "break_beside" 2 ["table","group"] mQ false 3) (aGl:mg "len" = none) (aGm:mg "range" = none) (cdv:Value) (A:Around) (outer:List Env) (s:Shared) (H:Hp) (E:XK)
  (hr:Room 2 (A.deeper (envOfC "break_of" (defScope pI) s.heap.objs.size f cdv))):
  GSs (bB CX0 P w K mg base ["table","group","found"] "break_of" (defScope pI) f cdv A outer s H E).nox H [1,1,1] false 3 (defBody pI) uQ:=by
 have hu:=hr.units;unfold uQ yO;exact @aP _ _ _ _ _ _ _ _ _ (@qS _ _ _ _ _ _ _ _ _ 1 _ _ _ _ _ PassesOwn.never (by rfl) (fJ (by rfl) (by rfl) aGm (aF (cX (by rfl) (by rfl) aGl (aF (aB 0) aH)) aH)) EB.nd (by rfl) (Or.inl (by rfl)) (@aP _ _ _ _ _ _ _ _ _ (@bR _ _ _ _ _ _ _ _ _ _ _ _ 2 (@GE.sc _ _ _ _ _ _ _ (aZ aH2 (hr.mono (by decide)) (by rfl) (aF (aB 0) (aF (aB 1) aH)))) EB.nd (by rfl) (Or.inl (by rfl)) (by rfl) (by rfl) (by trivial)) (@aN _ _ _ _ _ _ _ (@bX _ _ _ _ _ _ _ _ _ _ _ _ (@WX _ _ _ _ _ _ _ _ _ _ _ _ (aB 2) dW) (@aN _ _ _ _ _ _ _ (@aY _ _ _ _ _ _ _ _ (@aW _ _ _ _ _ _ _ _ _ (@GE.sc _ _ _ _ _ _ _ (aB 2)) (by rfl)))) bY))) (by rfl) (by intro _;rfl) (by trivial)) (@aN _ _ _ _ _ _ _ (@aY _ _ _ _ _ _ _ _ (@aW _ _ _ _ _ _ _ _ _ dW (by rfl))))
theorem aAp {fd:FuncData}(aH2:Cal P w K mg base "break_beside" 2 ["table","group"] mQ false 3) (aGl:mg "len" = none) (aGm:mg "range" = none) (Fu:Fun K "break_of" "break_of" pI f fd):
  FnOk P w K mg base CX0 3 f fd ["table"] (spT K mR false 3):=
 gfn Fu EB rfl (by decide) (fun ts t h=>bO h) (fun cdv A outer s H E hr=>@TU _ _ _ _ _ _ aH2 aGl aGm cdv A outer s H E hr) (fun ts t h=>bQ h)
abbrev pO:Stmt:=top 56
theorem aDx:FnScope ["table"] ["table"] (defScope pO):=⟨rfl,rfl,rfl,by decide +kernel,rfl,by decide +kernel,by decide +kernel⟩
def uW:Rho->Option Out:=
 aT (f2 (aG (aD (aA 0) aE) mR) (fC .non) oIs)
def jV:List T->Option T:=Fof 1 0 uW
theorem QA (t0:T):jV [t0]=(uW [some t0]).bind bJ:=rfl
theorem UA (aHi:Cal P w K mg base "break_of" 3 ["table"] mR false 3) (cdv:Value) (A:Around) (outer:List Env) (s:Shared) (H:Hp) (E:XK)
  (hr:Room 3 (A.deeper (envOfC "falls" (defScope pO) s.heap.objs.size f cdv))):
  GSs (bB CX0 P w K mg base ["table"] "falls" (defScope pO) f cdv A outer s H E).nox H [1] false 3 (defBody pO) uW:=by
 have hu:=hr.units;unfold uW;exact @aN _ _ _ _ _ _ _ (@aY _ _ _ _ _ _ _ _ (@aW _ _ _ _ _ _ _ _ _ (@VQ _ _ _ _ _ _ _ _ _ _ _ _ (aZ aHi (hr.mono (by decide)) (by rfl) (aF (aB 0) aH)) dW) (by rfl)))
theorem aAv {fd:FuncData}(aHi:Cal P w K mg base "break_of" 3 ["table"] mR false 3) (Fu:Fun K "falls" "falls" pO f fd):
  FnOk P w K mg base CX0 4 f fd ["table"] (spT K jV false 3):=
 gfn Fu aDx rfl (by decide) (fun ts t h=>bO h) (fun cdv A outer s H E hr=>@UA _ _ _ _ _ _ aHi cdv A outer s H E hr) (fun ts t h=>bQ h)
abbrev jQ:Stmt:=top 64
theorem fN:FnScope ["script","head","names","pairs","due","pair","rows","found","turned","cut","parts","two"] ["script"] (defScope jQ):=⟨rfl,rfl,rfl,by decide +kernel,rfl,by decide +kernel,by decide +kernel⟩
def vK:Rho->Option T:=
 aG (aD (aA 0) (aD (aA 1) aE)) mP
def rH:Rho->Option Out:=
 aS 4 (aG (aD (aA 4) (aD (f2 (aA 5) (fC (.int 1)) oIx) aE)) cV)
def yW:Rho->Option T:=
 f1 (f2 (aA 0) (fC (.int 0)) oIx) aV
def yX:Rho->Option T:=
 f1 (f2 (aA 0) (fC (.int 0)) oIx) aV
def yY:Rho->Option T:=
 f1 (f2 (aA 0) (fC (.int 0)) oIx) aV
def yZ:Rho->Option T:=
 f1 (f2 (aA 0) (fC (.int 0)) oIx) aV
def zA:Rho->Option T:=
 f1 (f2 (aA 0) (fC (.int 0)) oIx) aV
noncomputable def vJ:Rho->Option Out:=
 aJ (aS 1 (f1 (aG (aD (aA 0) (aD (fC (.int 0)) aE)) fO) aV))
  (aJ (aS 2 (aG (aD (f2 (aA 1) (fC (.int 6)) bG) (aD (f2 (fC (.int 1)) (f2 (aA 1) (fC (.int 6)) aR) cA) aE)) kU))
  (aJ (aS 3 (bA (fFL (aA 0)) [none,some 2] aO vK))
  (aJ (aS 4 (f2 (fC (.lst (tI [0]))) (f2 (fC (.int 1)) (aG (aD (aA 2) aE) cD) dQ) tK))
  (aJ (kO 5 (fL (aA 3))
  rH)
  (aJ (aS 6 (cG (aD (f2 (fC (.str "hands ")) (f2 (fC (.str " ")) (aA 2) eL) bS) (aD (fC (.str "table t")) aE))))
  (aJ (aS 7 (aG (aD (f2 (fC (.str "\n")) (f2 (aA 6) (bA (fL (aA 3)) [none] aO yW) cU) eL) aE) (fM dM cV dL)))
  (aJ (rIf (pOr (fB (f2 (aA 7) (cG (aD (dI (aD (fC (.str "t")) (aD (aA 4) aE))) aE)) oNe)) (fB (f2 (aG (aD (aA 4) aE) jV) (fC (.bl true)) qZ))) (aT (fC (.bl false))) bE)
  (aJ (aS 8 (aG (aD (f2 (fC (.str "\n")) (f2 (aA 6) (bA (fRv (aA 3)) [none] aO yX) cU) eL) aE) (fM dM cV dL)))
  (aJ (aS 9 (f2 (aG (aD (aA 0) (aD (fC (.int 1)) aE)) fO) (f2 (aG (aD (aA 3) aE) cD) (fC (.int 1)) cA) aR))
  (aJ (aS 10 (f2 (f2 (bA (fL (fG (aA 3) cJ (eW (aA 9)) cJ)) [none] aO yY) (cG (aD (fC (.str "table u")) aE)) cU) (bA (fL (fG (aA 3) (eW (aA 9)) cJ cJ)) [none] aO yZ) cU))
  (aJ (aS 11 (aG (aD (f2 (fC (.str "\n")) (f2 (aA 6) (aA 10) cU) eL) aE) (fM dM cV dL)))
  (aJ (rIf (pOr (fB (f2 (aA 8) (aA 7) oNe)) (fB (f2 (bA (fL (aA 11)) [none] aO zA) (cG (aD (fC (.str "t")) (aD (fC (.str "u")) aE))) oNe))) (aT (fC (.bl false))) bE)
  (aT (f2 (aG (aD (f2 (f2 (aA 11) (fC (.int 0)) oIx) (fC (.int 1)) oIx) (aD (f2 (f2 (aA 11) (fC (.int 1)) oIx) (fC (.int 1)) oIx) aE)) cV) (aA 4) oEq))))))))))))))
noncomputable def qI:List T->Option T:=Fof 1 11 vJ
theorem QL (t0:T):qI [t0]=(vJ [some t0,none,none,none,none,none,none,none,none,none,none,none]).bind bJ:=rfl
theorem UJ (aH5:Cal P w K mg base "_law_cell" 1 ["script","k"] fO false 3) (aH7:Cal P w K mg base "_law_names" 1 ["cell","many"] kU true 3) (aHh:Cal P w K mg base "_law_row" 4 ["cell","names"] mP true 3) (aHc:Cal P w K mg base "added" 2 ["one","other"] cV true 3) (aH1:CalR P w K mg base "read_page" 8 dM cV dL) (aHs:Cal P w K mg base "falls" 4 ["table"] jV false 3) (aGl:mg "len" = none) (aHj:mg "reversed" = none) (cdv:Value) (A:Around) (outer:List Env) (s:Shared) (H:Hp) (E:XK)
  (hr:Room 8 (A.deeper (envOfC "law" (defScope jQ) s.heap.objs.size f cdv))):
  GSs (bB CX0 P w K mg base ["script","head","names","pairs","due","pair","rows","found","turned","cut","parts","two"] "law" (defScope jQ) f cdv A outer s H E).nox H [1,1,1,1,1,1,1,1,1,1,1,1] false 3 (defBody jQ) vJ:=by
 have hu:=hr.units;unfold vJ zA yZ yY yX yW rH vK;exact @aP _ _ _ _ _ _ _ _ _ (@bR _ _ _ _ _ _ _ _ _ _ _ _ 1 (@GE.sc _ _ _ _ _ _ _ (aZ aH5 (hr.mono (by decide)) (by rfl) (aF (aB 0) (aF ge_int aH)))) fN.nd (by rfl) (Or.inl (by rfl)) (by rfl) (by rfl) (by trivial)) (@aP _ _ _ _ _ _ _ _ _ (@bR _ _ _ _ _ _ _ _ _ _ _ _ 2 (aZ aH7 (hr.mono (by decide)) (by rfl) (aF (@fA _ _ _ _ _ _ _ _ _ _ _ _ (aB 1) ge_int) (aF (@eC _ _ _ _ _ _ _ _ _ _ _ _ ge_int (@cM _ _ _ _ _ _ _ _ _ _ _ _ (aB 1) ge_int)) aH))) fN.nd (by rfl) (Or.inr (by rfl)) (by rfl) (by rfl) (by trivial)) (@aP _ _ _ _ _ _ _ _ _ (@BH _ _ _ _ _ _ _ _ _ _ _ _ _ _ _ _ _ _ _ _ _ _ _ _ _ 3 (bZ (by kernel_rfl) (N':=[ "cell" ,"names" ]) (src:=[ none ,some 2 ])) (cH (by kernel_rfl) (fl':=[ 2 ,1 ])) (by rfl) (eV (aB 0)) (by rfl) (by rfl) (fun cl C s H ex=>⟨cI,aZ aHh (hr.mono (by decide)) (by rfl) (aF (aB 0) (aF (aB 1) aH))⟩) fN.nd (by rfl) (Or.inl (by rfl)) (by rfl) (by rfl) (by intro _;rfl) (by trivial)) (@aP _ _ _ _ _ _ _ _ _ (@bR _ _ _ _ _ _ _ _ _ _ _ _ 4 (@VW _ _ _ _ _ _ _ _ _ _ _ (@VP _ _ _ _ _ ([ 0 ]) (by rfl) (by decide +kernel)) (@fI _ _ _ _ _ _ _ _ _ _ _ _ ge_int (cX (by rfl) (by rfl) aGl (aF (aB 2) aH)))) fN.nd (by rfl) (Or.inl (by rfl)) (by rfl) (by rfl) (by trivial)) (@aP _ _ _ _ _ _ _ _ _ (@qS _ _ _ _ _ _ _ _ _ 5 _ _ _ _ _ PassesOwn.never (by rfl) (@sM _ _ _ _ _ _ _ _ (aB 3)) fN.nd (by rfl) (Or.inl (by rfl)) (@aN _ _ _ _ _ _ _ (@bR _ _ _ _ _ _ _ _ _ _ _ _ 4 (aZ aHc (hr.mono (by decide)) (by rfl) (aF (aB 4) (aF (@bW _ _ _ _ _ _ _ _ _ _ _ _ (aB 5) ge_int (by exact fun _ _=>rfl)) aH))) fN.nd (by rfl) (Or.inl (by rfl)) (by rfl) (by rfl) (by trivial))) (by rfl) (by intro _;rfl) (by trivial)) (@aP _ _ _ _ _ _ _ _ _ (@bR _ _ _ _ _ _ _ _ _ _ _ _ 6 (@eI _ _ _ _ _ _ _ (aF (gL bL (qQ bL (aB 2))) (aF bL aH))) fN.nd (by rfl) (Or.inl (by rfl)) (by rfl) (by rfl) (by trivial)) (@aP _ _ _ _ _ _ _ _ _ (@bR _ _ _ _ _ _ _ _ _ _ _ _ 7 (BF aH1 (hr.mono (by decide)) (by rfl) (aF (qQ bL (@nI _ _ _ _ _ _ _ _ _ _ _ _ (aB 6) (@cS _ _ _ _ _ _ _ _ _ _ _ _ _ _ _ _ _ _ _ _ (bZ (by kernel_rfl) (N':=[ "pair" ]) (src:=[ none ])) (cH (by kernel_rfl) (fl':=[ 1 ])) (by decide) (by rfl) (@sM _ _ _ _ _ _ _ _ (aB 3)) (by rfl) (by rfl) (fun cl C s H ex=>⟨cI,@GE.sc _ _ _ _ _ _ _ (@bW _ _ _ _ _ _ _ _ _ _ _ _ (aB 0) ge_int (by exact fun _ _=>rfl))⟩) (by intro _;rfl)))) aH)) fN.nd (by rfl) (Or.inl (by rfl)) (by rfl) (by rfl) (by trivial)) (@aP _ _ _ _ _ _ _ _ _ (@bX _ _ _ _ _ _ _ _ _ _ _ _ (@GW.gt _ _ _ _ _ (@fK _ _ _ _ _ _ _ _ _ (@mG _ _ _ _ _ _ _ _ _ _ _ _ hu (aB 7) (@eI _ _ _ _ _ _ _ (aF (@sL _ _ _ _ _ _ _ _ (aF bL (aF (aB 4) aH))) aH))) (@gN _ _ _ _ _ _ (@WY _ _ _ _ _ _ _ _ _ _ _ _ (aZ aHs (hr.mono (by decide)) (by rfl) (aF (aB 4) aH)) AZ)))) (@aN _ _ _ _ _ _ _ (@aY _ _ _ _ _ _ _ _ (@aW _ _ _ _ _ _ _ _ _ AZ (by rfl)))) bY) (@aP _ _ _ _ _ _ _ _ _ (@bR _ _ _ _ _ _ _ _ _ _ _ _ 8 (BF aH1 (hr.mono (by decide)) (by rfl) (aF (qQ bL (@nI _ _ _ _ _ _ _ _ _ _ _ _ (aB 6) (@cS _ _ _ _ _ _ _ _ _ _ _ _ _ _ _ _ _ _ _ _ (bZ (by kernel_rfl) (N':=[ "pair" ]) (src:=[ none ])) (cH (by kernel_rfl) (fl':=[ 1 ])) (by decide) (by rfl) (WJ (by rfl) (by rfl) aHj (aB 3)) (by rfl) (by rfl) (fun cl C s H ex=>⟨cI,@GE.sc _ _ _ _ _ _ _ (@bW _ _ _ _ _ _ _ _ _ _ _ _ (aB 0) ge_int (by exact fun _ _=>rfl))⟩) (by intro _;rfl)))) aH)) fN.nd (by rfl) (Or.inl (by rfl)) (by rfl) (by rfl) (by trivial)) (@aP _ _ _ _ _ _ _ _ _ (@bR _ _ _ _ _ _ _ _ _ _ _ _ 9 (@cM _ _ _ _ _ _ _ _ _ _ _ _ (aZ aH5 (hr.mono (by decide)) (by rfl) (aF (aB 0) (aF ge_int aH))) (@eC _ _ _ _ _ _ _ _ _ _ _ _ (cX (by rfl) (by rfl) aGl (aF (aB 3) aH)) ge_int)) fN.nd (by rfl) (Or.inl (by rfl)) (by rfl) (by rfl) (by trivial)) (@aP _ _ _ _ _ _ _ _ _ (@bR _ _ _ _ _ _ _ _ _ _ _ _ 10 (@nI _ _ _ _ _ _ _ _ _ _ _ _ (@nI _ _ _ _ _ _ _ _ _ _ _ _ (@cS _ _ _ _ _ _ _ _ _ _ _ _ _ _ _ _ _ _ _ _ (bZ (by kernel_rfl) (N':=[ "pair" ]) (src:=[ none ])) (cH (by kernel_rfl) (fl':=[ 1 ])) (by decide) (by rfl) (@sM _ _ _ _ _ _ _ _ (@kB _ _ _ _ _ _ _ _ _ _ _ _ _ _ _ (aB 3) dN (@jC _ _ _ _ _ _ _ (aB 9)) dN (by intro _ _;first | exact⟨_,rfl⟩ | (refine⟨_,?_⟩;with_unfolding_all rfl)))) (by rfl) (by rfl) (fun cl C s H ex=>⟨cI,@GE.sc _ _ _ _ _ _ _ (@bW _ _ _ _ _ _ _ _ _ _ _ _ (aB 0) ge_int (by exact fun _ _=>rfl))⟩) (by intro _;rfl)) (@eI _ _ _ _ _ _ _ (aF bL aH))) (@cS _ _ _ _ _ _ _ _ _ _ _ _ _ _ _ _ _ _ _ _ (bZ (by kernel_rfl) (N':=[ "pair" ]) (src:=[ none ])) (cH (by kernel_rfl) (fl':=[ 1 ])) (by decide) (by rfl) (@sM _ _ _ _ _ _ _ _ (@kB _ _ _ _ _ _ _ _ _ _ _ _ _ _ _ (aB 3) (@jC _ _ _ _ _ _ _ (aB 9)) dN dN (by intro _ _;first | exact⟨_,rfl⟩ | (refine⟨_,?_⟩;with_unfolding_all rfl)))) (by rfl) (by rfl) (fun cl C s H ex=>⟨cI,@GE.sc _ _ _ _ _ _ _ (@bW _ _ _ _ _ _ _ _ _ _ _ _ (aB 0) ge_int (by exact fun _ _=>rfl))⟩) (by intro _;rfl))) fN.nd (by rfl) (Or.inl (by rfl)) (by rfl) (by rfl) (by trivial)) (@aP _ _ _ _ _ _ _ _ _ (@bR _ _ _ _ _ _ _ _ _ _ _ _ 11 (BF aH1 (hr.mono (by decide)) (by rfl) (aF (qQ bL (@nI _ _ _ _ _ _ _ _ _ _ _ _ (aB 6) (aB 10))) aH)) fN.nd (by rfl) (Or.inl (by rfl)) (by rfl) (by rfl) (by trivial)) (@aP _ _ _ _ _ _ _ _ _ (@bX _ _ _ _ _ _ _ _ _ _ _ _ (@GW.gt _ _ _ _ _ (@fK _ _ _ _ _ _ _ _ _ (@mG _ _ _ _ _ _ _ _ _ _ _ _ hu (aB 8) (aB 7)) (@gN _ _ _ _ _ _ (@mG _ _ _ _ _ _ _ _ _ _ _ _ hu (@cS _ _ _ _ _ _ _ _ _ _ _ _ _ _ _ _ _ _ _ _ (bZ (by kernel_rfl) (N':=[ "pair" ]) (src:=[ none ])) (cH (by kernel_rfl) (fl':=[ 1 ])) (by decide) (by rfl) (@sM _ _ _ _ _ _ _ _ (aB 11)) (by rfl) (by rfl) (fun cl C s H ex=>⟨cI,@GE.sc _ _ _ _ _ _ _ (@bW _ _ _ _ _ _ _ _ _ _ _ _ (aB 0) ge_int (by exact fun _ _=>rfl))⟩) (by intro _;rfl)) (@eI _ _ _ _ _ _ _ (aF bL (aF bL aH))))))) (@aN _ _ _ _ _ _ _ (@aY _ _ _ _ _ _ _ _ (@aW _ _ _ _ _ _ _ _ _ AZ (by rfl)))) bY) (@aN _ _ _ _ _ _ _ (@aY _ _ _ _ _ _ _ _ (@aW _ _ _ _ _ _ _ _ _ (@BC _ _ _ _ _ _ _ _ _ _ _ _ hu (aZ aHc (hr.mono (by decide)) (by rfl) (aF (@bW _ _ _ _ _ _ _ _ _ _ _ _ (@bW _ _ _ _ _ _ _ _ _ _ _ _ (aB 11) ge_int (by exact fun _ _=>rfl)) ge_int (by exact fun _ _=>rfl)) (aF (@bW _ _ _ _ _ _ _ _ _ _ _ _ (@bW _ _ _ _ _ _ _ _ _ _ _ _ (aB 11) ge_int (by exact fun _ _=>rfl)) ge_int (by exact fun _ _=>rfl)) aH))) (aB 4)) (by rfl))))))))))))))))
theorem aB4 {fd:FuncData}(aH5:Cal P w K mg base "_law_cell" 1 ["script","k"] fO false 3) (aH7:Cal P w K mg base "_law_names" 1 ["cell","many"] kU true 3) (aHh:Cal P w K mg base "_law_row" 4 ["cell","names"] mP true 3) (aHc:Cal P w K mg base "added" 2 ["one","other"] cV true 3) (aH1:CalR P w K mg base "read_page" 8 dM cV dL) (aHs:Cal P w K mg base "falls" 4 ["table"] jV false 3) (aGl:mg "len" = none) (aHj:mg "reversed" = none) (Fu:Fun K "law" "law" jQ f fd):
  FnOk P w K mg base CX0 9 f fd ["script"] (spT K qI false 3):=
 gfn Fu fN rfl (by decide) (fun ts t h=>bO h) (fun cdv A outer s H E hr=>@UJ _ _ _ _ _ _ aH5 aH7 aHh aHc aH1 aHs aGl aHj cdv A outer s H E hr) (fun ts t h=>bQ h)
end My
namespace My
open PySem PySem.Spec PyProof.Rows L2 G
theorem HG {α:Type}{p:Rho->Option Bool}{f:Rho->Option T}{ρ:Rho}(tp:α->T) (c:α->Bool) (h:α->T):∀ xs:List α,(∀ x∈xs,p (ρ.set 0 (some (tp x)))=some (c x)/\(c x=true->f (ρ.set 0 (some (tp x)))=some (h x)))->bC p f ρ (xs.map tp)=some ((xs.filter c).map h)
 | [],_=>rfl
 | x::xs,hx=>by
  have ih:=HG tp c h xs fun y hy=>hx y (aIl _ hy);obtain⟨h1,h2⟩:=hx x aIm;rw[aJy];unfold bC;rw[h1];simp only[zz2];cases hc:c x with
  | true=>
   rw[if_pos rfl,h2 hc,List.filter_cons,if_pos hc,aJy];simp only[zz2];rw[ih];rfl
  | false=>
   rw[if_neg (by decide),List.filter_cons,if_neg (by simp[hc])];exact ih
open PySem.NumText
theorem aEm {w:Str}{j:Int}(h:0<=j/\j<=w.cps.toList.length):Txt.slice w none (some j)=⟨(w.cps.toList.take j.toNat).toArray⟩:=by
 have:=slice_closes_to h;rw[beq_iff_eq] at this
 simpa using this
theorem aEl {w:Str}{i:Int}(h0:0<=i) (h:i<=w.length):Txt.slice w (some i) none=⟨(w.cps.toList.drop i.toNat).toArray⟩:=by
 rw[slice_from_eq h0 h rfl]
 congr 2
 apply List.take_of_length_le
 have:w.cps.toList.length=w.length:=Array.length_toList;simp only[List.length_drop];lia
theorem CI:(Str.ofString "-")=⟨#[45]⟩:=by decide +kernel
theorem EN (c:Nat) (r:List Nat):Txt.startswith ⟨(c::r).toArray⟩ ⟨#[45]⟩=(c == 45):=by
 have e1:decide (0+(⟨#[45]⟩:Str).length<=(⟨(c::r).toArray⟩:Str).length)=true:=decide_eq_true (by show 0+1<=(c::r).toArray.size;simp);have e2:Builtin.Str.subAt ⟨(c::r).toArray⟩ ⟨#[45]⟩ 0=((#[c]:Array Nat) == #[45]):=by
  unfold Builtin.Str.subAt;have:((c::r).toArray).extract 0 (0+(⟨#[45]⟩:Str).length)=#[c]:=by
   show ((c::r).toArray).extract 0 1=#[c];simp
  rw[this]
 unfold Txt.startswith;rw[e1,e2,Bool.true_and];rw[aIz,beq_iff_eq,beq_iff_eq];simp
theorem aFx (w:Str):∃ (u:Str) (st:Bool),Txt.startswith w "-" = st/\(Txt.slice w none (some 1) == ("-" : Str))=st/\(if st then Txt.slice w (some 1) none else w)=u/\u.length<=w.length/\(st=true->w.cps.toList=45::u.cps.toList)/\(st=false->u=w):=by
 refine⟨if Txt.startswith w "-" then Txt.slice w (some 1) none else w,Txt.startswith w "-",rfl,?_,rfl,?_,?_,?_⟩
 all_goals (obtain⟨⟨cs⟩⟩:=w)
 ·rw[CI]
  cases cs with
  | nil=>decide
  | cons c r=>
   rw[aEm (by simp;lia),EN];rw[aIz,beq_iff_eq,beq_iff_eq];simp
 ·split
  ·exact Txt.slice_le _ _ _
  ·exact aKe _
 ·intro h
  rw[if_pos h];rw[CI] at h;cases cs with
  | nil=>exact absurd h (by decide)
  | cons c r=>
   rw[EN,beq_iff_eq] at h;rw[aEl (by decide) (by show (1:Int)<=((c::r).toArray.size:Nat);simp;lia)];simp[h]
 ·intro h
  rw[h];rfl
def fig (c:Nat):Bool:=decide (c∈(Str.ofString "0123456789").cps.toList)
theorem UZ:(Str.ofString "0123456789").cps.toList=[48,49,50,51,52,53,54,55,56,57]:=by decide +kernel
theorem aC9 (c:Nat):nR ⟨#[c]⟩ (Str.ofString "0123456789")=fig c:=StrLaws.found_one _ c
theorem aA6 (a b:Str):oEq (.str a) (.str b)=some (.bl (a == b)):=rfl
theorem aA9 (a b:Str):oNe (.str a) (.str b)=some (.bl (!(a == b))):=rfl
theorem KU {u:Str}(h:u.length<=cap):mM [.str u]=some (.int u.length):=by
 show (if u.length<=cap then some (T.int u.length) else none)=_;rw[if_pos h]
theorem TC (u:Str):bC aO zC [none] (G.signs u)=some (u.cps.toList.map fun c=>T.bl (fig c)):=by
 unfold G.signs;rw[AH (fun t=>match t with | .str ⟨#[c]⟩=>T.bl (fig c) | t=>t),aJz]
 ·rfl
 ·intro t ht
  obtain⟨c,_,rfl⟩:=aK4.mp ht;show some (T.bl (nR ⟨#[c]⟩ (Str.ofString "0123456789")))=_;rw[aC9]
  rfl
theorem RQ (l:List Nat):jH [.lst (l.map fun c=>T.bl (fig c))]=some (.bl (l.all fig)):=by
 have:G.allB (l.map fun c=>T.bl (fig c))=some (l.map fig):=by
  induction l with
  | nil=>rfl
  | cons a r ih=>simp only[aJy,G.allB,ih];rfl
 show (G.allB _).map _=_;rw[this];simp
theorem jA (w:Str):(chL w).length=w.length:=Array.length_toList
def aQ (n:Int):Str:=Str.ofString (toString n)
def dg (k:Nat):List Nat:=(Nat.toDigits 10 k).map Char.toNat
theorem qO (k:Nat):AllDigits (dg k):=by
 intro c hc;obtain⟨ch,hch,e⟩:=aK4.mp hc;rw[<- e];exact PyProof.Rows.digit_range (Nat.isDigit_of_mem_toDigits (by decide) (by decide) hch)
theorem HW {k:Nat}(h:¬ k<10):dg k=dg (k / 10)++[(Nat.digitChar (k%10)).toNat]:=by
 have hm:k%10<10:=Nat.mod_lt k (by decide);have t:Nat.toDigits 10 (k / 10)++Nat.toDigits 10 (k%10)=Nat.toDigits 10 (10*(k / 10)+k%10):=Nat.toDigits_append_toDigits (by decide) (by lia) hm;rw[Nat.div_add_mod] at t;unfold dg;rw[<- t,List.map_append,Nat.toDigits_of_lt_base hm]
 rfl
theorem HV {k:Nat}(h:k<10):dg k=[(Nat.digitChar k).toNat]:=by
 unfold dg;rw[Nat.toDigits_of_lt_base h]
 rfl
theorem HU (k:Nat):∃ c r,dg k=c::r/\(c=48->k=0):=by
 induction k using Nat.strongRecOn with
 | _ k ih=>
  by_cases h:k<10
  ·refine⟨_,_,HV h,?_⟩
   have:∀ d:Nat,d<10->(Nat.digitChar d).toNat=48->d=0:=by decide
   exact this k h
  ·obtain⟨c,r,e,hc⟩:=ih (k / 10) (by lia)
   rw[HW h,e];exact⟨c,_,rfl,fun z=>absurd (hc z) (by lia)⟩
theorem wI:∀ (L k:Nat),1<=L->k<10^L->(dg k).length<=L:=by
 intro L
 induction L with
 | zero=>intro k h;lia
 | succ L ih=>
  intro k _ hk
  by_cases h:k<10
  ·rw[HV h];simp
  ·rw[HW h,aJn,aJu]
   have hd:k / 10<10^L:=by rw[Nat.div_lt_iff_lt_mul (by decide)];rwa [Nat.pow_succ] at hk
   have h1:1<=L:=by
    rcases Nat.eq_zero_or_pos L with z | z
    ·subst z;simp at hd;lia
    ·exact z
   have:=ih (k / 10) h1 hd;lia
theorem CP (k:Nat):chL (aQ (k:Int))=dg k:=PySem.W.KIN.signs_num k
theorem CO (k:Nat):chL (aQ (Int.negSucc k))=45::dg (k+1):=by
 unfold chL aQ;rw[PyProof.Rows.signs_ofString];show (("-" ++ Nat.repr (k+1)):String).toList.map Char.toNat=_;rw[String.toList_append,List.map_append,Nat.toList_repr]
 rfl
theorem GF {l:List Nat}(h:AllDigits l):l.all fig=true:=by
 rw[aIo];intro c hc;have:=h c hc;unfold fig;rw[UZ];have all:∀ c:Nat,48<=c->c<=57->decide (c∈[48,49,50,51,52,53,54,55,56,57])=true:=fun c h1 h2=>by
  obtain⟨d,rfl⟩:∃ d,c=48+d:=⟨c-48,by lia⟩;have:∀ d:Nat,d<10->decide (48+d∈[48,49,50,51,52,53,54,55,56,57])=true:=by decide
  exact this d (by lia)
 exact all c this.1 this.2
theorem FG {w u:Str}{st:Bool}{m:Int}(h1:Txt.startswith w "-" = st) (h3:(if st then Txt.slice w (some 1) none else w)=u) (hwc:w.length<=4300) (huc:u.length<=200) {c:Nat}{r:List Nat}(hcr:u.cps.toList=c::r) (hd:u.cps.toList.all fig=true) (hl:c=48->w=Str.ofString "0")
  (hm:tE [.str w]=some (.int m)):fQ [.str w,.int 200]=some (.int m):=by
 have hwc':w.length<=cap:=by unfold cap;lia
 have huc':u.length<=cap:=by unfold cap;lia
 have hlu:u.cps.toList.length=u.length:=Array.length_toList;have toldN:fQ [.str w,.int 200]=((aJ (rIf (pOr (fB (f2 (aG (aD (aA 2) aE) mM) (fC (.int 0)) oEq)) (pOr (fB (f2 (aG (aD (aA 2) aE) mM) (aA 1) oGt)) (nQ (fT (aG (aD (bA (sG (aA 2)) [none] aO zC) aE) jH))))) (aT (fC .non)) bE)
  (aJ (rIf (gP (fB (f2 (f2 (aA 2) (fC (.int 0)) eK) (fC (.str "0")) oEq)) (fB (f2 (aA 0) (fC (.str "0")) oNe))) (aT (fC .non)) bE)
  (aT (aG (aD (aA 0) aE) tE)))) [some (.str w),some (.int 200),some (.str u)]).bind bJ:=by
  rw[QX];unfold vM;rw[rSeq_at];have g:aV (.str w)=some (.str w):=rfl;have os:CZ (.str w) (.str "-")=some (.bl st):=by rw[<- h1];rfl
  simp only[rSet_at,f1_at,f2_at,fIf_at,fT_at,fC_at,fVar_at,fSliceS_at,oSome_at,oNone_at,isI_int,List.set,zz0,jn,zz2,zz3,g,os,truT_bl,hwc',if_true];cases st with
  | true=>cases h3;rfl
  | false=>cases h3;rfl
 rw[toldN]
 clear toldN
 have lS:=KU huc';have tk:bK [none] [some (T.str w),some (.int 200),some (.str u)]=[none]:=rfl;have ci:=TC u;have lm:(u.cps.toList.map fun c=>T.bl (fig c)).length<=cap:=by rw[aJq];lia
 have ab:=RQ u.cps.toList;rw[hd] at ab;have a2:((u.length:Int) == 0)=false:=by
  rw[hcr,aJo] at hlu;rw[beq_eq_false_iff_ne];lia
 have eq0:oEq (.int (u.length:Int)) (.int 0)=some (.bl ((u.length:Int) == 0)):=rfl;have b1:decide ((200:Int)<(u.length:Int))=false:=decide_eq_false (by lia);have ix:eK (.str u) (.int 0)=some (.str ⟨#[c]⟩):=by
  have:u.cps[(0:Int).toNat]?=some c:=by
   rw[<- Array.getElem?_toList,hcr];rfl
  show (if (0:Int)<=0/\(0:Int)<2^63 then _ else none)=_;rw[if_pos (by decide),this];rfl
 have hE:gP (fB (f2 (f2 (aA 2) (fC (.int 0)) eK) (fC (.str "0")) oEq)) (fB (f2 (aA 0) (fC (.str "0")) oNe)) [some (.str w),some (.int 200),some (.str u)]=some false:=by
  simp only[pAnd_at,fB_at,f2_at,fC_at,fVar_at,zz0,zz1,jn,zz2,ix,aA6,aA9,isB_bl]
  by_cases hc:c=48
  ·have:(!(w == Str.ofString "0"))=false:=by rw[hl hc];decide +kernel
   rw[show (!(w == Str.ofString "0"))=false from this];cases ((⟨#[c]⟩:Str) == Str.ofString "0")<;>rfl
  ·have:((⟨#[c]⟩:Str) == Str.ofString "0")=false:=by
    rw[beq_eq_false_iff_ne];intro z;have e0:Str.ofString "0" = ⟨#[48]⟩:=by decide +kernel
    rw[e0] at z
    injection z with z
    have:=congrArg Array.toList z;simp at this;exact hc this
   rw[this];rfl
 rw[rSeq_at];simp only[rIf_at,rNext_at,pOr_at,pNot_at,fT_at,truT_bl,fB_at,f2_at,fC_at,fCall_at,aCons_at,aNil_at,fVar_at,fComp_at,fStr_at,tk,ci,lm,ab,zz0,zz1,jn,zz2,zz3,lS,eq0,a2,b1,oGt_int,isB_bl,Bool.not_true,aJ0,if_false,if_true];rw[rSeq_at,rIf_at,hE];simp only[rRet_at,rNext_at,fCall_at,aCons_at,aNil_at,fVar_at,zz0,jn,zz2,zz3,aJ0,if_false,hm]
 rfl
theorem KS {n:Int}(h:n.natAbs<10^200):(aQ n).length<=201:=by
 rw[<- jA]
 match n,h with
 | .ofNat k,h=>rw[show chL (aQ (Int.ofNat k))=dg k from CP k];have:=wI 200 k (by decide) h;lia
 | .negSucc k,h=>rw[CO,aJo];have:=wI 200 (k+1) (by decide) h;lia
theorem aA3 {n:Int}{c:Nat}(h:c∈chL (aQ n)):c=45\/(48<=c/\c<=57):=by
 match n,h with
 | .ofNat k,h=>rw[show chL (aQ (Int.ofNat k))=dg k from CP k] at h;exact .inr (qO k c h)
 | .negSucc k,h=>
  rw[CO] at h;rcases aIu.mp h with h | h
  ·exact .inl h
  ·exact .inr (qO _ c h)
theorem FH {n:Int}(h:n.natAbs<10^200):fQ [.str (aQ n),.int 200]=some (.int n):=by
 have hl:=KS h;obtain⟨u,st,h1,_,h3,h4,h5,h6⟩:=aFx (aQ n);have oi:∀ m,PySem.intText? (aQ n)=some m->tE [.str (aQ n)]=some (.int m):=fun m e=>by
  show (if (aQ n).length<=cap then (PySem.intText? (aQ n)).map T.int else none)=_;rw[if_pos (by unfold cap;lia),e];rfl
 match n,h,hl,u,st,h1,h3,h4,h5,h6,oi with
 | .ofNat k,h,hl,u,st,h1,h3,h4,h5,h6,oi=>
  have ec:(aQ (Int.ofNat k)).cps.toList=dg k:=CP k;obtain⟨c,r,ed,hc⟩:=HU k;have hst:st=false:=by
   cases st with
   | false=>rfl
   | true=>
    have:=h5 rfl;rw[ec,ed] at this;have hd:=qO k c (by rw[ed];exact aIm);have:=(List.cons.inj this).1;lia
  subst hst;cases h6 rfl;have ad:AllDigits (aQ (Int.ofNat k)).cps.toList:=by rw[ec];exact qO k
  refine FG h1 h3 (by lia) ?_ (ec.trans ed) (GF ad) (fun z=>?_) (oi _ ?_)
  ·rw[<- jA,show chL (aQ (Int.ofNat k))=dg k from ec]
   exact wI 200 k (by decide) h
  ·cases hc z;decide +kernel
  ·have:=intText_digits ad (by rw[ec,ed];simp) (by lia)
   rw[ec] at this;rw[this];unfold dg;rw[PySem.W.KIN.val_back];rfl
 | .negSucc k,h,hl,u,st,h1,h3,h4,h5,h6,oi=>
  have ec:(aQ (Int.negSucc k)).cps.toList=45::dg (k+1):=CO k;obtain⟨c,r,ed,hc⟩:=HU (k+1);have hst:st=true:=by
   rw[<- h1,CI];have:aQ (Int.negSucc k)=⟨(45::dg (k+1)).toArray⟩:=by
    rw[<- ec]
   rw[this,EN];rfl
  subst hst;have eu:u.cps.toList=dg (k+1):=by
   have:=h5 rfl;rw[ec] at this;exact (List.cons.inj this).2.symm
  refine FG h1 h3 (by lia) ?_ (eu.trans ed) (by rw[eu];exact GF (qO _)) (fun z=>absurd (hc z) (by lia)) (oi _ ?_)
  ·rw[<- jA,show chL u=dg (k+1) from eu]
   exact wI 200 (k+1) (by decide) h
  ·rw[intText_neg ec (qO _) (by rw[ed];simp) (by lia)]
   unfold dg;rw[PySem.W.KIN.val_back]
   rfl
def jF (w:Str):Bool:=decide (1<=w.length)&&decide (w.length<=8)&&(chL w).all fun c=>decide (97<=c)&&decide (c<=122)
theorem sV {w:Str}(h:jF w=true):1<=w.length/\w.length<=8/\∀ c∈chL w,97<=c/\c<=122:=by
 unfold jF at h;simp only[aIw,decide_eq_true_eq,aIo] at h;exact⟨h.1.1,h.1.2,h.2⟩
def eP (ws:List Str):Prop:=ws.Nodup/\∀ w∈ws,jF w=true
def ltr:List Nat:=(List.range 26).map (97 + ·)
theorem KJ:(Str.ofString "abcdefghijklmnopqrstuvwxyz").cps.toList=ltr:=by decide +kernel
theorem CW (a:Nat) {b:Nat}(h:0<b):aR (.int (a:Int)) (.int (b:Int))=some (.int ((a%b:Nat):Int)):=by
 rw[cZ (by lia)];rfl
def one (c:Nat):Str:=⟨#[c]⟩
def wdL:List Str:=[Str.ofString "hands",Str.ofString "table",Str.ofString "group",Str.ofString "each",Str.ofString "cover",Str.ofString "cut",Str.ofString "steps",Str.ofString "ask"]
def nm0 (t j:Nat):Str:=wdL.getD ((t+j)%8) default
def nm1 (t s j:Nat):Str:=⟨(List.replicate (1+(t+3*j)%8) (97+s)).toArray⟩
def nm2 (t s f j:Nat):Str:=⟨(List.replicate t (97+f)++[97+(s+5*j)%26]++List.replicate (7-t) (97+f)).toArray⟩
theorem rY (l:List Nat):chL ⟨l.toArray⟩=l:=rfl
theorem CM (c n:Nat) (hn:n<=1000):jI (.str (one c)) (.int (n:Int))=some (.str ⟨(List.replicate n c).toArray⟩):=by
 have h:0<=(n:Int)/\(n:Int)<=1000/\(one c).length<=1000:=⟨by lia,by lia,by show 1<=1000;decide⟩;show (if 0<=(n:Int)/\(n:Int)<=1000/\(one c).length<=1000 then some (T.str (Txt.mul (one c) (n:Int))) else none)=_;rw[if_pos h]
 congr 2
 apply jZ
 rw[rY];unfold Txt.mul
 by_cases h0:(n:Int)<1
 ·have:n=0:=by lia
  subst this;rw[if_pos h0];rfl
 rw[if_neg h0];have l1:((one c).length == 0)=false:=rfl
 by_cases h1:n=1
 ·subst h1;rfl
 have e1:(((n:Int) == 1)||(one c).length == 0)=false:=by
  rw[l1,Bool.or_false,beq_eq_false_iff_ne];lia
 rw[e1,if_neg (by decide),aJ7];show (((List.replicate n (#[c]:Array Nat)).foldl (· ++ ·) #[]).toList)=_;have key:∀ (m:Nat) (acc:Array Nat),((List.replicate m (#[c]:Array Nat)).foldl (· ++ ·) acc).toList=acc.toList++List.replicate m c:=by
  intro m
  induction m with
  | zero=>intro acc;simp
  | succ m ih=>intro acc;rw[aK9,List.foldl_cons,ih,aK9];simp
 rw[key];exact List.nil_append _
theorem CN {f:Nat->Str}{m:Nat}(h:∀ i j,i<j->j<m->f i≠f j):((List.range m).map f).Nodup:=by
 unfold List.Nodup;rw[List.pairwise_map];refine List.Pairwise.imp_of_mem (R:=(· < ·)) ?_ List.pairwise_lt_range;intro a b ha hb hab;exact h a b hab (aIp.mp hb)
theorem ZV:(List.range 8).all (fun t=>(List.range 6).all fun j=>jF (nm0 t j)&&(List.range j).all fun i=>!(nm0 t i == nm0 t j))=true:=by decide +kernel
theorem ZW:(List.range 8).all (fun t=>(List.range 6).all fun j=>(List.range j).all fun i=>!((t+3*i)%8 == (t+3*j)%8))=true:=by decide +kernel
theorem ZX:(List.range 26).all (fun s=>(List.range 6).all fun j=>(List.range j).all fun i=>!((s+5*i)%26 == (s+5*j)%26))=true:=by decide +kernel
theorem jX {n:Nat}{p:Nat->Bool}(h:(List.range n).all p=true) {i:Nat}(hi:i<n):p i=true:=aIo.mp h i (aIp.mpr hi)
theorem ok0 {t m:Nat}(ht:t<8) (hm:m<=6):eP ((List.range m).map (nm0 t)):=by
 have A:∀ j,j<m->jF (nm0 t j)=true/\∀ i,i<j->nm0 t i≠nm0 t j:=fun j hj=>by
  have:=jX (jX ZV ht) (show j<6 by lia);rw[aIw] at this;exact⟨this.1,fun i hi e=>by have:=jX this.2 hi;rw[e] at this;simp at this⟩
 refine⟨CN fun i j hij hj=>(A j hj).2 i hij,fun w hw=>?_⟩;obtain⟨j,hj,rfl⟩:=aK4.mp hw;exact (A j (aIp.mp hj)).1
theorem ok1 {t s m:Nat}(ht:t<8) (hs:s<26) (hm:m<=6):eP ((List.range m).map (nm1 t s)):=by
 refine⟨CN fun i j hij hj e=>?_,fun w hw=>?_⟩
 ·have:=jX (jX (jX ZW ht) (show j<6 by lia)) hij
  have l:=congrArg (fun w=>(chL w).length) e;simp only[nm1,rY,aJt] at l;have:(t+3*i)%8=(t+3*j)%8:=by lia
  simp_all
 ·obtain⟨j,hj,rfl⟩:=aK4.mp hw
  unfold jF;simp only[aIw,decide_eq_true_eq,aIo,<- jA,nm1,rY,aJt];refine⟨⟨by lia,by lia⟩,fun c hc=>?_⟩;have:=List.eq_of_mem_replicate hc;lia
theorem ok2 {t s f m:Nat}(ht:t<8) (hs:s<26) (hf:f<26) (hm:m<=6):eP ((List.range m).map (nm2 t s f)):=by
 refine⟨CN fun i j hij hj e=>?_,fun w hw=>?_⟩
 ·have:=jX (jX (jX ZX hs) (show j<6 by lia)) hij
  have l:=congrArg (fun w=>(chL w)[t]?) e;simp only[nm2,rY] at l;rw[List.getElem?_append_left (by simp),List.getElem?_append_right (by simp),List.getElem?_append_left (by simp),List.getElem?_append_right (by simp)] at l;simp at l
  simp_all
 ·obtain⟨j,hj,rfl⟩:=aK4.mp hw
  unfold jF;simp only[aIw,decide_eq_true_eq,aIo,<- jA,nm2,rY,aJn,aJt,aJu];refine⟨⟨by lia,by lia⟩,fun c hc=>?_⟩;have hl:(s+5*j)%26<26:=Nat.mod_lt _ (by decide);rcases aK1.mp hc with hc | hc
  ·rcases aK1.mp hc with hc | hc
   ·have:=List.eq_of_mem_replicate hc
    lia
   ·have:=aK7.mp hc
    lia
  ·have:=List.eq_of_mem_replicate hc
   lia
theorem BU {z:Str}(hz:z.cps.toList=ltr) {k:Nat}(h:k<26):eK (.str z) (.int (k:Int))=some (.str (one (97+k))):=by
 have e:z.cps[((k:Nat):Int).toNat]?=some (97+k):=by
  rw[aJ7,<- Array.getElem?_toList,hz];unfold ltr;rw[aJk,List.getElem?_range h]
  rfl
 unfold eK;dsimp only;rw[if_pos ⟨by lia,by lia⟩,e]
 rfl
theorem ZZ {t m:Nat}:bC aO uF [none,some (.lst (tW wdL)),some (.int (t:Int))] (G.rangeT 0 m)=some ((List.range m).map fun j=>T.str (nm0 t j)):=by
 refine wH _ fun j hj=>?_;have a:cA (.int (t:Int)) (.int (0+(j:Int)))=some (.int ((t+j:Nat):Int)):=by rw[oAdd_int];congr 2;lia
 have md:aR (.int ((t+j:Nat):Int)) (.int 8)=some (.int (((t+j)%8:Nat):Int)):=CW _ (b:=8) (by decide);have ix:atI (tW wdL) (((t+j)%8:Nat):Int)=some (.str (nm0 t j)):=by
  have hl:(t+j)%8<wdL.length:=Nat.mod_lt _ (by decide);refine atI_nat ?_;unfold tW nm0;rw[aJk,aIk hl,aIj,aIk hl]
  rfl
 have g:aV (.str (nm0 t j))=some (.str (nm0 t j)):=rfl;unfold uF;simp only[f1_at,f2_at,fC_at,fVar_at,List.set,zz0,zz1,jn,zz2,a,md,oIx_lst,ix,g]
theorem gK {a b:Rho->Option T}{o:T->T->Option T}{ρ:Rho}{x y:T}(ha:a ρ=some x) (hb:b ρ=some y):f2 a b o ρ=o x y:=by
 rw[f2_at,ha,hb];rfl
theorem aA0 {z:Str}(hz:z.cps.toList=ltr) {t s m:Nat}(s26:s<26):bC aO yK [none,some (.str z),some (.int (s:Int)),some (.int (t:Int))] (G.rangeT 0 m)=some ((List.range m).map fun j=>T.str (nm1 t s j)):=by
 refine wH _ fun j hj=>?_;have a1:eM (.int 3) (.int (0+(j:Int)))=some (.int ((3*j:Nat):Int)):=by rw[KY (by decide)];congr 2;lia
 have a2:cA (.int (t:Int)) (.int ((3*j:Nat):Int))=some (.int ((t+3*j:Nat):Int)):=by rw[oAdd_int];congr 2
 have md:aR (.int ((t+3*j:Nat):Int)) (.int 8)=some (.int (((t+3*j)%8:Nat):Int)):=CW _ (b:=8) (by decide);have a3:cA (.int 1) (.int (((t+3*j)%8:Nat):Int))=some (.int ((1+(t+3*j)%8:Nat):Int)):=by rw[oAdd_int];congr 2
 have hl:(t+3*j)%8<8:=Nat.mod_lt _ (by decide);have B:(f2 (fC (.int 1)) (f2 (f2 (aA 3) (f2 (fC (.int 3)) (aA 0) eM) cA) (fC (.int 8)) aR) cA) [some (.int (0+(j:Int))),some (.str z),some (.int (s:Int)),some (.int (t:Int))]=some (.int ((1+(t+3*j)%8:Nat):Int)):=by
  simp only[f2_at,fC_at,fVar_at,zz0,zz1,jn,zz2,a1,a2,md,a3]
 exact (gK ((gK (a:=aA 1) (b:=aA 2) (o:=eK) rfl rfl).trans (BU hz s26)) B).trans (CM _ _ (by lia))
theorem aA1 {z:Str}(hz:z.cps.toList=ltr) {t s f m:Nat}(t8:t<8) (s26:s<26) (f26:f<26):bC aO yL [none,some (.str (one (97+f))),some (.int (t:Int)),some (.str z),some (.int (s:Int))] (G.rangeT 0 m)=some ((List.range m).map fun j=>T.str (nm2 t s f j)):=by
 refine wH _ fun j hj=>?_;have a1:eM (.int 5) (.int (0+(j:Int)))=some (.int ((5*j:Nat):Int)):=by rw[KY (by decide)];congr 2;lia
 have a2:cA (.int (s:Int)) (.int ((5*j:Nat):Int))=some (.int ((s+5*j:Nat):Int)):=by rw[oAdd_int];congr 2
 have md:aR (.int ((s+5*j:Nat):Int)) (.int 26)=some (.int (((s+5*j)%26:Nat):Int)):=CW _ (b:=26) (by decide);have a3:kK (.int 7) (.int (t:Int))=some (.int ((7-t:Nat):Int)):=by rw[oSub_int];congr 2;lia
 have hl:(s+5*j)%26<26:=Nat.mod_lt _ (by decide);have j1:bS (.str ⟨(List.replicate t (97+f)).toArray⟩) (.str (one (97+(s+5*j)%26)))=some (.str ⟨(List.replicate t (97+f)++[97+(s+5*j)%26]).toArray⟩):=by
  show (if _ then _ else none)=_;rw[if_pos (by rw[<- jA,<- jA];show (List.replicate t (97+f)).length+1<=cap;rw[aJt];unfold cap;lia)]
  congr 2
  apply jZ
  rw[jY];rfl
 have j2:bS (.str ⟨(List.replicate t (97+f)++[97+(s+5*j)%26]).toArray⟩) (.str ⟨(List.replicate (7-t) (97+f)).toArray⟩)=some (.str (nm2 t s f j)):=by
  show (if _ then _ else none)=_;rw[if_pos (by rw[<- jA,<- jA];show (List.replicate t (97+f)++[97+(s+5*j)%26]).length+(List.replicate (7-t) (97+f)).length<=cap;simp only[aJn,aJt,aJu];unfold cap;lia)]
  congr 2
  apply jZ
  rw[jY];rfl
 have A0:(f2 (aA 1) (aA 2) jI) [some (.int (0+(j:Int))),some (.str (one (97+f))),some (.int (t:Int)),some (.str z),some (.int (s:Int))]=some (.str ⟨(List.replicate t (97+f)).toArray⟩):=(gK (a:=aA 1) (b:=aA 2) (o:=jI) rfl rfl).trans (CM _ _ (by lia));have A1:(f2 (f2 (aA 4) (f2 (fC (.int 5)) (aA 0) eM) cA) (fC (.int 26)) aR) [some (.int (0+(j:Int))),some (.str (one (97+f))),some (.int (t:Int)),some (.str z),some (.int (s:Int))]=some (.int (((s+5*j)%26:Nat):Int)):=by
  simp only[f2_at,fC_at,fVar_at,zz0,zz1,jn,zz2,a1,a2,md]
 have A2:(f2 (aA 1) (f2 (fC (.int 7)) (aA 2) kK) jI) [some (.int (0+(j:Int))),some (.str (one (97+f))),some (.int (t:Int)),some (.str z),some (.int (s:Int))]=some (.str ⟨(List.replicate (7-t) (97+f)).toArray⟩):=(gK (a:=aA 1) (o:=jI) rfl ((gK (a:=fC (.int 7)) (b:=aA 2) rfl rfl).trans a3)).trans (CM _ _ (by lia));exact (gK ((gK A0 ((gK (a:=aA 3) (o:=eK) rfl A1).trans (BU hz hl))).trans j1) A2).trans j2
def nmT:Rho->Option Out:=aJ (aS 6 (f2 (aA 3) (f2 (f2 (aA 0) (fC (.int 624)) bG) (fC (.int 26)) aR) eK)) (aT (bA (dE (aD (aA 1) aE) dF) [none,some 6,some 4,some 3,some 5] aO yL))
theorem ZU {z:Str}(hz:z.cps.toList=ltr) {c:Int}{t s f m:Nat}(t8:t<8) (s26:s<26) (f26:f<26) (h6:m<=6) (hf:c / 624%26=(f:Int)) (w:Option T):nmT [some (.int c),some (.int (m:Int)),w,some (.str z),some (.int (t:Int)),some (.int (s:Int)),none]=some (.rt (.lst (tW ((List.range m).map (nm2 t s f))))):=by
 have d624:bG (.int c) (.int 624)=some (.int (c / 624)):=fV (by decide) (by decide);have m27:aR (.int (c / 624)) (.int 26)=some (.int (f:Int)):=by rw[<- hf];exact cZ (by decide)
 have A:(f2 (aA 3) (f2 (f2 (aA 0) (fC (.int 624)) bG) (fC (.int 26)) aR) eK) [some (.int c),some (.int (m:Int)),w,some (.str z),some (.int (t:Int)),some (.int (s:Int)),none]=some (.str (one (97+f))):=
  (gK (a:=aA 3) (o:=eK) rfl ((gK (b:=fC (.int 26)) ((gK (a:=aA 0) (b:=fC (.int 624)) rfl rfl).trans d624) rfl).trans m27)).trans (BU hz f26)
 have hr:=jJ m (by lia);have e3:=aA1 hz (m:=m) t8 s26 f26;have tw:((List.range m).map fun j=>T.str (nm2 t s f j))=tW ((List.range m).map (nm2 t s f)):=by unfold tW;rw[aJz];rfl
 have hcm:(tW ((List.range m).map (nm2 t s f))).length<=cap:=by unfold tW;rw[aJq,aJq,aJs];unfold cap;lia
 unfold nmT;rw[rSeq_at,rSet_at,A];simp only[rRet_at,fVar_at,fComp_at,fRange_at,aCons_at,aNil_at,List.set,zz0,zz1,jn,zz2,zz3,hr,bK,aJy,aK0,aKp,e3,hcm,if_true,tw]
theorem ZY:uE=aJ (aS 2 (cG (aD (fC (.str "hands")) (aD (fC (.str "table")) (aD (fC (.str "group")) (aD (fC (.str "each")) (aD (fC (.str "cover")) (aD (fC (.str "cut")) (aD (fC (.str "steps")) (aD (fC (.str "ask")) aE))))))))))
  (aJ (aS 3 (fC (.str "abcdefghijklmnopqrstuvwxyz")))
  (aJ (aS 4 (f2 (f2 (aA 0) (fC (.int 3)) bG) (fC (.int 8)) aR))
  (aJ (rIf (fB (f2 (f2 (aA 0) (fC (.int 3)) aR) (fC (.int 0)) oEq)) (aT (bA (dE (aD (aA 1) aE) dF) [none,some 2,some 4] aO uF)) bE)
  (aJ (aS 5 (f2 (f2 (aA 0) (fC (.int 24)) bG) (fC (.int 26)) aR))
  (aJ (rIf (fB (f2 (f2 (aA 0) (fC (.int 3)) aR) (fC (.int 1)) oEq)) (aT (bA (dE (aD (aA 1) aE) dF) [none,some 3,some 5,some 4] aO yK)) bE)
  nmT))))):=rfl
theorem QW (c:Int) {m:Nat}(h6:m<=6):∃ ws:List Str,kU [.int c,.int (m:Int)]=some (.lst (tW ws))/\ws.length=m/\eP ws:=by
 have d3:bG (.int c) (.int 3)=some (.int (c / 3)):=fV (by decide) (by decide);have d24:bG (.int c) (.int 24)=some (.int (c / 24)):=fV (by decide) (by decide);have m3:aR (.int c) (.int 3)=some (.int (c%3)):=cZ (by decide);have m8:aR (.int (c / 3)) (.int 8)=some (.int (c / 3%8)):=cZ (by decide);have m26:aR (.int (c / 24)) (.int 26)=some (.int (c / 24%26)):=cZ (by decide);obtain⟨t,ht,t8⟩:∃ t:Nat,c / 3%8=(t:Int)/\t<8:=⟨(c / 3%8).toNat,by lia,by lia⟩;obtain⟨s,hs,s26⟩:∃ s:Nat,c / 24%26=(s:Int)/\s<26:=⟨(c / 24%26).toNat,by lia,by lia⟩;obtain⟨f,hf,f26⟩:∃ f:Nat,c / 624%26=(f:Int)/\f<26:=⟨(c / 624%26).toNat,by lia,by lia⟩;rw[ht] at m8;rw[hs] at m26;have c8:(8:Nat)<=cap:=by decide
 have hr:=jJ m (by lia);have hcm:∀ g:Nat->Str,(tW ((List.range m).map g)).length<=cap:=fun g=>by unfold tW;rw[aJq,aJq,aJs];unfold cap;lia
 have tw:∀ g:Nat->Str,((List.range m).map fun j=>T.str (g j))=tW ((List.range m).map g):=fun g=>by unfold tW;rw[aJz];rfl
 have eq0:oEq (.int (c%3)) (.int 0)=some (.bl (c%3 == 0)):=rfl;have eq1:oEq (.int (c%3)) (.int 1)=some (.bl (c%3 == 1)):=rfl;rw[OY];rw[ZY];have hz:=KJ;generalize Str.ofString "abcdefghijklmnopqrstuvwxyz" = z at hz ⊢
 by_cases h0:c%3=0
 ·have e1:=ZZ (t:=t) (m:=m)
  have wd:some (T.lst (tW wdL))=some (T.lst [.str "hands",.str "table",.str "group",.str "each",.str "cover",.str "cut",.str "steps",.str "ask"]):=rfl;refine⟨_,?_,?_,ok0 t8 h6⟩
  ·have b0:(c%3 == 0)=true:=by rw[h0];rfl
   rw[rSeq_at];simp only[rSet_at,fLst_at,aCons_at,aNil_at,fC_at,zz2,zz3,aJo,aJr,c8,if_true,List.set];rw[<- wd];simp only[rSeq_at,rSet_at,rIf_at,rRet_at,fB_at,f2_at,fC_at,fVar_at,fComp_at,fRange_at,aCons_at,aNil_at,List.set,zz0,zz1,jn,zz2,zz3,d3,m8,m3,eq0,b0,isB_bl,if_true,hr,bK,aJy,aK0,aKp,e1,hcm,outT_rt,tw]
  ·simp
 have b0:(c%3 == 0)=false:=by rw[beq_eq_false_iff_ne];exact h0
 by_cases h1:c%3=1
 ·have b1:(c%3 == 1)=true:=by rw[h1];rfl
  have e2:=aA0 hz (t:=t) (m:=m) s26;refine⟨_,?_,?_,ok1 t8 s26 h6⟩
  ·simp only[rSeq_at,rSet_at,rIf_at,rRet_at,rNext_at,fB_at,f2_at,fC_at,fVar_at,fLst_at,fComp_at,fRange_at,aCons_at,aNil_at,List.set,zz0,zz1,jn,zz2,zz3,aJo,aJr,c8,d3,m8,m3,d24,m26,eq0,eq1,b0,b1,isB_bl,aJ0,if_false,if_true,hr,bK,aJy,aK0,aKp,e2,hcm,outT_rt,tw]
  ·simp
 have b1:(c%3 == 1)=false:=by rw[beq_eq_false_iff_ne];exact h1
 have e3:=ZU hz (c:=c) (m:=m) t8 s26 f26 h6 hf;refine⟨_,?_,?_,ok2 t8 s26 f26 h6⟩
 ·simp only[rSeq_at,rSet_at,rIf_at,rRet_at,rNext_at,fB_at,f2_at,fC_at,fVar_at,fLst_at,fComp_at,fRange_at,aCons_at,aNil_at,List.set,zz0,zz1,jn,zz2,zz3,aJo,aJr,c8,d3,m8,m3,d24,m26,eq0,eq1,b0,b1,isB_bl,aJ0,if_false,if_true,hr,bK,aJy,aK0,aKp,e3,outT_rt]
 ·simp
theorem FD {w:Str}(h:jF w=true):dL [.str w]=some (.bl true):=by
 obtain⟨h1,h8,hc⟩:=sV h;have hcp:w.length<=cap:=by unfold cap;lia
 have lS:=KU hcp;have ci:bC aO DV [none] (G.signs w)=some ((chL w).map fun _=>T.bl true):=by
  unfold G.signs;rw[AH (fun _=>T.bl true),aJz]
  ·rfl
  ·intro t ht
   obtain⟨c,hc',rfl⟩:=aK4.mp ht;have:=hc c hc';have e:nR ⟨#[c]⟩ (Str.ofString "abcdefghijklmnopqrstuvwxyz")=true:=by
    have:=StrLaws.found_one (Str.ofString "abcdefghijklmnopqrstuvwxyz") c;rw[show nR ⟨#[c]⟩ (Str.ofString "abcdefghijklmnopqrstuvwxyz")=_ from this]
    apply decide_eq_true
    rw[KJ];unfold ltr;exact aK4.mpr ⟨c-97,aIp.mpr (by lia),by lia⟩
   show some (T.bl (nR ⟨#[c]⟩ (Str.ofString "abcdefghijklmnopqrstuvwxyz")))=_;rw[e]
 have ab:jH [.lst ((chL w).map fun _=>T.bl true)]=some (.bl true):=by
  have:G.allB ((chL w).map fun _=>T.bl true)=some ((chL w).map fun _=>true):=by
   induction (chL w) with
   | nil=>rfl
   | cons a r ih=>simp only[aJy,G.allB,ih];rfl
  show (G.allB _).map _=_;rw[this];simp
 have lm:((chL w).map fun _=>T.bl true).length<=cap:=by rw[aJq,jA];exact hcp
 have tk:bK [none] [some (T.str w)]=[none]:=rfl;have q1:oGe (.int (w.length:Int)) (.int 1)=some (.bl true):=by rw[oGe_int,decide_eq_true (by lia)]
 have q2:oLe (.int (w.length:Int)) (.int 8)=some (.bl true):=by rw[oLe_int,decide_eq_true (by lia)]
 rw[QK];unfold vI;simp only[rRet_at,f1_at,vAnd_at,f2_at,fC_at,fCall_at,aCons_at,aNil_at,fVar_at,fComp_at,fStr_at,tk,ci,lm,ab,zz0,jn,zz2,zz3,lS,q1,q2,isB_bl,if_true,gScal_bl,outT_rt]
def qU (g:Nat):List Int:=((List.range 6).filter fun h=>g / 2^h%2 == 1).map fun (h:Nat)=>(h:Int)
theorem XB:(List.range 64).all (fun k=>DX (fD [.int (k:Int)]) (some (.lst (tI (qU k)))))=true:=by decide +kernel
theorem FB {g:Nat}(h:g<64):fD [.int (g:Int)]=some (.lst (tI (qU g))):=NC (aIo.mp XB g (aIp.mpr h))
theorem kM {n:Nat}(h:n<=6):2^n<=64:=aKf (Nat.pow_le_pow_right (by decide) h) (by decide:2^6<=64)
theorem GH {a b n:Nat}(h:a<2^n):a&&&b<2^n:=Nat.lt_of_le_of_lt Nat.and_le_left h
def wX (row:List Int) (g:Nat):Int:=(((List.range row.length).filter fun k=>g / 2^k%2 == 1).map fun k=>row.getD k 0).sum
theorem XD:(List.range 7).all (fun n=>(List.range (2^n)).all fun g=>decide (qU g=((List.range n).filter fun k=>g / 2^k%2 == 1).map fun (k:Nat)=>(k:Int)))=true:=by decide +kernel
theorem XC {n g:Nat}(hn:n<=6) (hg:g<2^n):qU g=((List.range n).filter fun k=>g / 2^k%2 == 1).map fun (k:Nat)=>(k:Int):=
 of_decide_eq_true (aIo.mp (aIo.mp XD n (aIp.mpr (by lia))) g (aIp.mpr hg))
theorem LX {n:Nat}(h:n<=6):2^n<=64:=aKf (Nat.pow_le_pow_right (by decide) h) (by decide:2^6<=64)
theorem RB {row:List Int}(h6:row.length<=6) {g:Nat}(hg:g<2^row.length):nC [.lst (tI row),.int (g:Int)]=some (.int (wX row g)):=by
 have h64:=LX h6;have e:bC aO zE [none,some (.lst (tI row))] (tI (qU g))=some (tI (((List.range row.length).filter fun k=>g / 2^k%2 == 1).map fun k=>row.getD k 0)):=by
  rw[XC h6 hg];have:(((List.range row.length).filter fun k=>g / 2^k%2 == 1).map fun k=>row.getD k 0)=(((List.range row.length).filter fun k=>g / 2^k%2 == 1).map fun (k:Nat)=>(k:Int)).map fun i=>row.getD i.toNat 0:=by
   simp
  rw[this];refine SV _ fun i hi=>?_;obtain⟨k,hk,rfl⟩:=aK4.mp hi;have hk':=aIp.mp (List.mem_filter.mp hk).1;unfold zE;simp only[f1_at,f2_at,fVar_at,List.set,zz0,zz1,jn,zz2,oIx_lst,qK hk',gScal_int,aJ7]
 have hc:(((List.range row.length).filter fun k=>g / 2^k%2 == 1).map fun k=>row.getD k 0).length<=cap:=by
  rw[aJq];have:=List.length_filter_le (fun k=>g / 2^k%2 == 1) (List.range row.length);rw[aJs] at this;unfold cap;lia
 rw[RA];unfold vP wX;simp only[rRet_at,fCall_at,aCons_at,aNil_at,fComp_at,fFL_at,fVar_at,zz0,zz1,jn,zz2,zz3,FB (show g<64 by lia),jE,bK,List.map,aKp,e,tI_length,hc,if_true,tL,outT_rt]
def mO (row:List Int):List Int:=(List.range (2^row.length)).map (wX row)
theorem MX (row:List Int):(mO row).length=2^row.length:=by simp[mO]
theorem FI {row:List Int}(h6:row.length<=6):gI [.lst (tI row)]=some (.lst (tI (mO row))):=by
 have h64:=LX h6;have e:bC aO zF [none,some (.lst (tI row))] (G.rangeT 0 (2^row.length))=some (tI (mO row)):=by
  refine qN _ fun g hg=>?_;unfold zF;simp only[f1_at,fCall_at,aCons_at,aNil_at,fVar_at,List.set,zz0,zz1,jn,zz2,RB h6 hg,gScal_int]
 have sh:=fW (b:=row.length) (by lia);have hr:=jJ (2^row.length) (by lia);have hc:(mO row).length<=cap:=by rw[MX];unfold cap;lia
 rw[RC];unfold vQ;simp only[rRet_at,fCall_at,aCons_at,aNil_at,f2_at,fC_at,fComp_at,fRange_at,fVar_at,zz0,zz1,jn,zz2,zz3,oLen_lst,tI_length,sh,hr,bK,List.map,aKp,e,hc,if_true,outT_rt]
theorem RF {t:List Int}{n a b:Nat}(hl:t.length=2^n) (ha:a<2^n) (hb:b<2^n):nE [.lst (tI t),.int (a:Int),.int (b:Int)]=some (.bl (decide (t.getD a 0+t.getD b 0<t.getD (a|||b) 0+t.getD (a&&&b) 0))):=by
 have e1:atI (tI t) (a:Int)=some (.int (t.getD a 0)):=qK (by lia);have e2:atI (tI t) (b:Int)=some (.int (t.getD b 0)):=qK (by lia);have e3:atI (tI t) ((a|||b:Nat):Int)=some (.int (t.getD (a|||b) 0)):=qK (by rw[hl];exact Nat.or_lt_two_pow ha hb);have e4:atI (tI t) ((a&&&b:Nat):Int)=some (.int (t.getD (a&&&b) 0)):=qK (by rw[hl];exact GH ha);rw[RE];unfold vS;simp only[rRet_at,f2_at,fVar_at,zz0,zz1,jn,zz2,zz3,oIx_lst,e1,e2,oAdd_int,oOr_int,AE,e3,oAnd_int,AD,e4,oLt_int,outT_rt]
abbrev Tri:=Nat × Nat × Nat
def trT (x:Tri):T:=.tup [.int (x.1:Int),.int (x.2.1:Int),.int (x.2.2:Int)]
def bH (n S:Nat):List Nat:=(List.range 6).filter fun h=>(2^n-1-S) / 2^h%2 == 1
theorem XE (n S:Nat):qU (2^n-1-S)=(bH n S).map fun (h:Nat)=>(h:Int):=rfl
def brk (t:List Int) (x:Tri):Bool:=decide (t.getD (x.1|||2^x.2.1) 0+t.getD (x.1|||2^x.2.2) 0<t.getD ((x.1|||2^x.2.1)|||(x.1|||2^x.2.2)) 0+t.getD ((x.1|||2^x.2.1)&&&(x.1|||2^x.2.2)) 0)
def qL (n S:Nat):List Tri:=(List.range (bH n S).length).flatMap fun p=>((bH n S).drop (p+1)).map fun j=>(S,(bH n S).getD p 0,j)
def hG (n:Nat):List Tri:=(List.range (2^n)).flatMap (qL n)
theorem OL:(List.range 7).all (fun n=>(List.range (2^n)).all fun S=>(bH n S).all (fun i=>decide (S|||2^i<2^n)&&decide (i<6))&&(qL n S).all (fun x=>decide (x.1|||2^x.2.1<2^n)&&decide (x.1|||2^x.2.2<2^n)&&(((x.1|||2^x.2.1)&&&(x.1|||2^x.2.2)) == x.1)&&(((x.1|||2^x.2.1)|||(x.1|||2^x.2.2)) == x.1|||(2^x.2.1|||2^x.2.2))))=true:=by decide +kernel
theorem LJ {n S i:Nat}(hn:n<=6) (hS:S<2^n) (hi:i∈bH n S):S|||2^i<2^n/\i<6:=by
 have a:=aIo.mp (aIo.mp OL n (aIp.mpr (by lia))) S (aIp.mpr hS);rw[aIw] at a;have b:=aIo.mp a.1 i hi
 simpa using b
theorem PY (t:List Int):mU [.lst (tI t)]=some (.int ((t.length:Int)-1)):=by
 rw[PX];simp[uV]
theorem aGi:(List.range 7).all (fun n=>(List.range (2^n)).all fun g=>Builtin.bitXor ((2^n:Nat)-1:Int) (g:Int) == ((2^n-1-g:Nat):Int))=true:=by decide +kernel
theorem aGj {n g:Nat}(hn:n<=6) (hg:g<2^n):Builtin.bitXor (((2^n:Nat):Int)-1) (g:Int)=((2^n-1-g:Nat):Int):=
 eq_of_beq (aIo.mp (aIo.mp aGi n (aIp.mpr (by lia))) g (aIp.mpr hg))
def nH (t:List Int) (n S:Nat):Option T:=((qL n S).find? (brk t)).map trT
theorem PJ {n S:Nat}(hn:n<=6) (hS:S<2^n) {t:List Int}(hl:t.length=2^n):mQ [.lst (tI t),.int (S:Int)]=some ((nH t n S).getD .non):=by
 have h64:=kM hn;have fh:=FB (g:=2^n-1-S) (by lia);rw[XE] at fh;have hol:(bH n S).length<=6:=by
  unfold bH;refine aKf (List.length_filter_le _ _) ?_;rw[aJs];exact aKe _
 have hlen:((bH n S).map fun (h:Nat)=>(h:Int)).length=(bH n S).length:=by simp
 have hget:∀ p,((bH n S).map fun (h:Nat)=>(h:Int)).getD p 0=(((bH n S).getD p 0:Nat):Int):=fun p=>by
  simp only[aIj,aJk];cases (bH n S)[p]?<;>rfl
 have main:=IU (js:=[3,4]) (body:=uP) (fun ρ=>∃ x3 x4 x5,ρ=[some (.lst (tI t)),some (.int (S:Int)),some (.lst (tI ((bH n S).map fun (h:Nat)=>(h:Int)))),x3,x4,x5])
  (fun u=>match u with | .tup [.int p,_]=>((bH n S).drop (p.toNat+1)).findSome? (fun j=>if brk t (S,(bH n S).getD p.toNat 0,j) then some (trT (S,(bH n S).getD p.toNat 0,j)) else none) | _=>none)
  (fF 0 (tI ((bH n S).map fun (h:Nat)=>(h:Int)))) (fun u hu ρ hρ=>by
   obtain⟨x3,x4,x5,rfl⟩:=hρ;rw[IF] at hu;obtain⟨p,hp,rfl⟩:=aK4.mp hu;have hp':p<(bH n S).length:=by rw[hlen] at hp;exact aIp.mp hp
   rw[hget];refine⟨_,[some (.lst (tI t)),some (.int (S:Int)),some (.lst (tI ((bH n S).map fun (h:Nat)=>(h:Int)))),some (.int (p:Int)),some (.int (((bH n S).getD p 0:Nat):Int)),x5],rfl,rfl,?_⟩;have hi:(bH n S).getD p 0∈bH n S:=by
    rw[aIj,aIk hp'];exact List.getElem_mem hp'
   obtain⟨oi,oi6⟩:=LJ hn hS hi;simp only[aJ7];generalize (bH n S).getD p 0=i at hi oi oi6;have hsl:cF (tI ((bH n S).map fun (h:Nat)=>(h:Int))) (some ((p:Int)+1)) none none=tI (((bH n S).drop (p+1)).map fun (h:Nat)=>(h:Int)):=by
    rw[zO,rM _ (by lia),<- List.map_drop];rw[show ((p:Int)+1).toNat=p+1 by lia]
   have inner:=AX (j:=5) (body:=rE) (fun ρ=>∃ x5,ρ=[some (.lst (tI t)),some (.int (S:Int)),some (.lst (tI ((bH n S).map fun (h:Nat)=>(h:Int)))),some (.int (p:Int)),some (.int (i:Int)),x5])
    (fun u=>match u with | .int j=>if brk t (S,i,j.toNat) then some (trT (S,i,j.toNat)) else none | _=>none)
    (tI (((bH n S).drop (p+1)).map fun (h:Nat)=>(h:Int))) (fun u hu ρ hρ=>by
     obtain⟨x5,rfl⟩:=hρ;unfold tI at hu;rw[aJz] at hu;obtain⟨j,hj,rfl⟩:=aK4.mp hu;obtain⟨oj,oj6⟩:=LJ hn hS (List.mem_of_mem_drop hj);have s1:=fW (b:=i) (by lia);have s2:=fW (b:=j) (by lia);have tb:=RF hl oi oj;have c3:3<=cap:=by decide
     have run:rE [some (.lst (tI t)),some (.int (S:Int)),some (.lst (tI ((bH n S).map fun (h:Nat)=>(h:Int)))),some (.int (p:Int)),some (.int (i:Int)),some (.int (j:Int))]=if brk t (S,i,j) then some (.rt (trT (S,i,j))) else some (.nx [some (.lst (tI t)),some (.int (S:Int)),some (.lst (tI ((bH n S).map fun (h:Nat)=>(h:Int)))),some (.int (p:Int)),some (.int (i:Int)),some (.int (j:Int))]):=by
      unfold rE brk trT;simp only[rIf_at,rNext_at,rRet_at,fT_at,fTup_at,f1_at,f2_at,fVar_at,fC_at,fCall_at,aCons_at,aNil_at,zz0,zz1,jn,zz2,zz3,s1,s2,oOr_int,AE,tb,truT_bl,gScal_int,aJo,aJr,Nat.zero_add,Nat.reduceAdd,c3,if_true]
     show _\/_;simp only[Function.comp,aJ7,List.set];rw[run];cases hb:brk t (S,i,j) with
     | true=>exact .inr ⟨_,rfl,rfl⟩
     | false=>exact .inl ⟨rfl,_,rfl,_,rfl⟩) [some (.lst (tI t)),some (.int (S:Int)),some (.lst (tI ((bH n S).map fun (h:Nat)=>(h:Int)))),some (.int (p:Int)),some (.int (i:Int)),x5] ⟨_,rfl⟩
   have efs:(tI (((bH n S).drop (p+1)).map fun (h:Nat)=>(h:Int))).findSome? (fun u=>match u with | .int j=>if brk t (S,i,j.toNat) then some (trT (S,i,j.toNat)) else none | _=>none)=((bH n S).drop (p+1)).findSome? (fun j=>if brk t (S,i,j) then some (trT (S,i,j)) else none):=by
    unfold tI;rw[aJz,List.findSome?_map];refine wM fun j _=>?_;simp only[Function.comp,aJ7]
   rw[efs] at inner;have e2:∀ r,dJ 5 rE (tI (((bH n S).drop (p+1)).map fun (h:Nat)=>(h:Int))) [some (.lst (tI t)),some (.int (S:Int)),some (.lst (tI ((bH n S).map fun (h:Nat)=>(h:Int)))),some (.int (p:Int)),some (.int (i:Int)),x5]=r->uP [some (.lst (tI t)),some (.int (S:Int)),some (.lst (tI ((bH n S).map fun (h:Nat)=>(h:Int)))),some (.int (p:Int)),some (.int (i:Int)),x5]=r:=fun r hr=>by
    unfold uP;simp only[rFor_at,fFL_at,fSlice_at,oSome_at,oNone_at,f2_at,fVar_at,fC_at,zz0,zz1,jn,zz2,zz3,oAdd_int,isI_int,reduceCtorEq,if_false,hsl,jE,hr]
   rcases inner with ⟨h1,ρ',h2,x5',rfl⟩ | ⟨r,h1,h2⟩
   ·exact .inl ⟨h1,_,e2 _ h2,_,_,_,rfl⟩
   ·exact .inr ⟨r,h1,e2 _ h2⟩) [some (.lst (tI t)),some (.int (S:Int)),some (.lst (tI ((bH n S).map fun (h:Nat)=>(h:Int)))),none,none,none] ⟨_,_,_,rfl⟩
 have efs:(fF 0 (tI ((bH n S).map fun (h:Nat)=>(h:Int)))).findSome? (fun u=>match u with | .tup [.int p,_]=>((bH n S).drop (p.toNat+1)).findSome? (fun j=>if brk t (S,(bH n S).getD p.toNat 0,j) then some (trT (S,(bH n S).getD p.toNat 0,j)) else none) | _=>none)=nH t n S:=by
  rw[IF,List.findSome?_map,hlen];unfold nH qL;rw[List.find?_flatMap,List.map_findSome?];refine wM fun p _=>?_;simp only[Function.comp,aJ7];rw[IL,List.find?_map,Option.map_map]
  rfl
 rw[efs] at main;have x1:Builtin.bitXor ((t.length:Int)-1) (S:Int)=((2^n-1-S:Nat):Int):=by rw[hl];exact aGj hn hS
 rw[PL];unfold uO;simp only[rSeq_at,rSet_at,rForT_at,rRet_at,fEnum_at,fFL_at,f2_at,fVar_at,fC_at,fCall_at,aCons_at,aNil_at,List.set,zz0,zz1,jn,zz2,zz3,PY,oXor_int,x1,fh,jE];rcases main with ⟨h1,ρ',h2,_⟩ | ⟨r,h1,h2⟩
 ·rw[h1,h2];rfl
 ·rw[h1,h2];rfl
def rX (t:List Int) (n:Nat):Option T:=((hG n).find? (brk t)).map trT
theorem PN {n:Nat}(hn:n<=6) {t:List Int}(hl:t.length=2^n):mR [.lst (tI t)]=some ((rX t n).getD .non):=by
 have h64:=kM hn;have hr:=jJ t.length (by lia);have main:=AX (j:=1) (body:=yO) (fun ρ=>∃ x1 x2,ρ=[some (.lst (tI t)),x1,x2]) (fun u=>match u with | .int S=>nH t n S.toNat | _=>none) (G.rangeT 0 t.length) (fun u hu ρ hρ=>by
  obtain⟨x1,x2,rfl⟩:=hρ;obtain⟨S,hS,rfl⟩:=ZI hu;rw[Int.zero_add];simp only[aJ7,List.set];have fb:=PJ hn (S:=S) (by lia) hl;unfold yO;cases hb:nH t n S with
  | none=>
   rw[hb] at fb;refine .inl ⟨rfl,[some (.lst (tI t)),some (.int (S:Int)),some .non],?_,_,_,rfl⟩;simp only[rSeq_at,rSet_at,rIf_at,rNext_at,fB_at,f1_at,f2_at,fVar_at,fC_at,fCall_at,aCons_at,aNil_at,List.set,zz0,zz1,jn,zz2,zz3,fb,Option.getD_none]
   rfl
  | some r=>
   rw[hb] at fb;have hr3:∃ x:Tri,r=trT x:=by
    unfold nH at hb;cases hf:(qL n S).find? (brk t) with
    | none=>rw[hf] at hb;cases hb
    | some x=>rw[hf] at hb;exact⟨x,(aIi hb).symm⟩
   obtain⟨x,rfl⟩:=hr3;refine .inr ⟨_,rfl,?_⟩;simp only[rSeq_at,rSet_at,rIf_at,rRet_at,fB_at,f1_at,f2_at,fVar_at,fC_at,fCall_at,aCons_at,aNil_at,List.set,zz0,zz1,jn,zz2,zz3,fb,Option.getD_some]
   rfl) [some (.lst (tI t)),none,none] ⟨_,_,rfl⟩
 have efs:(G.rangeT 0 t.length).findSome? (fun u=>match u with | .int S=>nH t n S.toNat | _=>none)=rX t n:=by
  rw[aDd,List.findSome?_map,hl];unfold rX hG;rw[List.find?_flatMap,List.map_findSome?];exact wM fun S _=>by simp only[Function.comp,aJ7];rfl
 rw[efs] at main;rw[PM];unfold uQ;simp only[rSeq_at,rFor_at,rRet_at,fRange_at,fC_at,fVar_at,fCall_at,aCons_at,aNil_at,zz0,jn,zz2,zz3,oLen_lst,tI_length,hr];rcases main with ⟨h1,ρ',h2,_⟩ | ⟨r,h1,h2⟩
 ·rw[h1,h2];rfl
 ·rw[h1,h2];rfl
theorem YD (t:List Int) (n:Nat):oIs ((rX t n).getD .non) .non=some (.bl ((hG n).find? (brk t)).isNone):=by
 unfold rX;cases (hG n).find? (brk t)<;>rfl
theorem PZ {n:Nat}(hn:n<=6) {t:List Int}(hl:t.length=2^n):jV [.lst (tI t)]=some (.bl ((hG n).find? (brk t)).isNone):=by
 rw[QA];unfold uW;simp only[rRet_at,f2_at,fVar_at,fC_at,fCall_at,aCons_at,aNil_at,zz0,jn,zz2,zz3,PN hn hl,YD,outT_rt]
theorem OM {n:Nat}(hn:n<=6) {x:Tri}(hx:x∈hG n):x.1|||2^x.2.1<2^n/\x.1|||2^x.2.2<2^n/\(x.1|||2^x.2.1)&&&(x.1|||2^x.2.2)=x.1/\(x.1|||2^x.2.1)|||(x.1|||2^x.2.2)=x.1|||(2^x.2.1|||2^x.2.2):=by
 unfold hG at hx;obtain⟨S,hS,hb⟩:=List.mem_flatMap.mp hx;have a:=aIo.mp (aIo.mp OL n (aIp.mpr (by lia))) S hS;rw[aIw] at a;have b:=aIo.mp a.2 x hb;rw[aIw,aIw,aIw] at b;obtain⟨⟨⟨b1,b2⟩,b3⟩,b4⟩:=b;exact⟨of_decide_eq_true b1,of_decide_eq_true b2,eq_of_beq b3,eq_of_beq b4⟩
def mea (a b:Nat):Nat:=((List.range 6).filter fun h=>(a ^^^ b) / 2^h%2 == 1).length
def stp (n a b:Nat):Bool:=
 (fun a'=>(a'&&&b == a&&&b)&&(a|||(a'|||b) == a|||b)&&(a&&&(a'|||b) == a')&&decide (a'<2^n)&&decide (mea a' b<mea a b)&&decide (mea a (a'|||b)<mea a b)) ((a&&&b)+((a-(a&&&b))&&&(a-(a&&&b)-1)))
def chk (n a b:Nat):Bool:=
 ((a|||b == b)&&(a&&&b == a))||((a|||b == a)&&(a&&&b == b))||((qL n (a&&&b)).any fun x=>((x.1|||2^x.2.1 == a)&&(x.1|||2^x.2.2 == b))||((x.1|||2^x.2.1 == b)&&(x.1|||2^x.2.2 == a)))||stp n a b||stp n b a
theorem ST:(List.range 7).all (fun n=>(List.range (2^n)).all fun a=>(List.range (2^n)).all fun b=>chk n a b)=true:=by decide +kernel
theorem SU {n a b:Nat}(hn:n<=6) (ha:a<2^n) (hb:b<2^n):chk n a b=true:=
 aIo.mp (aIo.mp (aIo.mp ST n (aIp.mpr (by lia))) a (aIp.mpr ha)) b (aIp.mpr hb)
theorem ZH (a b:Nat):mea a b=mea b a:=by unfold mea;rw[Nat.xor_comm]
theorem glob {n:Nat}(hn:n<=6) {t:List Int}(hno:∀ x∈hG n,brk t x=false):∀ (k a b:Nat),a<2^n->b<2^n->mea a b<=k->t.getD (a|||b) 0+t.getD (a&&&b) 0<=t.getD a 0+t.getD b 0:=by
 have step:∀ (k:Nat),(∀ a b,a<2^n->b<2^n->mea a b<k->t.getD (a|||b) 0+t.getD (a&&&b) 0<=t.getD a 0+t.getD b 0)->∀ a b,a<2^n->b<2^n->mea a b<=k->stp n a b=true->t.getD (a|||b) 0+t.getD (a&&&b) 0<=t.getD a 0+t.getD b 0:=by
  intro k ih a b ha hb hm hs;unfold stp at hs;generalize (a&&&b)+((a-(a&&&b))&&&(a-(a&&&b)-1))=a' at hs;simp only[aIw,beq_iff_eq,decide_eq_true_eq] at hs;obtain⟨⟨⟨⟨⟨h1,h2⟩,h3⟩,h4⟩,h5⟩,h6⟩:=hs;have i1:=ih a' b h4 hb (by lia);have i2:=ih a (a'|||b) ha (Nat.or_lt_two_pow h4 hb) (by lia);rw[h1] at i1;rw[h2,h3] at i2;lia
 intro k
 induction k using Nat.strongRecOn with
 | _ k ih=>
  intro a b ha hb hm;have ih':∀ a b,a<2^n->b<2^n->mea a b<k->t.getD (a|||b) 0+t.getD (a&&&b) 0<=t.getD a 0+t.getD b 0:=fun a b ha hb h=>ih (mea a b) h a b ha hb (aKe _);have c:=SU hn ha hb;unfold chk at c;simp only[Bool.or_eq_true] at c;rcases c with (((c | c) | c) | c) | c
  ·simp only[aIw,beq_iff_eq] at c
   rw[c.1,c.2];lia
  ·simp only[aIw,beq_iff_eq] at c
   rw[c.1,c.2];lia
  ·obtain⟨x,hx,hc⟩:=List.any_eq_true.mp c
   have hxt:x∈hG n:=List.mem_flatMap.mpr ⟨a&&&b,aIp.mpr (GH ha),hx⟩;have hb':=hno x hxt;unfold brk at hb';have hb':=of_decide_eq_false hb';simp only[Bool.or_eq_true,aIw,beq_iff_eq] at hc;rcases hc with ⟨e1,e2⟩ | ⟨e1,e2⟩
   ·rw[e1,e2] at hb';lia
   ·rw[e1,e2,Nat.or_comm,Nat.and_comm] at hb';lia
  ·exact step k ih' a b ha hb hm c
  ·have:=step k ih' b a hb ha (by rw[ZH];exact hm) c
   rw[Nat.or_comm,Nat.and_comm];lia
theorem VA {n:Nat}(h6:n<=6) {t:List Int}(hs:Sub n t):(hG n).find? (brk t)=none:=by
 rw[List.find?_eq_none];intro x hx;obtain⟨h1,h2,h3,h4⟩:=OM h6 hx;have s:=hs _ _ h1 h2;unfold brk;simp only[decide_eq_true_eq];lia
def tN' (ns:List Nat):List Int:=ns.map fun (n:Nat)=>(n:Int)
theorem OD (ns:List Nat):(tN' ns).length=ns.length:=by simp[tN']
theorem aC7:(List.range 64).all (fun a=>(List.range 6).all fun h=>a.testBit h||(a|||2^h == a+2^h))=true:=by decide +kernel
theorem aC6 {a h:Nat}(ha:a<64) (hh:h<6) (hb:a.testBit h=false):a|||2^h=a+2^h:=by
 have:=aIo.mp (aIo.mp aC7 a (aIp.mpr ha)) h (aIp.mpr hh);rw[hb,Bool.false_or] at this;exact eq_of_beq this
abbrev Cov:=Int × Nat
def cvT (p:Cov):List T:=[.int p.1,.int (p.2:Int)]
theorem XR (p:Cov):imL (cvT p)=true:=rfl
theorem IO (ps:List Cov):cC (tP cvT ps)=true:=IS cvT XR ps
theorem EW {n:Nat}(h1:1<=n) (h6:n<=6):eZ [.int (n:Int)]=some .non:=by
 have a:decide ((n:Int)<1)=false:=decide_eq_false (by lia);have b:decide ((6:Int)<(n:Int))=false:=decide_eq_false (by lia);rw[EV];unfold rF;simp only[rIf_at,rNext_at,pOr_at,fB_at,f2_at,fVar_at,fC_at,zz0,jn,zz2,oLt_int,oGt_int,a,b,isB_bl,aJ0,if_false,outT_nx]
theorem EX {w:Int}(h:0<=w):hJ [.int w]=some .non:=by
 have a:decide (w<0)=false:=decide_eq_false (by lia);rw[PV];unfold uU;simp only[rIf_at,rNext_at,fB_at,f2_at,fVar_at,fC_at,zz0,jn,zz2,oLt_int,a,isB_bl,aJ0,if_false,outT_nx]
theorem PQ {n:Nat}(h6:n<=6) {ps:List Cov}(h:∀ p∈ps,0<=p.1/\p.2<2^n):mS [.int (n:Int),.lst (tP cvT ps)]=some .non:=by
 obtain⟨ρ',e,x2,x3,rfl⟩:=AV (js:=[2,3]) (body:=yP) cvT (fun _ ρ=>∃ x2 x3,ρ=[some (.int (n:Int)),some (.lst (tP cvT ps)),x2,x3]) ps [] (fun p hp ys ρ hρ=>by
  obtain⟨x2,x3,rfl⟩:=hρ;obtain⟨h1,h2⟩:=h p hp;have sh:=fW (b:=n) (by lia);have a:decide ((p.2:Int)<0)=false:=decide_eq_false (by lia);have b:decide (((2^n:Nat):Int)<=(p.2:Int))=false:=decide_eq_false (by lia);refine⟨_,_,rfl,?_,some (.int p.1),some (.int (p.2:Int)),rfl⟩;unfold yP;simp only[rSeq_at,rDrop_at,rIf_at,rNext_at,pOr_at,fB_at,f2_at,fVar_at,fC_at,fCall_at,aCons_at,aNil_at,List.set,zz0,zz1,jn,zz2,zz3,EX h1,oLt_int,a,sh,oGe_int,b,isB_bl,aJ0,if_false]) [some (.int (n:Int)),some (.lst (tP cvT ps)),none,none] ⟨none,none,rfl⟩
 rw[PP];unfold uS;simp only[rForT_at,fFL_at,fVar_at,zz0,zz1,jn,zz2,sU (IO ps),e,outT_nx]
theorem IK {α:Type}{c:α->Bool}{ps:List α}(hl:ps.length<=100):(ps.filter c).length<=cap:=aKf (List.length_filter_le _ _) (by unfold cap;lia)
theorem EY {n:Nat}(h1:1<=n) (h6:n<=6) {ps:List Cov}(hl:ps.length<=100) (h:∀ p∈ps,0<=p.1/\p.2<2^n):gF [.int (n:Int),.lst (tP cvT ps)]=some (.lst (tI ((List.range (2^n)).map (eS ps)))):=by
 have h64:=kM h6;have e:bC aO yR [none,some (.lst (tP cvT ps))] (G.rangeT 0 (2^n))=some (tI ((List.range (2^n)).map (eS ps))):=by
  refine qN _ fun g hg=>?_;have e2:eB [0,1] uZ uY [none,none,some (.int (g:Int))] (tP cvT ps)=some (tI ((ps.filter fun p=>p.2&&&g != 0).map fun p=>p.1)):=by
   have:=AG (js:=[0,1]) (p:=uZ) (f:=uY) (ρ:=[none,none,some (.int (g:Int))]) cvT (fun p=>p.2&&&g != 0) (fun p=>T.int p.1) ps (fun p hp=>by
    refine⟨_,rfl,?_,fun _=>?_⟩
    ·unfold uZ
     simp only[fB_at,f2_at,fVar_at,fC_at,List.set,zz0,zz1,jn,zz2,oAnd_int,AD,oNe_int,isB_bl]
     congr 1
     generalize p.2&&&g=z;rw[aIz];simp
    ·unfold uY
     simp only[f1_at,fVar_at,List.set,zz0,jn,zz2,gScal_int])
   rw[this];simp[tI]
  have hc:((ps.filter fun p=>p.2&&&g != 0).map fun p=>p.1).length<=cap:=by rw[aJq];exact IK hl
  unfold yR;simp only[fCall_at,aCons_at,aNil_at,fCompT_at,fFL_at,fVar_at,List.set,zz0,zz1,jn,zz2,sU (IO ps),bK,aJy,aK0,aKp,e2,tI_length,hc,if_true,tL,HI]
 have sh:=fW (b:=n) (by lia);have hr:=jJ (2^n) (by lia);have hc:((List.range (2^n)).map (eS ps)).length<=cap:=by rw[aJq,aJs];unfold cap;lia
 rw[QB];unfold uX;simp only[rSeq_at,rDrop_at,rRet_at,f2_at,fVar_at,fC_at,fCall_at,aCons_at,aNil_at,fComp_at,fRange_at,zz0,zz1,jn,zz2,zz3,EW h1 h6,PQ h6 h,sh,hr,bK,aJy,aK0,aKp,e,tI_length,hc,if_true,outT_rt]
abbrev Cut:=Nat × Nat × Int
def ctT (p:Cut):List T:=[.int (p.1:Int),.int (p.2.1:Int),.int p.2.2]
theorem XQ (p:Cut):imL (ctT p)=true:=rfl
theorem IN (ps:List Cut):cC (tP ctT ps)=true:=IS ctT XQ ps
def rP (n:Nat) (p:Cut):Prop:=p.1<n/\p.2.1<n/\p.1≠p.2.1/\0<=p.2.2
theorem PU {n:Nat}{ps:List Cut}(h:∀ p∈ps,rP n p):mT [.int (n:Int),.lst (tP ctT ps)]=some .non:=by
 obtain⟨ρ',e,x2,x3,x4,rfl⟩:=AV (js:=[2,3,4]) (body:=yQ) ctT (fun _ ρ=>∃ x2 x3 x4,ρ=[some (.int (n:Int)),some (.lst (tP ctT ps)),x2,x3,x4]) ps [] (fun p hp ys ρ hρ=>by
  obtain⟨x2,x3,x4,rfl⟩:=hρ;obtain⟨h1,h2,h3,h4⟩:=h p hp;obtain⟨mi,e1,k1⟩:∃ mi:Int,CV [.int (p.1:Int),.int (p.2.1:Int)]=some (.int mi)/\decide (mi<0)=false:=⟨_,rfl,decide_eq_false (by split<;>lia)⟩
  obtain⟨ma,e2,k2⟩:∃ ma:Int,CU [.int (p.1:Int),.int (p.2.1:Int)]=some (.int ma)/\decide ((n:Int)<=ma)=false:=⟨_,rfl,decide_eq_false (by split<;>lia)⟩
  have k3:(((p.1:Int)) == (p.2.1:Int))=false:=by
   rw[beq_eq_false_iff_ne];lia
  refine⟨_,_,rfl,?_,some (.int (p.1:Int)),some (.int (p.2.1:Int)),some (.int p.2.2),rfl⟩;unfold yQ;simp only[rSeq_at,rDrop_at,rIf_at,rNext_at,pOr_at,fB_at,f2_at,fVar_at,fC_at,fCall_at,aCons_at,aNil_at,List.set,zz0,zz1,jn,zz2,zz3,EX h4,e1,e2,oLt_int,oGe_int,k1,k2,oEq_int,k3,isB_bl,aJ0,if_false]) [some (.int (n:Int)),some (.lst (tP ctT ps)),none,none,none] ⟨none,none,none,rfl⟩
 rw[PR];unfold uT;simp only[rForT_at,fFL_at,fVar_at,zz0,zz1,jn,zz2,sU (IN ps),e,outT_nx]
theorem RH {g k:Nat}:kY [.int ((2^k:Nat):Int),.int (g:Int)]=some (.bl (g.testBit k)):=by
 rw[RG];unfold vT;simp only[rRet_at,f2_at,fVar_at,zz0,zz1,jn,zz2,zz3,oAnd_int,AD,oEq_int,outT_rt];rw[<- aGf]
 congr 2
 generalize 2^k&&&g=z;generalize 2^k=y;rw[aIz];simp;lia
theorem QJ {g:Nat}{p:Cut}{n:Nat}(h6:n<=6) (h:rP n p):mW [.int (g:Int),.int (p.1:Int),.int (p.2.1:Int)]=some (.bl (kA g p)):=by
 obtain⟨h1,h2,_,_⟩:=h;have s1:=fW (b:=p.1) (by lia);have s2:=fW (b:=p.2.1) (by lia);rw[QI];unfold vH kA;simp only[rRet_at,vAnd_at,vNot_at,f1_at,f2_at,fVar_at,fC_at,fCall_at,aCons_at,aNil_at,zz0,zz1,jn,zz2,zz3,s1,s2,RH,isB_bl];cases g.testBit p.1<;>simp
theorem EZ {n:Nat}(h1:1<=n) (h6:n<=6) {ps:List Cut}(hl:ps.length<=100) (h:∀ p∈ps,rP n p):gG [.int (n:Int),.lst (tP ctT ps)]=some (.lst (tI ((List.range (2^n)).map (eU ps)))):=by
 have h64:=kM h6;have e:bC aO yS [none,some (.lst (tP ctT ps))] (G.rangeT 0 (2^n))=some (tI ((List.range (2^n)).map (eU ps))):=by
  refine qN _ fun g hg=>?_;have e2:eB [0,1,2] vC vB [none,none,none,some (.int (g:Int))] (tP ctT ps)=some (tI ((ps.filter fun p=>kA g p).map fun p=>p.2.2)):=by
   have:=AG (js:=[0,1,2]) (p:=vC) (f:=vB) (ρ:=[none,none,none,some (.int (g:Int))]) ctT (fun p=>kA g p) (fun p=>T.int p.2.2) ps (fun p hp=>by
    refine⟨_,rfl,?_,fun _=>?_⟩
    ·unfold vC
     simp only[fT_at,fVar_at,fCall_at,aCons_at,aNil_at,List.set,zz0,zz1,jn,zz2,QJ h6 (h p hp),truT_bl]
    ·unfold vB
     simp only[f1_at,fVar_at,List.set,zz0,zz1,jn,zz2,gScal_int])
   rw[this];simp[tI]
  have hc:((ps.filter fun p=>kA g p).map fun p=>p.2.2).length<=cap:=by rw[aJq];exact IK hl
  unfold yS;simp only[fCall_at,aCons_at,aNil_at,fCompT_at,fFL_at,fVar_at,List.set,zz0,zz1,jn,zz2,sU (IN ps),bK,aJy,aK0,aKp,e2,tI_length,hc,if_true,tL,HK]
 have sh:=fW (b:=n) (by lia);have hr:=jJ (2^n) (by lia);have hc:((List.range (2^n)).map (eU ps)).length<=cap:=by rw[aJq,aJs];unfold cap;lia
 rw[QC];unfold vA;simp only[rSeq_at,rDrop_at,rRet_at,f2_at,fVar_at,fC_at,fCall_at,aCons_at,aNil_at,fComp_at,fRange_at,zz0,zz1,jn,zz2,zz3,EW h1 h6,PU h,sh,hr,bK,aJy,aK0,aKp,e,tI_length,hc,if_true,outT_rt]
def rQ (st:List Int):Prop:=∀ i j,i<=j->j<st.length->st.getD j 0<=st.getD i 0
theorem UW {st:List Int}(h:st.Pairwise (· >= ·)):rQ st:=fun i j hij hj=>by
 by_cases e:i=j
 ·subst e;exact Int.le_refl _
 ·have:=(List.pairwise_iff_getElem.mp h) i j (by lia) hj (by lia)
  rw[aIj,aIj,aIk hj,aIk (show i<st.length by lia)];exact this
def pre (st:List Int) (k:Nat):Int:=(st.take k).sum
theorem LZ {st:List Int}{k:Nat}(h:k<st.length):pre st (k+1)=pre st k+st.getD k 0:=by
 unfold pre;rw[List.take_succ,List.sum_append,aIk h,aIj,aIk h];simp
def jT (st:List Int):List Int:=(List.range (2^st.length)).map fun g=>pre st (dH g)
theorem NX (st:List Int):(jT st).length=2^st.length:=by simp[jT]
theorem zP {st:List Int}{g:Nat}(h:g<2^st.length):(jT st).getD g 0=pre st (dH g):=sY h
theorem ZF:(List.range 64).all (fun k=>DX (mY [.int (k:Int)]) (some (.int (dH k:Int))))=true:=by decide +kernel
theorem QQ {g:Nat}(h:g<64):mY [.int (g:Int)]=some (.int (dH g:Int)):=NC (aIo.mp ZF g (aIp.mpr h))
theorem NY (r0:Option T):∀ (xs ys:List Int) (x1 x2:Option T),(∀ p∈xs.zip ys,p.2<=p.1)->∃ y1 y2,eH [1,2] rG (kS (tI xs) (tI ys)) [r0,x1,x2]=some (.nx [r0,y1,y2])
 | [],_,x1,x2,_=>⟨x1,x2,rfl⟩
 | _::_,[],x1,x2,_=>⟨x1,x2,rfl⟩
 | x::xs,y::ys,x1,x2,h=>by
  obtain⟨y1,y2,e⟩:=NY r0 xs ys (some (.int x)) (some (.int y)) fun p hp=>h p (aIl _ hp);have h0:y<=x:=h (x,y) aIm;have hb:rG [r0,some (.int x),some (.int y)]=some (.nx [r0,some (.int x),some (.int y)]):=by
   have q:decide (x<y)=false:=decide_eq_false (by lia);unfold rG;simp only[rIf_at,rNext_at,fB_at,f2_at,fVar_at,zz0,zz1,jn,zz2,oGt_int,q,isB_bl,aJ0,if_false]
  refine⟨y1,y2,?_⟩;show (setL [r0,x1,x2] [1,2] [.int x,.int y]).bind _=_;show (rG [r0,some (.int x),some (.int y)]).bind _=_;rw[hb];exact e
theorem FJ {st:List Int}(h1:1<=st.length) (h6:st.length<=6) (hd:rQ st):gH [.lst (tI st)]=some (.lst (tI (jT st))):=by
 have h64:=kM h6;have fc:eZ [.int (st.length:Int)]=some .non:=by
  have q1:decide ((st.length:Int)<1)=false:=decide_eq_false (by lia);have q2:decide ((6:Int)<(st.length:Int))=false:=decide_eq_false (by lia);rw[EV];unfold rF;simp only[rIf_at,rNext_at,pOr_at,fB_at,f2_at,fVar_at,fC_at,zz0,jn,zz2,oLt_int,q1,oGt_int,q2,isB_bl,aJ0,if_false,outT_nx]
 have hz:∀ p∈st.zip (st.drop 1),p.2<=p.1:=fun p hp=>by
  obtain⟨i,hi,rfl⟩:=List.mem_iff_getElem.mp hp;rw[List.length_zip,List.length_drop] at hi;have:=hd i (i+1) (by lia) (by lia);rw[aIj,aIj,aIk (show i+1<st.length by lia),aIk (show i<st.length by lia)] at this;have hl':i<(st.drop 1).length:=by rw[List.length_drop];lia
  have hl2:i<st.length:=by lia
  rw[List.getElem_zip];show (st.drop 1)[i]'hl'<=st[i]'hl2;rw[List.getElem_drop]
  simpa [Nat.add_comm] using this
 obtain⟨y1,y2,el⟩:=NY (some (.lst (tI st))) st (st.drop 1) none none hz;have hs1:cF (tI st) (some 1) none none=tI (st.drop 1):=by rw[zO,rM _ (by decide)];rfl
 have sh:=fW (b:=st.length) (by lia);have rr:=jJ (2^st.length) (by lia);have e1:bC aO yT [none,some (.lst (tI st))] (G.rangeT 0 (2^st.length))=some (tI (jT st)):=by
  refine qN _ fun g hg=>?_;have fm:=QQ (g:=g) (by lia);have hs:cF (tI st) none (some (dH g:Int)) none=tI (st.take (dH g)):=by rw[zO,EI _ (by lia)];rfl
  have os:=tL (st.take (dH g));unfold yT;simp only[fSlice_at,oNone_at,oSome_at,fVar_at,fCall_at,aCons_at,aNil_at,List.set,zz0,zz1,jn,zz2,zz3,fm,isI_int,hs,os,reduceCtorEq,if_false,pre]
 have hc:(jT st).length<=cap:=by rw[NX];unfold cap;lia
 rw[QD];unfold vD;simp only[rSeq_at,rDrop_at,rForT_at,rRet_at,fZip_at,fFL_at,fSlice_at,oNone_at,oSome_at,f2_at,fVar_at,fC_at,fCall_at,aCons_at,aNil_at,fComp_at,fRange_at,zz0,zz1,jn,zz2,zz3,oLen_lst,tI_length,fc,jE,isI_int,hs1,reduceCtorEq,if_false,el,sh,rr,bK,aJy,aK0,aKp,e1,hc,if_true,outT_rt]
def eG (a b:List Int):List Int:=List.zipWith (· + ·) a b
theorem PH {a b:List Int}(h:a.length=b.length):mZ [.lst (tI a),.lst (tI b)]=some .non:=by
 rw[QS];unfold vL;simp[h]
theorem zT {a b:List Int}(h:a.length=b.length) (hc:a.length<=1000000):cV [.lst (tI a),.lst (tI b)]=some (.lst (tI (eG a b))):=by
 have e:eB [0,1] aO yN [none,none] (kS (tI a) (tI b))=some (tI (eG a b)):=by
  refine HE _ (fun x y=>?_) a b;unfold yN;simp only[f2_at,fVar_at,List.set,zz0,zz1,jn,zz2,oAdd_int]
 have hc':(eG a b).length<=cap:=by unfold eG;rw[List.length_zipWith];unfold cap;lia
 rw[PF];unfold uN;simp[PH h,jE,bK,e,hc']
theorem LR (l:List Int) (P:Int->Prop) (h:∀ x∈l,P x) {i:Int}(h0:0<=i) (h1:i<l.length):∃ x,P x/\atI (tI l) i=some (.int x):=by
 have:=GJ (xs:=l.map T.int) (i:=i) h0 (by rw[aJq];exact h1);show ∃ x,P x/\atI (l.map T.int) i=some (.int x);rw[this,List.getElem_map];exact⟨_,h _ (List.getElem_mem _),rfl⟩
theorem FE (c:Int):∃ n:Int,gE [.int c]=some (.int n)/\n.natAbs<10^191:=by
 obtain⟨X60,X40,X50,X150,Z,p60,p40,p50,p150,h60,h40,h50,hZ1,hZ2,hZ3,h4060,⟨l300,x10⟩,l600,x150⟩:∃ X60 X40 X50 X150 Z:Int,dP (.int 10) (.int 60)=some (.int X60)/\dP (.int 10) (.int 40)=some (.int X40)/\dP (.int 10) (.int 50)=some (.int X50)/\dP (.int X50) (.int 3)=some (.int X150)/\0<X60/\0<X40/\0<X50/\X60<=Z/\X40*X150+X50<=Z/\Z.natAbs<10^191/\X40<=X60/\(X60.natAbs<2^300/\10<=X60)/\X150.natAbs<2^600/\0<X150:=
  ⟨10^60,10^40,10^50,(10^50)^3,10^190+10^50,tJ 10 60 (by decide +kernel),tJ 10 40 (by decide +kernel),tJ 10 50 (by decide +kernel),tJ (10^50) 3 (by decide +kernel),by decide +kernel⟩
 generalize 10^191=W at *;have d2:bG (.int c) (.int 2)=some (.int (c / 2)):=fV (by decide) (by decide);have d4:bG (.int c) (.int 4)=some (.int (c / 4)):=fV (by decide) (by decide);have m3:aR (.int (c / 4)) (.int 3)=some (.int (c / 4%3)):=cZ (by decide);have m2:aR (.int c) (.int 2)=some (.int (c%2)):=cZ (by decide);have mX:aR (.int (c / 2)) (.int X50)=some (.int (c / 2%X50)):=cZ h50;have c3:(3:Nat)<=cap:=by decide
 obtain⟨n,hn,e⟩:∃ n:Int,0<=n/\n.natAbs<W/\∀ k:Rho->Option Out,(aJ (aS 1 (f2 (f2 (aA 0) (fC (.int 2)) bG) (f2 (cG (aD (fC (.int 10)) (aD (f2 (fC (.int 10)) (fC (.int 60)) dP) (aD (f2 (fC (.int 10)) (fC (.int 40)) dP) aE)))) (f2 (f2 (aA 0) (fC (.int 4)) bG) (fC (.int 3)) aR) oIx) aR))
  (aJ (rIf (fB (f2 (f2 (f2 (aA 0) (fC (.int 4)) bG) (fC (.int 3)) aR) (fC (.int 2)) oEq)) (aS 1 (f2 (f2 (aA 1) (f2 (f2 (fC (.int 10)) (fC (.int 50)) dP) (fC (.int 3)) dP) eM) (f2 (f2 (aA 0) (fC (.int 2)) bG) (f2 (fC (.int 10)) (fC (.int 50)) dP) aR) cA)) bE) k)) [some (.int c),none]=k [some (.int c),some (.int n)]:=by
  have q0:0<=c / 4%3:=by lia
  have q3:c / 4%3<3:=by lia
  have eq2:oEq (.int (c / 4%3)) (.int 2)=some (.bl (c / 4%3 == 2)):=rfl
  by_cases h2:c / 4%3=2
  ·have ix:atI [T.int 10,.int X60,.int X40] (c / 4%3)=some (.int X40):=by rw[h2];rfl
   have mm:aR (.int (c / 2)) (.int X40)=some (.int (c / 2%X40)):=cZ h40;have k0:0<=c / 2%X40:=aJ6 _ (by lia);have k1:c / 2%X40<X40:=aJ5 _ h40;have j0:0<=c / 2%X50:=aJ6 _ (by lia);have j1:c / 2%X50<X50:=aJ5 _ h50;have b2:(c / 4%3 == 2)=true:=by rw[h2];rfl
   generalize c / 2%X40=a at mm k0 k1;generalize c / 2%X50=b at mX j0 j1;have ml:eM (.int a) (.int X150)=some (.int (a*X150)):=xP (ZM 300 600 (Nat.lt_of_le_of_lt (by lia) l300) l600 (by decide) (by decide));have hm1:a*X150<=(X40-1)*X150:=Int.mul_le_mul_of_nonneg_right (by lia) (by lia);have hm2:(X40-1)*X150=X40*X150-X150:=by rw[Int.sub_mul,Int.one_mul]
   have hm0:0<=a*X150:=Int.mul_nonneg k0 (by lia);refine⟨a*X150+b,by lia,by lia,fun k=>?_⟩;simp only[rSeq_at,rSet_at,rIf_at,fB_at,f2_at,fC_at,fVar_at,fLst_at,aCons_at,aNil_at,List.set,zz0,zz1,jn,zz2,zz3,aJo,aJr,c3,if_true,p60,p40,p50,p150,d2,d4,m3,oIx_lst,ix,mm,eq2,b2,isB_bl,ml,mX,oAdd_int]
  ·have b2:(c / 4%3 == 2)=false:=by rw[beq_eq_false_iff_ne];exact h2
   obtain⟨M,⟨hM0,hM1⟩,ix⟩:=LR [10,X60,X40] (fun M=>0<M/\M<=X60) (by
    intro x hx;simp only[aIu,List.not_mem_nil,or_false] at hx;rcases hx with rfl | rfl | rfl<;>lia) q0 (by show _<(3:Int);exact q3)
   have ix:atI [T.int 10,.int X60,.int X40] (c / 4%3)=some (.int M):=ix;have mm:aR (.int (c / 2)) (.int M)=some (.int (c / 2%M)):=cZ hM0;have k0:0<=c / 2%M:=aJ6 _ (by lia);have k1:c / 2%M<M:=aJ5 _ hM0;refine⟨c / 2%M,k0,by lia,fun k=>?_⟩;simp only[rSeq_at,rSet_at,rIf_at,rNext_at,fB_at,f2_at,fC_at,fVar_at,fLst_at,aCons_at,aNil_at,List.set,zz0,zz1,jn,zz2,zz3,aJo,aJr,c3,if_true,p60,p40,d2,d4,m3,oIx_lst,ix,mm,eq2,b2,isB_bl,aJ0,if_false]
 obtain⟨hw,e⟩:=e;have eq1:oEq (.int (c%2)) (.int 1)=some (.bl (c%2 == 1)):=rfl;rw[OZ];unfold uG;rw[e];have ng:tH (.int n)=some (.int (-n)):=rfl;cases hb:(c%2 == 1) with
 | true=>
  rw[hb] at eq1;refine⟨-n,?_,by lia⟩;simp only[rSeq_at,rIf_at,rRet_at,fB_at,f1_at,f2_at,fC_at,fVar_at,zz0,zz1,jn,zz2,zz3,m2,eq1,isB_bl,if_true,ng,outT_rt]
 | false=>
  rw[hb] at eq1;refine⟨n,?_,hw⟩;simp only[rSeq_at,rIf_at,rRet_at,rNext_at,fB_at,f1_at,f2_at,fC_at,fVar_at,zz0,zz1,jn,zz2,zz3,m2,eq1,isB_bl,aJ0,if_false,gScal_int,outT_rt]
theorem XV {α β:Type}(f:α->β) (xs:List α) (i:Int) (y:α):dX (xs.map f) i (f y)=(dX xs i y).map f:=by
 unfold dX;simp[List.map_take,List.map_drop]
theorem XW {α:Type}(xs:List α) (i:Int) (y:α):(dX xs i y).Perm (y::xs):=by
 unfold dX;have:=List.perm_middle (a:=y) (l₁:=xs.take (min i.toNat xs.length)) (l₂:=xs.drop (min i.toNat xs.length))
 rwa [List.take_append_drop] at this
structure Plc (n:Nat) (l:List Nat):Prop where
 nd:l.Nodup
 lt:∀ k∈l,k<n
 len:1<=l.length/\l.length<=n
theorem QN (c:Int) {n:Nat}(h1:1<=n) (h6:n<=6):∃ l:List Nat,kT [.int c,.int (n:Int)]=some (.lst (tI (tN' l)))/\Plc n l:=by
 obtain⟨ρ',hloop,o,x3,rfl,hp⟩:=VD (j:=3) (n:=n) (body:=yJ) (fun i ρ=>∃ (o:List Nat) (x3:Option T),ρ=[some (.int c),some (.int (n:Int)),some (.lst (tI (tN' o))),x3]/\o.Perm (List.range i)) (fun i hi ρ hρ=>by
   obtain⟨o,x3,rfl,hp⟩:=hρ;have hol:o.length=i:=by rw[hp.length_eq,aJs]
   have di:bG (.int c) (.int (3+(i:Int)))=some (.int (c / (3+(i:Int)))):=fV (by lia) (by lia);generalize c / (3+(i:Int))=d at di;have p0:0<=d%((i:Int)+1):=aJ6 _ (by lia);have p1:d%((i:Int)+1)<(i:Int)+1:=aJ5 _ (by lia);have mi:aR (.int d) (.int ((i:Int)+1))=some (.int (d%((i:Int)+1))):=cZ (by lia);generalize d%((i:Int)+1)=q at p0 p1 mi;have hcap:(tI (tN' o)).length<cap/\0<=q/\q<2^63:=⟨by rw[tI_length,OD,hol];unfold cap;lia,p0,by lia⟩;have hins:dX (tI (tN' o)) q (.int (i:Int))=tI (tN' (dX o q i)):=by
    unfold tI tN';rw[aJz,aJz];exact XV (fun (n:Nat)=>T.int (n:Int)) o q i
   refine⟨[some (.int c),some (.int (n:Int)),some (.lst (tI (tN' (dX o q i)))),some (.int (i:Int))],?_,_,_,rfl,?_⟩
   ·unfold yJ
    simp only[rIns_at,f1_at,f2_at,fVar_at,fC_at,List.set,zz0,zz1,jn,zz2,oAdd_int,di,mi,gScal_int,hins];rw[if_pos hcap]
   ·refine (XW o q i).trans ?_
    rw[List.range_succ];exact (List.Perm.cons i hp).trans (List.perm_append_singleton i (List.range i)).symm) [some (.int c),some (.int (n:Int)),some (.lst (tI (tN' []))),none] ⟨[],none,rfl,.refl _⟩
 have hol:o.length=n:=by rw[hp.length_eq,aJs]
 have hr:=jJ n (by lia);have hn:tI (tN' [])=[]:=rfl;rw[hn] at hloop;have z0:(0:Nat)<=cap:=aKo _;have mn:aR (.int c) (.int (n:Int))=some (.int (c%(n:Int))):=cZ (by lia);obtain⟨k,hk,k1,kn⟩:∃ k:Nat,1+c%(n:Int)=(k:Int)/\1<=k/\k<=n:=by
  have a0:0<=c%(n:Int):=aJ6 _ (by lia);have a1:c%(n:Int)<(n:Int):=aJ5 _ (by lia);exact⟨(1+c%(n:Int)).toNat,by lia,by lia,by lia⟩
 have sl:cF (tI (tN' o)) none (some (k:Int)) none=tI (tN' (o.take k)):=by
  rw[zO,EI _ (by lia),aJ7];unfold tN';rw[List.map_take]
 have gf:mD (.lst (tI (tN' (o.take k))))=some (.lst (tI (tN' (o.take k)))):=by
  unfold mD;dsimp only;rw[if_pos (flat_tI' _)]
 refine⟨o.take k,?_,?_⟩
 ·rw[OX]
  unfold uD;simp only[rSeq_at,rSetM_at,rFor_at,rRet_at,f1_at,f2_at,fC_at,fSlice_at,oNone_at,oSome_at,fLst_at,fVar_at,aCons_at,aNil_at,fRange_at,List.set,zz0,zz1,jn,zz2,zz3,aJr,z0,if_true,okM_lst,hr,hloop,mn,oAdd_int,hk,isI_int,sl,reduceCtorEq,if_false,gf,outT_rt]
 ·have ndo:o.Nodup:=hp.nodup_iff.mpr List.nodup_range
  refine⟨ndo.sublist (List.take_sublist _ _),fun j hj=>?_,?_⟩
  ·exact aIp.mp (hp.mem_iff.mp (List.mem_of_mem_take hj))
  ·rw[List.length_take,hol];lia
theorem QP (c:Int) {n:Nat}(h1:1<=n) (h6:n<=6):∃ st:List Int,kW [.int c,.int (n:Int)]=some (.lst (tI st))/\st.length=n/\rQ st/\∀ x∈st,x.natAbs<10^200:=by
 obtain⟨m,em,hm⟩:=FE c;obtain⟨X30,V,p30,x0,hV,hW⟩:∃ (X30:Int) (V:Nat),dP (.int 10) (.int 30)=some (.int X30)/\3<=X30/\10^191<=V/\V+6*X30.natAbs<10^200:=⟨10^30,10^191,tJ 10 30 (by decide +kernel),by decide +kernel,aKe _,by decide +kernel⟩;have hmV:m.natAbs<V:=aIq hm hV
 clear hm hV
 generalize 10^200=U at *;have d5:bG (.int c) (.int 5)=some (.int (c / 5)):=fV (by decide) (by decide);have m3:aR (.int (c / 5)) (.int 3)=some (.int (c / 5%3)):=cZ (by decide);have c3:(3:Nat)<=cap:=by decide
 obtain⟨M,⟨hM0,hM1⟩,ix⟩:=LR [1,3,X30] (fun M=>0<M/\M<=X30) (by
  intro x hx;simp only[aIu,List.not_mem_nil,or_false] at hx;rcases hx with rfl | rfl | rfl<;>lia) (i:=c / 5%3) (by lia) (by show _<(3:Int);lia)
 have ix:atI [T.int 1,.int 3,.int X30] (c / 5%3)=some (.int M):=ix;have ng:tH (.int 1)=some (.int (-1)):=rfl;obtain⟨ρ',e,st,x3,rfl,hl,pw,hb,_⟩:=IV (j:=3) (body:=yM) (fun i ρ=>∃ (st:List Int) (x3:Option T),ρ=[some (.int c),some (.int (n:Int)),some (.lst (tI st)),x3]/\st.length=i+1/\st.Pairwise (· >= ·)/\(∀ x∈st,x.natAbs<=V+i*X30.natAbs)/\(∀ x∈st,st.getD i 0<=x)) (G.rangeT 1 (n-1)) (fun i hi ρ hρ=>by
   obtain⟨st,x3,rfl,hl,pw,hb,hmin⟩:=hρ;have hi':i<n-1:=by simpa [G.rangeT] using hi
   have eg:(G.rangeT 1 (n-1))[i]=.int (1+(i:Int)):=aDb hi;rw[eg];have di:bG (.int c) (.int (1+(i:Int)+1))=some (.int (c / (1+(i:Int)+1))):=fV (by lia) (by lia);generalize c / (1+(i:Int)+1)=d at di;have mi:aR (.int d) (.int M)=some (.int (d%M)):=cZ hM0;have p0:0<=d%M:=aJ6 _ (by lia);have p1:d%M<M:=aJ5 _ hM0;generalize d%M=q at p0 p1 mi;have al:atI (tI st) (-1)=some (.int (st.getD i 0)):=by
    have:atI (tI st) (-1)=(tI st)[i]?:=by
     unfold atI ixN;rw[if_neg (by decide),if_pos (by rw[tI_length,hl];lia),tI_length,hl];show (tI st)[((-1:Int)+((i+1:Nat):Int)).toNat]?=_;rw[show ((-1:Int)+((i+1:Nat):Int)).toNat=i by lia]
    rw[this];unfold tI;rw[aJk,aIk (show i<st.length by lia),aIj,aIk (show i<st.length by lia)]
    rfl
   have hcp:(tI st).length<cap:=by rw[tI_length,hl];unfold cap;lia
   have hmem:st.getD i 0∈st:=by
    rw[aIj,aIk (show i<st.length by lia)];exact List.getElem_mem _
   obtain⟨z,hz⟩:∃ z,z=st.getD i 0:=⟨_,rfl⟩;rw[<- hz] at al hmem hmin;refine⟨[some (.int c),some (.int (n:Int)),some (.lst (tI (st++[z-q]))),some (.int (1+(i:Int)))],.inl ?_,st++[z-q],_,rfl,by simp[hl],?_,?_,?_⟩
   ·unfold yM
    simp only[rApp_at,f1_at,f2_at,fVar_at,fC_at,fLst_at,aCons_at,aNil_at,List.set,zz0,zz1,jn,zz2,ng,oIx_lst,al,oAdd_int,di,p30,aJo,aJr,c3,if_true,d5,m3,ix,mi,oSub_int,if_pos hcp,aFc,tI_cons,tI_nil]
   ·rw[List.pairwise_append]
    refine⟨pw,by simp,fun x hx y hy=>?_⟩;rw[aK7.mp hy];have:=hmin x hx;show z-q<=x;lia
   ·intro x hx
    rcases aK1.mp hx with hx | hx
    ·have:=hb x hx
     rw[Nat.add_mul];lia
    ·rw[aK7.mp hx]
     have:=hb z hmem;rw[Nat.add_mul];lia
   ·intro x hx
    have ez:(st++[z-q]).getD (i+1) 0=z-q:=by
     rw[aIj,List.getElem?_append_right (by lia),hl];simp
    rw[ez];rcases aK1.mp hx with hx | hx
    ·have:=hmin x hx
     lia
    ·rw[aK7.mp hx];exact Int.le_refl _) [some (.int c),some (.int (n:Int)),some (.lst (tI [m])),none] ⟨[m],none,rfl,rfl,by simp,(fun x hx=>by rw[aK7.mp hx];lia),fun x hx=>by rw[aK7.mp hx];exact Int.le_refl _⟩
 rw[show (G.rangeT 1 (n-1)).length=n-1 by simp[G.rangeT]] at hl hb;have hr:xQ [.int 1,.int (n:Int)]=some (G.rangeT 1 (n-1)):=by
  show (if (1:Int).natAbs<2^62/\(n:Int).natAbs<2^62 then some (G.rangeT 1 ((n:Int)-1).toNat) else none)=_;rw[if_pos ⟨by decide,by lia⟩,show ((n:Int)-1).toNat=n-1 by lia]
 refine⟨st,?_,by lia,UW pw,fun x hx=>?_⟩
 ·rw[PD]
  unfold uM;have c1:(1:Nat)<=cap:=by decide
  have e1:T.lst (tI [m])=.lst [.int m]:=rfl;rw[e1] at e;simp only[rSeq_at,rSetM_at,rFor_at,rRet_at,f1_at,fC_at,fMut_at,fCall_at,fLst_at,fVar_at,aCons_at,aNil_at,fRange_at,List.set,zz0,zz1,jn,zz2,zz3,aJo,aJr,c1,if_true,okM_lst,em,gScal_int,hr,e,flat_tI',outT_rt]
 ·have:=hb x hx
  have h5:(n-1)*X30.natAbs<=6*X30.natAbs:=Nat.mul_le_mul_right _ (by lia);lia
theorem kZ {α:Type}{f:Rho->Option T}{ρ:Rho}(tp h:α->T) (xs:List α) (hx:∀ x∈xs,f (ρ.set 0 (some (tp x)))=some (h x)):bC aO f ρ (xs.map tp)=some (xs.map h):=by
 have:=HG (p:=aO) (f:=f) (ρ:=ρ) tp (fun _=>true) h xs (fun x hx'=>⟨rfl,fun _=>hx x hx'⟩)
 rwa [List.filter_eq_self.mpr (fun _ _=>rfl)] at this
theorem AT:∀ l:List Str,cC (tW l)=true
 | []=>rfl
 | x::l=>by
  show (im (.str x)&&cC (tW l))=true;rw[AT l];rfl
theorem BQ (l:List Str):jD (.lst (tW l))=some (tW l):=sU (AT l)
theorem dY (l:List Str):(tW l).length=l.length:=aJq _
theorem kI (a b:Str):oEq (.str a) (.str b)=some (.bl (a == b)):=rfl
theorem GD:∀ st:List Int,eQ (tI st)=some (st.map some)
 | []=>rfl
 | x::st=>by
  show (eQ (tI st)).map (some x :: ·)=_;rw[GD st];rfl
theorem XT (st:List Int):xJ .non (.lst (tI st))=some (.bl false):=by
 show (eQ (tI st)).map (fun l=>T.bl (l.any Option.isNone))=_;rw[GD st];have:(st.map some).any Option.isNone=false:=by
  rw[List.any_eq_false];intro x hx;obtain⟨y,_,rfl⟩:=aK4.mp hx;simp
 rw[zz3,this]
theorem QZ {st:List Int}(hl:st.length<=100) (h:∀ x∈st,x.natAbs<10^200):nB [.lst (tW (st.map aQ))]=some (.lst (tI st)):=by
 have e:bC aO zD [none] (tW (st.map aQ))=some (tI st):=by
  have et:tW (st.map aQ)=st.map fun x=>T.str (aQ x):=by unfold tW;rw[aJz];rfl
  rw[et];refine kZ _ T.int st fun x hx=>?_;have:=FH (h x hx);unfold zD;simp only[f1_at,fCall_at,aCons_at,aNil_at,fVar_at,fC_at,List.set,zz0,jn,zz2,this,gScal_int]
 have hc:st.length<=cap:=by unfold cap;lia
 have n1:=XT st;rw[QY];unfold vN;simp only[rSeq_at,rSetM_at,rRet_at,fIf_at,fB_at,f2_at,fC_at,fMut_at,fComp_at,fFL_at,fVar_at,List.set,zz0,zz1,jn,zz2,zz3,BQ,bK,aJy,aK0,aKp,e,tI_length,hc,if_true,okM_lst,n1,isB_bl,aJ0,if_false,flat_tI',outT_rt]
theorem AJ {w0:Str}{wd:List Str}:atI (tW (w0::wd)) 0=some (.str w0):=atI_nat (j:=0) rfl
theorem QR {ws:List Str}(h1:1<=ws.length) (h6:ws.length<=6) {st:List Int}(hl:st.length=ws.length) (hd:rQ st) (hb:∀ x∈st,x.natAbs<10^200):dM [.lst (tW ws),.lst (tW (Str.ofString "steps" :: st.map aQ))]=some (.lst (tI (jT st))):=by
 have fn:=QZ (st:=st) (by lia) hb;have fs:=FJ (st:=st) (by lia) (by lia) hd;have sm:nD [.int (ws.length:Int),.lst (tW (st.map aQ))]=some (.lst (tI (jT st))):=by
  have i1:oIs (.lst (tI st)) .non=some (.bl false):=rfl;have ne:oNe (.int (st.length:Int)) (.int (ws.length:Int))=some (.bl false):=by rw[hl];show some (T.bl (!((ws.length:Int) == (ws.length:Int))))=_;rw[beq_self_eq_true];rfl
  rw[RD];unfold vR;simp only[rSeq_at,rSet_at,rIf_at,rRet_at,rNext_at,pOr_at,fB_at,f2_at,fC_at,fCall_at,aCons_at,aNil_at,fVar_at,List.set,zz0,zz1,jn,zz2,zz3,fn,i1,oLen_lst,tI_length,ne,isB_bl,aJ0,if_false,fs,outT_rt]
 have sl:cF (tW (Str.ofString "steps" :: st.map aQ)) (some 1) none none=tW (st.map aQ):=by rw[rM _ (by decide)];rfl
 have eq:oEq (.str (Str.ofString "steps")) (.str "steps")=some (.bl true):=by show some (T.bl (Str.ofString "steps" == Str.ofString "steps"))=_;rw[beq_self_eq_true]
 have ix:=AJ (w0:=Str.ofString "steps") (wd:=st.map aQ);rw[FF];unfold rJ;rw[rSeq_at];simp only[rIf_at,rRet_at,fB_at,f2_at,fC_at,fCall_at,aCons_at,aNil_at,fSlice_at,oSome_at,oNone_at,fVar_at,zz0,zz1,jn,zz2,zz3,oIx_lst,ix,eq,isB_bl,if_true,oLen_lst,dY,isI_int,reduceCtorEq,if_false,sl,sm]
 rfl
def called (ws:List Str) (l:List Nat):List Str:=l.map fun k=>ws.getD k default
theorem nJ {ws:List Str}{k:Nat}(h:k<ws.length):ws.getD k default=ws[k]:=by
 rw[aIj,aIk h];rfl
theorem SS {ws:List Str}(hn:ws.Nodup) {l:List Nat}(P:Plc ws.length l):(called ws l).Nodup:=by
 unfold called List.Nodup;rw[List.pairwise_map];refine List.Pairwise.imp_of_mem ?_ P.nd;intro a b ha hb hab e;have ha:=P.lt a ha;have hb:=P.lt b hb;rw[nJ ha,nJ hb] at e;exact hab ((List.getElem_inj hn).mp e)
theorem QH {ws:List Str}(hn:ws.Nodup) (h6:ws.length<=6) {l:List Nat}(P:Plc ws.length l):mV [.lst (tW ws),.lst (tW (called ws l))]=some (.lst (tI (tN' l))):=by
 have hl:=P.len;have et:tW (called ws l)=l.map fun k=>T.str (ws.getD k default):=by unfold tW called;rw[aJz];rfl
 have mem:∀ k∈l,ws.getD k default∈ws:=fun k hk=>by rw[nJ (P.lt k hk)];exact List.getElem_mem _
 have e1:bC aO yU [none,some (.lst (tW ws))] (tW (called ws l))=some (l.map fun _=>T.bl true):=by
  rw[et];refine kZ _ _ l fun k hk=>?_;have:xL (.str (ws.getD k default)) (.lst (tW ws))=some (.bl true):=by
   show (cW (ws.map T.str)).map (fun l=>T.bl (l.contains (ws.getD k default)))=_;rw[nG,zz3,List.contains_iff_mem.mpr (mem k hk)]
  unfold yU;simp only[f2_at,fVar_at,List.set,zz0,zz1,jn,zz2,this]
 have e2:bC aO yV [none,some (.lst (tW ws))] (tW (called ws l))=some (tI (tN' l)):=by
  have en:tI (tN' l)=l.map fun (k:Nat)=>T.int (k:Int):=by unfold tI tN';rw[aJz];rfl
  rw[et,en];refine kZ _ _ l fun k hk=>?_;have:CS (.lst (tW ws)) (.str (ws.getD k default))=some (.int (k:Int)):=by
   show (cW (ws.map T.str)).bind (fun bs=>if ws.getD k default∈bs then some (T.int (bs.idxOf (ws.getD k default):Nat)) else none)=_;rw[nG,zz2,if_pos (mem k hk),nJ (P.lt k hk),List.Nodup.idxOf_getElem hn]
  unfold yV;simp only[f2_at,fVar_at,List.set,zz0,zz1,jn,zz2,this]
 have ab:jH [.lst (l.map fun _=>T.bl true)]=some (.bl true):=by
  have:G.allB (l.map fun _=>T.bl true)=some (l.map fun _=>true):=by
   clear e1 e2 et mem P hl
   induction l with
   | nil=>rfl
   | cons a r ih=>simp only[aJy,G.allB,ih];rfl
  show (G.allB _).map _=_;rw[this];simp
 have cl:(called ws l).length=l.length:=aJq _;have ls:tF [.lst (tW (called ws l))]=some (.int ((called ws l).length:Nat)):=by
  show (cW ((called ws l).map T.str)).bind (fun l=>if l.length<=1000 then some (T.int ((dsS [] l).length:Nat)) else none)=_;rw[nG,zz2,if_pos (by rw[cl];lia),HY (SS hn P)]
 have lt:oLt (.int ((called ws l).length:Int)) (.int ((called ws l).length:Int))=some (.bl false):=by rw[oLt_int,decide_eq_false (Int.lt_irrefl _)]
 have c1:(l.map fun _=>T.bl true).length<=cap:=by rw[aJq];unfold cap;lia
 have c2:(tI (tN' l)).length<=cap:=by rw[tI_length,OD];unfold cap;lia
 rw[QG];unfold vG;simp only[rSeq_at,rIf_at,rRet_at,rNext_at,pOr_at,pNot_at,fT_at,truT_bl,fB_at,f2_at,fCall_at,aCons_at,aNil_at,fComp_at,fFL_at,fVar_at,zz0,zz1,jn,zz2,zz3,BQ,bK,aJy,aK0,aKp,e1,c1,if_true,ab,Bool.not_true,aJ0,if_false,ls,oLen_lst,dY,lt,isB_bl,e2,c2,outT_rt]
theorem zU {ws:List Str}(hn:ws.Nodup) (h6:ws.length<=6) {l:List Nat}(P:Plc ws.length l) {n:Int}(hb:n.natAbs<10^200) {w0:Str}(hw:(w0 == Str.ofString "steps")=false) {t:T}(hm:hU [.int (ws.length:Int),.str w0,.int n,.lst (tI (tN' l))]=some t):
  dM [.lst (tW ws),.lst (tW (w0::aQ n::called ws l))]=some t:=by
 have hl:=P.len;have fn:=FH hb;have fh:=QH hn h6 P;have ix:=AJ (w0:=w0) (wd:=aQ n::called ws l);have ix1:atI (tW (w0::aQ n::called ws l)) 1=some (.str (aQ n)):=atI_nat (j:=1) rfl;have sl:cF (tW (w0::aQ n::called ws l)) (some 2) none none=tW (called ws l):=by rw[rM _ (by decide)];rfl
 have eq:oEq (.str w0) (.str "steps")=some (.bl false):=by show some (T.bl (w0 == Str.ofString "steps"))=_;rw[hw]
 have lt:oLt (.int (((w0::aQ n::called ws l).length:Nat):Int)) (.int 3)=some (.bl false):=by
  rw[oLt_int,decide_eq_false];have:(called ws l).length=l.length:=aJq _;simp only[aJo,this];lia
 have i1:oIs (.int n) .non=some (.bl false):=rfl;have i2:oIs (.lst (tI (tN' l))) .non=some (.bl false):=rfl;rw[FF];unfold rJ;simp only[rSeq_at,rSet_at,rIf_at,rRet_at,rNext_at,pOr_at,fB_at,f1_at,f2_at,fC_at,fCall_at,aCons_at,aNil_at,fSlice_at,oSome_at,oNone_at,fVar_at,List.set,zz0,zz1,jn,zz2,zz3,oIx_lst,ix,ix1,eq,lt,isB_bl,aJ0,if_false,oLen_lst,dY,isI_int,reduceCtorEq,sl,fn,gScal_int,fh,i1,i2,hm,outT_rt]
def gor (l:List Nat):Nat:=l.foldl (fun a h=>a|||2^h) 0
theorem JG:∀ (l:List Nat) (a k:Nat),(l.foldl (fun a h=>a|||2^h) a).testBit k=(a.testBit k||decide (k∈l))
 | [],a,k=>by simp
 | h::l,a,k=>by
  rw[List.foldl_cons,JG l,Nat.testBit_or,Nat.testBit_two_pow]
  by_cases hk:h=k
  ·subst hk;simp
  ·have:k≠h:=fun z=>hk z.symm
   simp[hk,this,aIu]
theorem WQ (l:List Nat) (k:Nat):(gor l).testBit k=decide (k∈l):=by unfold gor;rw[JG];simp
theorem JH {l:List Nat}{n:Nat}(h:∀ k∈l,k<n):gor l<2^n:=Nat.lt_pow_two_of_testBit _ fun k hk=>by
 rw[WQ];exact decide_eq_false fun z=>absurd (h k z) (by lia)
theorem JJ:∀ (l:List Nat) (a:Nat) (r0 x2:Option T),(∀ h∈l,h<6)->a<64->∃ x2',dJ 2 vF (tI (tN' l)) [r0,some (.int (a:Int)),x2]=some (.nx [r0,some (.int ((l.foldl (fun a h=>a|||2^h) a:Nat):Int)),x2'])
 | [],a,r0,x2,_,_=>⟨x2,rfl⟩
 | h::l,a,r0,x2,hl,ha=>by
  have hh:=hl h aIm;have sh:=fW (b:=h) (by lia);have hlt:a|||2^h<64:=Nat.or_lt_two_pow (n:=6) ha (Nat.pow_lt_pow_right (by decide) hh);obtain⟨x2',e⟩:=JJ l (a|||2^h) r0 (some (.int (h:Int))) (fun k hk=>hl k (aIl _ hk)) hlt;refine⟨x2',?_⟩;have st:vF ([r0,some (.int (a:Int)),x2].set 2 (some (.int (h:Int))))=some (.nx [r0,some (.int ((a|||2^h:Nat):Int)),some (.int (h:Int))]):=by
   unfold vF;simp only[rSet_at,f2_at,fVar_at,fC_at,List.set,zz0,zz1,jn,zz2,zz3,sh,oOr_int,AE]
  have et:tI (tN' (h::l))=.int (h:Int)::tI (tN' l):=rfl;rw[et,AW,st,List.foldl_cons];exact e
theorem QE {l:List Nat}(h:∀ k∈l,k<6):kX [.lst (tI (tN' l))]=some (.int (gor l:Int)):=by
 obtain⟨x2,e⟩:=JJ l 0 (some (.lst (tI (tN' l)))) none h (by decide);have e0:T.int ((0:Nat):Int)=.int 0:=rfl;rw[e0] at e;unfold gor;rw[QF];unfold vE;simp only[rSeq_at,rSet_at,rFor_at,rRet_at,f1_at,fVar_at,fC_at,fFL_at,List.set,zz0,zz1,jn,zz2,zz3,jE,e,gScal_int,outT_rt]
theorem wY (row:List Int) (g:Nat):wX row g=gv row g:=JL row g _
theorem aEw {row:List Int}:Sub row.length (mO row):=EO fun a b ha hb=>by
 rw[wY,wY,wY,wY];exact Int.le_of_eq (WZ row a b)
theorem aFv:(List.range 7).all (fun n=>(hG n).all fun x=>(dH (x.1|||2^x.2.1) == dH x.1+1)&&(dH (x.1|||2^x.2.2) == dH x.1+1)&&(dH (x.1|||(2^x.2.1|||2^x.2.2)) == dH x.1+2)&&decide (dH x.1+2<=n)&&decide (x.1<2^n)&&decide (x.1|||(2^x.2.1|||2^x.2.2)<2^n))=true:=by decide +kernel
theorem aEx {st:List Int}(h6:st.length<=6) (hd:rQ st):Sub st.length (jT st):=fun a b ha hb=>by
 refine glob h6 (fun x hx=>?_) (mea a b) a b ha hb (aKe _);have q:=aIo.mp (aIo.mp aFv st.length (aIp.mpr (by lia))) x hx;simp only[aIw,beq_iff_eq,decide_eq_true_eq] at q;obtain⟨⟨⟨⟨⟨a1,a2⟩,a3⟩,a4⟩,a5⟩,a6⟩:=q;obtain⟨t1,t2,t3,t4⟩:=OM h6 hx;unfold brk;rw[t3,t4,zP t1,zP t2,zP a6,zP a5,a1,a2,a3,LZ (st:=st) (k:=dH x.1+1) (by lia),LZ (st:=st) (k:=dH x.1) (by lia)];have:=hd (dH x.1) (dH x.1+1) (by lia) (by lia);rw[decide_eq_false];lia
theorem aEu {n:Nat}{ps:List Cov}(h:∀ p∈ps,0<=p.1):Sub n ((List.range (2^n)).map (eS ps)):=EO fun a b _ _=>HJ a b ps h
theorem aEv {n:Nat}{ps:List Cut}(h:∀ p∈ps,0<=p.2.2):Sub n ((List.range (2^n)).map (eU ps)):=EO fun a b _ _=>HL a b ps h
def gW (n k:Nat) (x:Int):List Int:=(List.range n).map fun j=>if j=k then x else 0
theorem rD (n k:Nat) (x:Int):(gW n k x).length=n:=by simp[gW]
theorem QV {n k:Nat}(h6:n<=6) (hk:k<n) (x:Int):hU [.int (n:Int),.str (Str.ofString "each"),.int x,.lst (tI (tN' [k]))]=some (.lst (tI (mO (gW n k x)))):=by
 have hr:=jJ n (by lia);have e:bC aO zB [none,some (.lst (tI (tN' [k]))),some (.int x)] (G.rangeT 0 n)=some (tI (gW n k x)):=by
  refine qN _ fun j hj=>?_;have ix:atI (tI (tN' [k])) 0=some (.int (k:Int)):=atI_nat (j:=0) rfl;have eq:oEq (.int (j:Int)) (.int (k:Int))=some (.bl ((j:Int) == (k:Int))):=rfl;unfold zB;simp only[fIf_at,fB_at,f1_at,f2_at,fC_at,fVar_at,List.set,zz0,zz1,jn,zz2,oIx_lst,ix,eq,isB_bl,gScal_int]
  by_cases h:j=k
  ·rw[if_pos (by rw[h];simp),if_pos h]
  ·rw[if_neg (by simp;lia),if_neg h]
 have hc:(gW n k x).length<=cap:=by rw[rD];unfold cap;lia
 have fr:=FI (row:=gW n k x) (by rw[rD];exact h6);have q1:oEq (.str (Str.ofString "each")) (.str "group")=some (.bl false):=by rw[kI];rw[show (Str.ofString "each" == Str.ofString "group")=false by decide +kernel]
 have q2:oEq (.str (Str.ofString "each")) (.str "each")=some (.bl true):=by rw[kI,beq_self_eq_true]
 have q3:oEq (.int ((1:Nat):Int)) (.int 1)=some (.bl true):=rfl;have l1:(tN' [k]).length=1:=rfl;rw[zV];unfold nY;simp only[rSeq_at,rIf_at,rRet_at,rNext_at,pAnd_at,fB_at,f2_at,fC_at,fCall_at,aCons_at,aNil_at,fComp_at,fRange_at,fVar_at,zz0,zz1,jn,zz2,zz3,q1,q2,oLen_lst,tI_length,l1,q3,isB_bl,aJ0,if_false,if_true,hr,bK,aJy,aK0,aKp,e,hc,fr,outT_rt]
theorem QT {n:Nat}(h1:1<=n) (h6:n<=6) {l:List Nat}(P:Plc n l) {x:Int}(hx:0<=x):hU [.int (n:Int),.str (Str.ofString "cover"),.int x,.lst (tI (tN' l))]=some (.lst (tI ((List.range (2^n)).map (eS [(x,gor l)])))):=by
 have fg:=QE (l:=l) (fun k hk=>aIq (P.lt k hk) h6);have fc:=EY (n:=n) h1 h6 (ps:=[(x,gor l)]) (show 1<=100 by decide) (fun p hp=>by rw[aK7.mp hp];exact⟨hx,JH P.lt⟩);have tc:tP cvT [(x,gor l)]=[.tup [.int x,.int (gor l:Int)]]:=rfl;rw[tc] at fc;have q1:oEq (.str (Str.ofString "cover")) (.str "group")=some (.bl false):=by rw[kI];rw[show (Str.ofString "cover" == Str.ofString "group")=false by decide +kernel]
 have q2:oEq (.str (Str.ofString "cover")) (.str "each")=some (.bl false):=by rw[kI];rw[show (Str.ofString "cover" == Str.ofString "each")=false by decide +kernel]
 have q3:oEq (.str (Str.ofString "cover")) (.str "cover")=some (.bl true):=by rw[kI,beq_self_eq_true]
 have q4:oGe (.int x) (.int 0)=some (.bl true):=by rw[oGe_int,decide_eq_true (by lia)]
 have c1:(1:Nat)<=cap:=by decide
 have c2:(2:Nat)<=cap:=by decide
 rw[zV];unfold nY;simp only[rSeq_at,rIf_at,rRet_at,rNext_at,pAnd_at,fB_at,f1_at,f2_at,fC_at,fCall_at,fLst_at,fTup_at,aCons_at,aNil_at,fVar_at,zz0,zz1,jn,zz2,zz3,q1,q2,q3,q4,isB_bl,aJ0,if_false,if_true,gScal_int,fg,aJo,aJr,c1,c2,fc,outT_rt]
theorem QU {n:Nat}(h1:1<=n) (h6:n<=6) {a b:Nat}{x:Int}(hc:rP n (a,b,x)):hU [.int (n:Int),.str (Str.ofString "cut"),.int x,.lst (tI (tN' [a,b]))]=some (.lst (tI ((List.range (2^n)).map (eU [(a,b,x)])))):=by
 have fc:=EZ (n:=n) h1 h6 (ps:=[(a,b,x)]) (show 1<=100 by decide) (fun p hp=>by rw[aK7.mp hp];exact hc);have tc:tP ctT [(a,b,x)]=[.tup [.int (a:Int),.int (b:Int),.int x]]:=rfl;rw[tc] at fc;have q1:oEq (.str (Str.ofString "cut")) (.str "group")=some (.bl false):=by rw[kI];rw[show (Str.ofString "cut" == Str.ofString "group")=false by decide +kernel]
 have q2:oEq (.str (Str.ofString "cut")) (.str "each")=some (.bl false):=by rw[kI];rw[show (Str.ofString "cut" == Str.ofString "each")=false by decide +kernel]
 have q3:oEq (.str (Str.ofString "cut")) (.str "cover")=some (.bl false):=by rw[kI];rw[show (Str.ofString "cut" == Str.ofString "cover")=false by decide +kernel]
 have q5:oEq (.str (Str.ofString "cut")) (.str "cut")=some (.bl true):=by rw[kI,beq_self_eq_true]
 have q4:oGe (.int x) (.int 0)=some (.bl true):=by rw[oGe_int,decide_eq_true (by have:=hc.2.2.2;exact this)]
 have q6:oEq (.int ((2:Nat):Int)) (.int 2)=some (.bl true):=rfl;have l2:(tN' [a,b]).length=2:=rfl;have i0:atI (tI (tN' [a,b])) 0=some (.int (a:Int)):=atI_nat (j:=0) rfl;have i1:atI (tI (tN' [a,b])) 1=some (.int (b:Int)):=atI_nat (j:=1) rfl;have c1:(1:Nat)<=cap:=by decide
 have c3:(3:Nat)<=cap:=by decide
 rw[zV];unfold nY;simp only[rSeq_at,rIf_at,rRet_at,rNext_at,pAnd_at,fB_at,f1_at,f2_at,fC_at,fCall_at,fLst_at,fTup_at,aCons_at,aNil_at,fVar_at,zz0,zz1,jn,zz2,zz3,q1,q2,q3,q4,q5,oLen_lst,tI_length,l2,q6,oIx_lst,i0,i1,isB_bl,aJ0,if_false,if_true,gScal_int,aJo,aJr,c1,c3,fc,outT_rt]
theorem xE {sep:Str}{l:List Str}{B:Nat}(hs:sep.length<=1) (h:∀ w∈l,w.length<=B) (hc:l.length*(B+1)<=16777216):JoinOk sep l=true:=by
 have key:∀ (l:List Str) (a:Nat),(∀ w∈l,w.length<=B)->l.foldl (fun a w=>a+w.length+sep.length) a<=a+l.length*(B+1):=by
  intro l
  induction l with
  | nil=>intro a _;simp
  | cons x l ih=>
   intro a hl;rw[List.foldl_cons,aJo,Nat.succ_mul];have:=ih (a+x.length+sep.length) fun w hw=>hl w (aIl _ hw);have:=hl x aIm;lia
 unfold JoinOk Builtin.Str.tooLong;have e:l.toArray.foldl (fun a w=>a+w.length+sep.length) 0=l.foldl (fun a w=>a+w.length+sep.length) 0:=by simp
 have k:=key l 0 h;rw[Bool.not_eq_true',decide_eq_false_iff_not,sizeLine_eq];rw[<- e] at k;exact Nat.not_lt.mpr (aKf k (by lia))
def sp:Str:=⟨#[32]⟩
theorem jS:Str.ofString " " = sp:=by decide +kernel
theorem CT {l:List Str}(h:JoinOk sp l=true):eL (.str " ") (.lst (tW l))=some (.str (Txt.join sp l)):=by
 have e:(Str.ofString " ")=sp:=jS;show (cW (l.map T.str)).bind (fun l=>if JoinOk (Str.ofString " ") l=true then some (T.str (Txt.join (Str.ofString " ") l)) else none)=_;rw[nG,zz2,e,if_pos h]
structure RowIs (ws:List Str) (row:Str) (tab:List Int):Prop where
 ex:∃ w0 wd,row=Txt.join sp (w0::wd)/\w0∈[Str.ofString "steps",Str.ofString "each",Str.ofString "cover",Str.ofString "cut"]/\wd.length<=7/\(∀ w∈wd,w.length<=201/\∀ c∈chL w,33<=c)/\dM [.lst (tW ws),.lst (tW (w0::wd))]=some (.lst (tI tab))
 len:tab.length=2^ws.length
 sub:Sub ws.length tab
theorem xH {n:Int}(h:n.natAbs<10^200):(aQ n).length<=201/\∀ c∈chL (aQ n),33<=c:=⟨KS h,fun c hc=>by have:=aA3 hc;lia⟩
theorem qM {ws:List Str}(hn:eP ws) {l:List Nat}(hl:∀ k∈l,k<ws.length):∀ w∈called ws l,w.length<=201/\∀ c∈chL w,33<=c:=fun w hw=>by
 obtain⟨k,hk,rfl⟩:=aK4.mp hw;rw[nJ (hl k hk)];obtain⟨_,h2,h3⟩:=sV (hn.2 _ (List.getElem_mem (hl k hk)));exact⟨by lia,fun c hc=>by have:=h3 c hc;lia⟩
def lr1:Rho->Option Out:=aS 2 (aG (aD (aA 1) aE) cD)
def lr2:Rho->Option Out:=aS 3 (f2 (aA 0) (fC (.int 4)) bG)
def lr3:Rho->Option Out:=aS 4 (f1 (aG (aD (f2 (aA 3) (fC (.int 11)) bG) aE) gE) aV)
def lr4:Rho->Option Out:=aS 5 (aG (aD (aA 3) (aD (aA 2) aE)) kT)
def lr5:Rho->Option Out:=aS 6 (bA (fFL (aA 5)) [none,some 1] aO uI)
def lr6:Rho->Option Out:=rIf (fB (f2 (f2 (aA 0) (fC (.int 4)) aR) (fC (.int 0)) oEq)) (aJ (aS 7 (aG (aD (aA 3) (aD (aA 2) aE)) kW)) (aT (dI (aD (f2 (fC (.str " ")) (f2 (cG (aD (fC (.str "steps")) aE)) (bA (fFL (aA 7)) [none] aO uJ) cU) eL) (aD (aG (aD (aA 7) aE) gH) aE))))) bE
def lr7:Rho->Option Out:=rIf (fB (f2 (f2 (aA 0) (fC (.int 4)) aR) (fC (.int 1)) oEq)) (aJ (aS 8 (bA (dE (aD (aA 2) aE) dF) [none,some 4,some 5] aO uK)) (aT (dI (aD (f2 (f2 (f2 (fC (.str "each ")) (aG (aD (aA 4) aE) kJ) bS) (fC (.str " ")) bS) (f2 (aA 6) (fC (.int 0)) oIx) bS) (aD (aG (aD (aA 8) aE) gI) aE))))) bE
def lr8:Rho->Option Out:=aS 4 (aG (aD (aA 4) aE) xI)
def lr9:Rho->Option Out:=rIf (gP (fB (f2 (f2 (aA 0) (fC (.int 4)) aR) (fC (.int 2)) oEq)) (fB (f2 (aA 2) (fC (.int 1)) oGt))) (aJ (aS 9 (f2 (f2 (f2 (f2 (aA 5) (fC (.int 0)) oIx) (fC (.int 1)) cA) (f2 (f2 (aA 3) (fC (.int 7)) bG) (f2 (aA 2) (fC (.int 1)) kK) aR) cA) (aA 2) aR)) (aJ (aS 8 (f2 (f2 (f2 (f2 (f2 (fC (.str "cut ")) (aG (aD (aA 4) aE) kJ) bS) (fC (.str " ")) bS) (f2 (aA 6) (fC (.int 0)) oIx) bS) (fC (.str " ")) bS) (f2 (aA 1) (aA 9) oIx) bS)) (aT (dI (aD (f1 (aA 8) aV) (aD (aG (aD (aA 2) (aD (cG (aD (dI (aD (f1 (f2 (aA 5) (fC (.int 0)) oIx) aV) (aD (f1 (aA 9) aV) (aD (f1 (aA 4) aV) aE)))) aE)) aE)) gG) aE)))))) bE
def CA:Rho->Option Out:=aS 8 (f2 (fC (.str " ")) (f2 (cG (aD (fC (.str "cover")) (aD (aG (aD (aA 4) aE) kJ) aE))) (aA 6) cU) eL)
def CB:Rho->Option Out:=aT (dI (aD (f1 (aA 8) aV) (aD (aG (aD (aA 2) (aD (cG (aD (dI (aD (f1 (aA 4) aV) (aD (aG (aD (bA (fFL (aA 5)) [none] aO uL) aE) jK) aE))) aE)) aE)) gF) aE)))
theorem YZ:uH=aJ lr1 (aJ lr2 (aJ lr3 (aJ lr4 (aJ lr5 (aJ lr6 (aJ lr7 (aJ lr8 (aJ lr9 (aJ CA CB))))))))):=rfl
theorem dC {r1 r2:Rho->Option Out}{ρ ρ':Rho}(h:r1 ρ=some (.nx ρ')):aJ r1 r2 ρ=r2 ρ':=by rw[rSeq_at,h];rfl
theorem EM {r1 r2:Rho->Option Out}{ρ:Rho}{t:T}(h:r1 ρ=some (.rt t)):aJ r1 r2 ρ=some (.rt t):=by rw[rSeq_at,h];rfl
abbrev stR (c:Int) (ws:List Str) (x:Int) (l:List Nat) (a b d:Option T):Rho:=[some (.int c),some (.lst (tW ws)),some (.int (ws.length:Int)),some (.int (c / 4)),some (.int x),some (.lst (tI (tN' l))),some (.lst (tW (called ws l))),a,b,d]
theorem YJ (a b c:Str):Txt.join sp [a,b,c]=a++sp++b++sp++c:=by
 have e:Txt.join sp [a,b,c]=Str.join sp [a,b,c]:=PySem.StrLaws.glued_eq_join _ _;rw[e]
 apply jZ
 unfold sp;rw[fU,fU];simp only[jY];show chL a++32::(chL b++32::chL (Str.join ⟨#[32]⟩ [c]))=_;have:chL (Str.join ⟨#[32]⟩ [c])=chL c:=rfl;have h32:chL (⟨#[32]⟩:Str)=[32]:=rfl;rw[this,h32];simp
theorem YI (a b c d:Str):Txt.join sp [a,b,c,d]=a++sp++b++sp++c++sp++d:=by
 have e:Txt.join sp [a,b,c,d]=Str.join sp [a,b,c,d]:=PySem.StrLaws.glued_eq_join _ _;rw[e]
 apply jZ
 unfold sp;rw[fU,fU,fU];simp only[jY];have:chL (Str.join ⟨#[32]⟩ [d])=chL d:=rfl;have h32:chL (⟨#[32]⟩:Str)=[32]:=rfl;rw[this,h32];simp
theorem dD {x y:Str}(h:x.length+y.length<=1000000):bS (.str x) (.str y)=some (.str (x++y)):=by
 show (if x.length+y.length<=cap then some (T.str (x++y)) else none)=_;rw[if_pos (show x.length+y.length<=cap from h)]
theorem ID:Str.ofString "each " = Str.ofString "each" ++ sp:=by decide +kernel
theorem HM:Str.ofString "cut " = Str.ofString "cut" ++ sp:=by decide +kernel
theorem cN (x y:Str):(x++y).length=x.length+y.length:=Array.size_append
theorem xR {n:Int}(h:n.natAbs<10^200):kJ [.int n]=some (.str (aQ n)):=by
 show (if n.natAbs<figLim then some (T.str (Str.ofString (toString n))) else none)=_;rw[if_pos (by rw[IJ];exact aIq h (by decide +kernel))]
 rfl
theorem LU {n:Nat}{l:List Nat}(P:Plc n l):∃ p r,l=p::r/\p<n:=by
 have:=P.len.1;cases l with
 | nil=>simp at this
 | cons p r=>exact⟨p,r,rfl,P.lt p aIm⟩
theorem aEz {l:List Nat}(hn:l.Nodup) (h:∀ k∈l,k<6):(l.map fun k=>((2^k:Nat):Int)).sum=(gor l:Int):=by
 have key:∀ (l:List Nat) (a:Nat),l.Nodup->(∀ k∈l,k<6/\a.testBit k=false)->a<64->(((l.foldl (fun a h=>a|||2^h) a:Nat)):Int)=(a:Int)+(l.map fun k=>((2^k:Nat):Int)).sum:=by
  intro l
  induction l with
  | nil=>intro a _ _ _;simp
  | cons k l ih=>
   intro a hn hl ha;obtain⟨hk,hb⟩:=hl k aIm;rw[List.nodup_cons] at hn;have hlt:a|||2^k<64:=Nat.or_lt_two_pow (n:=6) ha (Nat.pow_lt_pow_right (by decide) hk);rw[List.foldl_cons,ih (a|||2^k) hn.2 (fun j hj=>⟨(hl j (aIl _ hj)).1,by
    rw[Nat.testBit_or,(hl j (aIl _ hj)).2,Nat.testBit_two_pow,Bool.false_or];exact decide_eq_false fun z=>hn.1 (z ▸ hj)⟩) hlt,aC6 ha hk hb,aJy,List.sum_cons]
   lia
 have:=key l 0 hn (fun k hk=>⟨h k hk,Nat.zero_testBit k⟩) (by decide);unfold gor;rw[this];simp
theorem BZ:(Str.ofString "each").length=4:=by decide +kernel
theorem sX:(Str.ofString "cut").length=3:=by decide +kernel
theorem mK:sp.length=1:=rfl
theorem GV {ws:List Str}{l:List Nat}{p:Nat}{r:List Nat}(e:l=p::r):atI (tW (called ws l)) 0=some (.str (ws.getD p default)):=by
 subst e;exact atI_nat (j:=0) rfl
theorem YY {c x:Int}{ws:List Str}{l:List Nat}(h1:1<=ws.length) (h6:ws.length<=6) (hc:c%4=0):∃ row tab,lr6 (stR c ws x l none none none)=some (.rt (.tup [.str row,.lst (tI tab)]))/\RowIs ws row tab:=by
 obtain⟨st,es,hl,hd,hb⟩:=QP (c / 4) h1 h6;have fs:=FJ (st:=st) (by lia) (by lia) hd;have m4:aR (.int c) (.int 4)=some (.int (c%4)):=cZ (by decide);have eq:oEq (.int (c%4)) (.int 0)=some (.bl true):=by rw[hc];rfl
 have e2:bC aO uJ [none] (tI st)=some (tW (st.map aQ)):=by
  have et:tW (st.map aQ)=st.map fun x=>T.str (aQ x):=by unfold tW;rw[aJz];rfl
  rw[et];refine kZ T.int _ st fun x hx=>?_;unfold uJ;simp only[fCall_at,aCons_at,aNil_at,fVar_at,List.set,zz0,jn,zz2,xR (hb x hx)]
 have hw:∀ w∈st.map aQ,w.length<=201/\∀ c∈chL w,33<=c:=fun w hw=>by
  obtain⟨x,hx,rfl⟩:=aK4.mp hw;exact xH (hb x hx)
 have jo:JoinOk sp (Str.ofString "steps" :: st.map aQ)=true:=xE (B:=201) (by decide) (fun w h=>by
  rcases aIu.mp h with rfl | h
  ·decide +kernel
  ·exact (hw w h).1) (by rw[aJo,aJq];lia)
 have oc:cU (.lst [.str "steps"]) (.lst (tW (st.map aQ)))=some (.lst (tW (Str.ofString "steps" :: st.map aQ))):=by
  rw[tD (by rw[dY,aJq];show 1+st.length<=cap;unfold cap;lia)];rfl
 have oj:=CT jo;have hcl:(tW (st.map aQ)).length<=cap:=by rw[dY,aJq];unfold cap;lia
 have c1:(1:Nat)<=cap:=by decide
 have c2:(2:Nat)<=cap:=by decide
 refine⟨_,jT st,?_,⟨_,_,rfl,by simp,by rw[aJq];lia,hw,QR h1 h6 hl hd hb⟩,by rw[NX,hl],by rw[<- hl];exact aEx (by lia) hd⟩;unfold lr6;simp only[rIf_at,rSeq_at,rSet_at,rRet_at,fB_at,f2_at,fC_at,fCall_at,fTup_at,fLst_at,aCons_at,aNil_at,fComp_at,fFL_at,fVar_at,List.set,zz0,zz1,jn,zz2,zz3,m4,eq,isB_bl,if_true,es,jE,bK,aJy,aK0,aKp,e2,hcl,aJo,aJr,c1,c2,oc,oj,fs]
theorem YX {c x:Int}{ws:List Str}{l:List Nat}(hn:eP ws) (h1:1<=ws.length) (h6:ws.length<=6) (P:Plc ws.length l) (hx:x.natAbs<10^200) (hc:c%4=1):∃ row tab,lr7 (stR c ws x l none none none)=some (.rt (.tup [.str row,.lst (tI tab)]))/\RowIs ws row tab:=by
 obtain⟨p,r,el,hp⟩:=LU P;have P1:Plc ws.length [p]:=⟨by simp,fun k hk=>by rw[aK7.mp hk];exact hp,aKe _,h1⟩;have m4:aR (.int c) (.int 4)=some (.int (c%4)):=cZ (by decide);have eq:oEq (.int (c%4)) (.int 1)=some (.bl true):=by rw[hc];rfl
 have hr:=jJ ws.length (by lia);have e3:bC aO uK [none,some (.int x),some (.lst (tI (tN' l)))] (G.rangeT 0 ws.length)=some (tI (gW ws.length p x)):=by
  refine qN _ fun j hj=>?_;have ix:atI (tI (tN' l)) 0=some (.int (p:Int)):=by rw[el];exact atI_nat (j:=0) rfl
  have q:oEq (.int (j:Int)) (.int (p:Int))=some (.bl ((j:Int) == (p:Int))):=rfl;unfold uK
  by_cases h:j=p
  ·have b:((j:Int) == (p:Int))=true:=by rw[h];simp
   have ot:xM [.bl true]=some (.int 1):=rfl;have ml:eM (.int x) (.int 1)=some (.int (x*1)):=xP (KM (by decide));simp only[f2_at,fC_at,fCall_at,aCons_at,aNil_at,fVar_at,List.set,zz0,zz1,jn,zz2,oIx_lst,ix,q,b,ot,ml,if_pos h,Int.mul_one]
  ·have b:((j:Int) == (p:Int))=false:=by rw[beq_eq_false_iff_ne];lia
   have ot:xM [.bl false]=some (.int 0):=rfl;have ml:eM (.int x) (.int 0)=some (.int (x*0)):=xP (KM (by decide));simp only[f2_at,fC_at,fCall_at,aCons_at,aNil_at,fVar_at,List.set,zz0,zz1,jn,zz2,oIx_lst,ix,q,b,ot,ml,if_neg h,Int.mul_zero]
 have hcl:(gW ws.length p x).length<=cap:=by rw[rD];unfold cap;lia
 have fr:=FI (row:=gW ws.length p x) (by rw[rD];exact h6);have nw:=xH hx;have nl:=nw.1;have cw:=qM hn P1.lt (ws.getD p default) (by unfold called;simp);have cl:=cw.1;have ix0:=GV (ws:=ws) el;have os:=xR hx;have a1:bS (.str "each ") (.str (aQ x))=some (.str (Str.ofString "each" ++ sp++aQ x)):=by
  have:=dD (x:=Str.ofString "each ") (y:=aQ x) (by rw[ID,cN,BZ,mK];lia);rw[ID] at this;exact this
 have a2:bS (.str (Str.ofString "each" ++ sp++aQ x)) (.str " ")=some (.str (Str.ofString "each" ++ sp++aQ x++sp)):=by
  have:=dD (x:=Str.ofString "each" ++ sp++aQ x) (y:=Str.ofString " ") (by rw[jS,cN,cN,BZ,mK];lia);rw[jS] at this;exact this
 have a3:bS (.str (Str.ofString "each" ++ sp++aQ x++sp)) (.str (ws.getD p default))=some (.str (Txt.join sp [Str.ofString "each",aQ x,ws.getD p default])):=by
  rw[dD (by rw[cN,cN,cN,BZ,mK];lia),YJ]
 have c2:(2:Nat)<=cap:=by decide
 refine⟨_,mO (gW ws.length p x),?_,⟨Str.ofString "each",aQ x::called ws [p],rfl,by simp,(show 2<=7 by decide),fun w hw=>?_,zU hn.1 h6 P1 hx (by decide +kernel) (QV h6 hp x)⟩,by rw[MX,rD],?_⟩
 ·unfold lr7
  simp only[rIf_at,rSeq_at,rSet_at,rRet_at,fB_at,f2_at,fC_at,fCall_at,fTup_at,aCons_at,aNil_at,fComp_at,fRange_at,fVar_at,List.set,zz0,zz1,jn,zz2,zz3,m4,eq,isB_bl,if_true,hr,bK,aJy,aK0,aKp,e3,tI_length,hcl,os,a1,a2,oIx_lst,ix0,a3,aJo,aJr,c2,fr]
  rfl
 ·rcases aIu.mp hw with rfl | hw
  ·exact nw
  ·exact qM hn P1.lt w hw
 ·have:=aEw (row:=gW ws.length p x)
  rwa [rD] at this
theorem YW {c x:Int}{ws:List Str}{l:List Nat}(hn:eP ws) (h1:2<=ws.length) (h6:ws.length<=6) (P:Plc ws.length l) (hx:x.natAbs<10^200) (h0:0<=x) (hc:c%4=2):∃ row tab,lr9 (stR c ws x l none none none)=some (.rt (.tup [.str row,.lst (tI tab)]))/\RowIs ws row tab:=by
 obtain⟨p,r,el,hp⟩:=LU P;have m4:aR (.int c) (.int 4)=some (.int (c%4)):=cZ (by decide);have eq:oEq (.int (c%4)) (.int 2)=some (.bl true):=by rw[hc];rfl
 have gt:oGt (.int (ws.length:Int)) (.int 1)=some (.bl true):=by rw[oGt_int,decide_eq_true (by lia)]
 have ix:atI (tI (tN' l)) 0=some (.int (p:Int)):=by rw[el];exact atI_nat (j:=0) rfl
 have d7:bG (.int (c / 4)) (.int 7)=some (.int (c / 4 / 7)):=fV (by decide) (by decide);have mh:aR (.int (c / 4 / 7)) (.int ((ws.length:Int)-1))=some (.int (c / 4 / 7%((ws.length:Int)-1))):=cZ (by lia);have q0:0<=c / 4 / 7%((ws.length:Int)-1):=aJ6 _ (by lia);have q1:c / 4 / 7%((ws.length:Int)-1)<(ws.length:Int)-1:=aJ5 _ (by lia);generalize c / 4 / 7%((ws.length:Int)-1)=d at mh q0 q1;have mo:aR (.int ((p:Int)+1+d)) (.int (ws.length:Int))=some (.int (((p:Int)+1+d)%(ws.length:Int))):=cZ (by lia);obtain⟨o,ho,on,op⟩:∃ o:Nat,((p:Int)+1+d)%(ws.length:Int)=(o:Int)/\o<ws.length/\o≠p:=by
  have b0:0<=((p:Int)+1+d)%(ws.length:Int):=aJ6 _ (by lia);have b1:((p:Int)+1+d)%(ws.length:Int)<(ws.length:Int):=aJ5 _ (by lia);refine⟨(((p:Int)+1+d)%(ws.length:Int)).toNat,by lia,by lia,fun z=>?_⟩
  by_cases hw:(p:Int)+1+d<(ws.length:Int)
  ·rw[Int.emod_eq_of_lt (by lia) hw] at z b0 b1;lia
  ·have e:((p:Int)+1+d)%(ws.length:Int)=(p:Int)+1+d-(ws.length:Int):=by
    rw[<- Int.sub_emod_right,Int.emod_eq_of_lt (by lia) (by lia)]
   rw[e] at z b0 b1;lia
 rw[ho] at mo;have P2:Plc ws.length [p,o]:=⟨by simp;lia,fun k hk=>by
  rcases aIu.mp hk with rfl | hk
  ·exact hp
  ·rw[aK7.mp hk];exact on,(show 1<=2 by decide),h1⟩
 have ck:rP ws.length (p,o,x):=⟨hp,on,fun z=>op z.symm,h0⟩;have fc:=EZ (n:=ws.length) (by lia) h6 (ps:=[(p,o,x)]) (show 1<=100 by decide) (fun q hq=>by rw[aK7.mp hq];exact ck);have tc:tP ctT [(p,o,x)]=[.tup [.int (p:Int),.int (o:Int),.int x]]:=rfl;rw[tc] at fc;have nw:=xH hx;have nl:=nw.1;have cp:=(qM hn P2.lt (ws.getD p default) (by unfold called;simp)).1;have co:=(qM hn P2.lt (ws.getD o default) (by unfold called;simp)).1;have ix0:=GV (ws:=ws) el;have ixo:atI (tW ws) (o:Int)=some (.str (ws.getD o default)):=atI_nat (by
  unfold tW;rw[aJk,aIk on,nJ on];rfl)
 have os:=xR hx;have a1:bS (.str "cut ") (.str (aQ x))=some (.str (Str.ofString "cut" ++ sp++aQ x)):=by
  have:=dD (x:=Str.ofString "cut ") (y:=aQ x) (by rw[HM,cN,sX,mK];lia);rw[HM] at this;exact this
 have a2:bS (.str (Str.ofString "cut" ++ sp++aQ x)) (.str " ")=some (.str (Str.ofString "cut" ++ sp++aQ x++sp)):=by
  have:=dD (x:=Str.ofString "cut" ++ sp++aQ x) (y:=Str.ofString " ") (by rw[jS,cN,cN,sX,mK];lia);rw[jS] at this;exact this
 have a3:bS (.str (Str.ofString "cut" ++ sp++aQ x++sp)) (.str (ws.getD p default))=some (.str (Str.ofString "cut" ++ sp++aQ x++sp++ws.getD p default)):=dD (by rw[cN,cN,cN,sX,mK];lia);have a4:bS (.str (Str.ofString "cut" ++ sp++aQ x++sp++ws.getD p default)) (.str " ")=some (.str (Str.ofString "cut" ++ sp++aQ x++sp++ws.getD p default++sp)):=by
  have:=dD (x:=Str.ofString "cut" ++ sp++aQ x++sp++ws.getD p default) (y:=Str.ofString " ") (by rw[jS,cN,cN,cN,cN,sX,mK];lia);rw[jS] at this;exact this
 have a5:bS (.str (Str.ofString "cut" ++ sp++aQ x++sp++ws.getD p default++sp)) (.str (ws.getD o default))=some (.str (Txt.join sp [Str.ofString "cut",aQ x,ws.getD p default,ws.getD o default])):=by
  rw[dD (by rw[cN,cN,cN,cN,cN,sX,mK];lia),YI]
 have c1:(1:Nat)<=cap:=by decide
 have c2:(2:Nat)<=cap:=by decide
 have c3:(3:Nat)<=cap:=by decide
 have gS:∀ z:Str,aV (.str z)=some (.str z):=fun _=>rfl;refine⟨_,(List.range (2^ws.length)).map (eU [(p,o,x)]),?_,⟨Str.ofString "cut",aQ x::called ws [p,o],rfl,by simp,(show 3<=7 by decide),fun w hw=>?_,zU hn.1 h6 P2 hx (by decide +kernel) (QU (by lia) h6 ck)⟩,by simp,aEv fun q hq=>by rw[aK7.mp hq];exact h0⟩
 ·unfold lr9
  simp only[rIf_at,rSeq_at,rSet_at,rRet_at,pAnd_at,fB_at,f1_at,f2_at,fC_at,fCall_at,fTup_at,fLst_at,aCons_at,aNil_at,fVar_at,List.set,zz0,zz1,jn,zz2,zz3,m4,eq,gt,isB_bl,if_true,oIx_lst,ix,oAdd_int,d7,oSub_int,mh,mo,os,a1,a2,ix0,a3,a4,ixo,a5,gS,gScal_int,aJo,aJr,c1,c2,c3,fc]
  rfl
 ·rcases aIu.mp hw with rfl | hw
  ·exact nw
  ·exact qM hn P2.lt w hw
theorem YV {c x:Int}{ws:List Str}{l:List Nat}(hn:eP ws) (h1:1<=ws.length) (h6:ws.length<=6) (P:Plc ws.length l) (hx:x.natAbs<10^200) (h0:0<=x):∃ row tab,aJ CA CB (stR c ws x l none none none)=some (.rt (.tup [.str row,.lst (tI tab)]))/\RowIs ws row tab:=by
 have hl:=P.len;have cl:(called ws l).length=l.length:=aJq _;have l6:∀ k∈l,k<6:=fun k hk=>aIq (P.lt k hk) h6;have fc:=EY (n:=ws.length) h1 h6 (ps:=[(x,gor l)]) (show 1<=100 by decide) (fun p hp=>by rw[aK7.mp hp];exact⟨h0,JH P.lt⟩);have tc:tP cvT [(x,gor l)]=[.tup [.int x,.int (gor l:Int)]]:=rfl;rw[tc] at fc;have nw:=xH hx;have cw:=qM hn P.lt;have os:=xR hx;have jo:JoinOk sp (Str.ofString "cover" :: aQ x::called ws l)=true:=xE (B:=201) (by decide) (fun w h=>by
  rcases aIu.mp h with rfl | h
  ·decide +kernel
  rcases aIu.mp h with rfl | h
  ·exact nw.1
  ·exact (cw w h).1) (by rw[aJo,aJo,cl];lia)
 have oj:=CT jo;have oc:cU (.lst [.str "cover",.str (aQ x)]) (.lst (tW (called ws l)))=some (.lst (tW (Str.ofString "cover" :: aQ x::called ws l))):=by
  rw[tD (by rw[dY,cl];show 2+l.length<=cap;unfold cap;lia)];rfl
 have e4:bC aO uL [none] (tI (tN' l))=some (tI (l.map fun k=>((2^k:Nat):Int))):=by
  have ea:tI (tN' l)=l.map fun (k:Nat)=>T.int (k:Int):=by unfold tI tN';rw[aJz];rfl
  have eb:tI (l.map fun k=>((2^k:Nat):Int))=l.map fun (k:Nat)=>T.int ((2^k:Nat):Int):=by unfold tI;rw[aJz];rfl
  rw[ea,eb];refine kZ _ _ l fun k hk=>?_;have sh:=fW (b:=k) (by have:=l6 k hk;lia);unfold uL;simp only[f2_at,fC_at,fVar_at,List.set,zz0,jn,zz2,sh]
 have su:jK [.lst (tI (l.map fun k=>((2^k:Nat):Int)))]=some (.int (gor l:Int)):=by rw[tL,aEz P.nd l6]
 have hcl:(l.map fun k=>((2^k:Nat):Int)).length<=cap:=by rw[aJq];unfold cap;lia
 have c1:(1:Nat)<=cap:=by decide
 have c2:(2:Nat)<=cap:=by decide
 have gS:∀ z:Str,aV (.str z)=some (.str z):=fun _=>rfl;refine⟨_,(List.range (2^ws.length)).map (eS [(x,gor l)]),?_,⟨Str.ofString "cover",aQ x::called ws l,rfl,by simp,by rw[aJo,cl];lia,fun w hw=>?_,zU hn.1 h6 P hx (by decide +kernel) (QT h1 h6 P h0)⟩,by simp,aEu fun q hq=>by rw[aK7.mp hq];exact h0⟩
 ·unfold CA CB
  simp only[rSeq_at,rSet_at,rRet_at,f1_at,f2_at,fC_at,fCall_at,fTup_at,fLst_at,aCons_at,aNil_at,fComp_at,fFL_at,fVar_at,List.set,zz0,zz1,jn,zz2,zz3,os,aJo,aJr,c1,c2,if_true,oc,oj,gS,gScal_int,jE,bK,aJy,aK0,aKp,e4,tI_length,hcl,su,fc]
 ·rcases aIu.mp hw with rfl | hw
  ·exact nw
  ·exact cw w hw
theorem QO (c:Int) {ws:List Str}(hn:eP ws) (h1:1<=ws.length) (h6:ws.length<=6):∃ (row:Str) (tab:List Int),mP [.int c,.lst (tW ws)]=some (.tup [.str row,.lst (tI tab)])/\RowIs ws row tab:=by
 obtain⟨x,ex,hx⟩:=FE (c / 4 / 11);obtain⟨l,el,P⟩:=QN (c / 4) h1 h6;have hx:x.natAbs<10^200:=aKk hx (by decide +kernel);have hl:=P.len;have d4:bG (.int c) (.int 4)=some (.int (c / 4)):=fV (by decide) (by decide);have d11:bG (.int (c / 4)) (.int 11)=some (.int (c / 4 / 11)):=fV (by decide) (by decide);have m4:aR (.int c) (.int 4)=some (.int (c%4)):=cZ (by decide);have e1:bC aO uI [none,some (.lst (tW ws))] (tI (tN' l))=some (tW (called ws l)):=by
  have ea:tI (tN' l)=l.map fun (k:Nat)=>T.int (k:Int):=by unfold tI tN';rw[aJz];rfl
  have eb:tW (called ws l)=l.map fun k=>T.str (ws.getD k default):=by unfold tW called;rw[aJz];rfl
  rw[ea,eb];refine kZ _ _ l fun k hk=>?_;have hk':=P.lt k hk;have ixo:atI (tW ws) (k:Int)=some (.str (ws.getD k default)):=atI_nat (by
   unfold tW;rw[aJk,aIk hk',nJ hk'];rfl)
  have gS:aV (.str (ws.getD k default))=some (.str (ws.getD k default)):=rfl;unfold uI;simp only[f1_at,f2_at,fVar_at,List.set,zz0,zz1,jn,zz2,oIx_lst,ixo,gS]
 have hcl:(tW (called ws l)).length<=cap:=by rw[dY,show (called ws l).length=l.length from aJq _];unfold cap;lia
 have s1:lr1 [some (.int c),some (.lst (tW ws)),none,none,none,none,none,none,none,none]=some (.nx [some (.int c),some (.lst (tW ws)),some (.int (ws.length:Int)),none,none,none,none,none,none,none]):=by
  unfold lr1;simp only[rSet_at,fCall_at,aCons_at,aNil_at,fVar_at,List.set,zz0,zz1,jn,zz2,zz3,oLen_lst,dY]
 have s2:lr2 [some (.int c),some (.lst (tW ws)),some (.int (ws.length:Int)),none,none,none,none,none,none,none]=some (.nx [some (.int c),some (.lst (tW ws)),some (.int (ws.length:Int)),some (.int (c / 4)),none,none,none,none,none,none]):=by
  unfold lr2;simp only[rSet_at,f2_at,fC_at,fVar_at,List.set,zz0,jn,zz2,zz3,d4]
 have s3:lr3 [some (.int c),some (.lst (tW ws)),some (.int (ws.length:Int)),some (.int (c / 4)),none,none,none,none,none,none]=some (.nx [some (.int c),some (.lst (tW ws)),some (.int (ws.length:Int)),some (.int (c / 4)),some (.int x),none,none,none,none,none]):=by
  unfold lr3;simp only[rSet_at,f1_at,f2_at,fC_at,fCall_at,aCons_at,aNil_at,fVar_at,List.set,zz0,zz1,jn,zz2,zz3,d11,ex,gScal_int]
 have s4:lr4 [some (.int c),some (.lst (tW ws)),some (.int (ws.length:Int)),some (.int (c / 4)),some (.int x),none,none,none,none,none]=some (.nx [some (.int c),some (.lst (tW ws)),some (.int (ws.length:Int)),some (.int (c / 4)),some (.int x),some (.lst (tI (tN' l))),none,none,none,none]):=by
  unfold lr4;simp only[rSet_at,fCall_at,aCons_at,aNil_at,fVar_at,List.set,zz0,zz1,jn,zz2,zz3,el]
 have s5:lr5 [some (.int c),some (.lst (tW ws)),some (.int (ws.length:Int)),some (.int (c / 4)),some (.int x),some (.lst (tI (tN' l))),none,none,none,none]=some (.nx (stR c ws x l none none none)):=by
  unfold lr5;simp only[rSet_at,fComp_at,fFL_at,fVar_at,List.set,zz0,zz1,jn,zz2,zz3,jE,bK,aJy,aK0,aKp,e1,hcl,if_true]
 rw[PB,YZ,dC s1,dC s2,dC s3,dC s4,dC s5];have q0:oEq (.int (c%4)) (.int 0)=some (.bl (c%4 == 0)):=rfl;have q1:oEq (.int (c%4)) (.int 1)=some (.bl (c%4 == 1)):=rfl;have q2:oEq (.int (c%4)) (.int 2)=some (.bl (c%4 == 2)):=rfl
 by_cases h0:c%4=0
 ·obtain⟨row,tab,e,R⟩:=YY (x:=x) (l:=l) h1 h6 h0
  exact⟨row,tab,by rw[EM e];rfl,R⟩
 have b0:(c%4 == 0)=false:=by rw[beq_eq_false_iff_ne];exact h0
 have s6:lr6 (stR c ws x l none none none)=some (.nx (stR c ws x l none none none)):=by
  unfold lr6;simp only[rIf_at,rNext_at,fB_at,f2_at,fC_at,fVar_at,zz0,jn,zz2,m4,q0,b0,isB_bl,aJ0,if_false]
 rw[dC s6]
 by_cases h1':c%4=1
 ·obtain⟨row,tab,e,R⟩:=YX (x:=x) (l:=l) hn h1 h6 P hx h1'
  exact⟨row,tab,by rw[EM e];rfl,R⟩
 have b1:(c%4 == 1)=false:=by rw[beq_eq_false_iff_ne];exact h1'
 have s7:lr7 (stR c ws x l none none none)=some (.nx (stR c ws x l none none none)):=by
  unfold lr7;simp only[rIf_at,rNext_at,fB_at,f2_at,fC_at,fVar_at,zz0,jn,zz2,m4,q1,b1,isB_bl,aJ0,if_false]
 have s8:lr8 (stR c ws x l none none none)=some (.nx (stR c ws (x.natAbs:Int) l none none none)):=by
  unfold lr8;simp only[rSet_at,fCall_at,aCons_at,aNil_at,fVar_at,List.set,zz0,zz1,jn,zz2,zz3,aA4]
 rw[dC s7,dC s8];have hx':((x.natAbs:Int)).natAbs<10^200:=by rw[Int.natAbs_natCast];exact hx
 have x0:0<=(x.natAbs:Int):=Int.natCast_nonneg _;generalize (x.natAbs:Int)=y at hx' x0
 by_cases h2:c%4=2/\2<=ws.length
 ·obtain⟨row,tab,e,R⟩:=YW (l:=l) hn h2.2 h6 P hx' x0 h2.1
  exact⟨row,tab,by rw[EM e];rfl,R⟩
 have s9:lr9 (stR c ws y l none none none)=some (.nx (stR c ws y l none none none)):=by
  unfold lr9;simp only[rIf_at,rNext_at,pAnd_at,fB_at,f2_at,fC_at,fVar_at,zz0,zz1,jn,zz2,m4,q2,isB_bl];cases hb:(c%4 == 2) with
  | false=>rfl
  | true=>
   have:decide ((1:Int)<(ws.length:Int))=false:=decide_eq_false (by
    have:=eq_of_beq hb;lia)
   rw[if_pos rfl,oGt_int,this];rfl
 rw[dC s9];obtain⟨row,tab,e,R⟩:=YV (c:=c) (l:=l) hn h1 h6 P hx' x0;exact⟨row,tab,by rw[e];rfl,R⟩
def nl:Str:=⟨#[10]⟩
theorem KP:Str.ofString "\n"=nl:=by decide +kernel
theorem aEs (d c:Nat) (r:List Nat):Txt.startswith ⟨(c::r).toArray⟩ ⟨#[d]⟩=(c == d):=by
 have e1:decide (0+(⟨#[d]⟩:Str).length<=(⟨(c::r).toArray⟩:Str).length)=true:=decide_eq_true (by show 0+1<=(c::r).toArray.size;simp);have e2:Builtin.Str.subAt ⟨(c::r).toArray⟩ ⟨#[d]⟩ 0=((#[c]:Array Nat) == #[d]):=by
  unfold Builtin.Str.subAt;have:((c::r).toArray).extract 0 (0+(⟨#[d]⟩:Str).length)=#[c]:=by
   show ((c::r).toArray).extract 0 1=#[c];simp
  rw[this]
 unfold Txt.startswith;rw[e1,e2,Bool.true_and];rw[aIz,beq_iff_eq,beq_iff_eq];simp
theorem EH {r:Str}{c:Nat}{t:List Nat}(e:chL r=c::t) (h:c≠35):gX r=false:=by
 have er:r=⟨(c::t).toArray⟩:=by rw[<- e];rfl
 have hs:Str.ofString "#" = ⟨#[35]⟩:=by decide +kernel
 unfold gX;rw[Bool.or_eq_false_iff];refine⟨decide_eq_false fun z=>?_,?_⟩
 ·rw[z] at e
  have:chL (Str.ofString "")=[]:=by decide +kernel
  rw[this] at e;cases e
 ·rw[hs,er,aEs,beq_eq_false_iff_ne];exact h
theorem Rds.app {Fm Fa Fn:List T->Option T}{a b:List Str}{s0 s1 s2:Option (List Str × List T)}(h:Rds Fm Fa Fn a s0 s1):Rds Fm Fa Fn b s1 s2->Rds Fm Fa Fn (a++b) s0 s2:=by
 induction h with
 | nil=>exact id
 | skip h _ ih=>exact fun k=>.skip h (ih k)
 | beg h b _ ih=>exact fun k=>.beg h b (ih k)
 | row h b _ ih=>exact fun k=>.row h b (ih k)
theorem JZ {l:List Str}{c:Nat}(h:c∈chL (Txt.join sp l)):c=32\/∃ w∈l,c∈chL w:=by
 have e:Txt.join sp l=Str.join sp l:=PySem.StrLaws.glued_eq_join _ _;rw[e] at h;rcases (PyProof.Rows.mem_join sp c l).mp h with ⟨w,hw,hc⟩ | ⟨_,hc⟩
 ·exact .inr ⟨w,hw,hc⟩
 ·exact .inl (by simpa [sp] using hc)
theorem BW {w0:Str}{wd:List Str}{c:Nat}{t:List Nat}(e:chL w0=c::t):∃ t',chL (Txt.join sp (w0::wd))=c::t':=by
 have ej:Txt.join sp (w0::wd)=Str.join sp (w0::wd):=PySem.StrLaws.glued_eq_join _ _;rw[ej];cases wd with
 | nil=>exact⟨t,e⟩
 | cons x r=>
  unfold sp;rw[fU,e];exact⟨_,rfl⟩
theorem KC {l:List Str}{B:Nat}(h:∀ w∈l,w.length<=B):(Txt.join sp l).length<=l.length*(B+1):=by
 have e:Txt.join sp l=Str.join sp l:=PySem.StrLaws.glued_eq_join _ _;rw[e];have j:=PySem.StrLaws.join_length_le sp l;have k:∀ l:List Str,(∀ w∈l,w.length<=B)->(l.map (·.length)).sum<=l.length*B:=by
  intro l
  induction l with
  | nil=>intro _;simp
  | cons x l ih=>
   intro hl;have:=ih fun w hw=>hl w (aIl _ hw);have:=hl x aIm;rw[aJy,List.sum_cons,aJo,Nat.succ_mul];lia
 have:=k l h;have:sp.length=1:=rfl;rw[Nat.mul_add,Nat.mul_one];rw[‹sp.length=1›,Nat.mul_one] at j;lia
def wds:List Str:=[Str.ofString "steps",Str.ofString "each",Str.ofString "cover",Str.ofString "cut"]
theorem aGe:wds.all (fun w=>(match chL w with | c::_=>decide (c≠35) | []=>false)&&(chL w).all (fun c=>decide (33<=c))&&decide (w.length<=201)&&decide (w≠Str.ofString "table")&&decide (w≠Str.ofString "ask"))=true:=by decide +kernel
theorem OU {w:Str}(h:w∈wds):(∃ c t,chL w=c::t/\c≠35)/\(∀ c∈chL w,33<=c)/\w.length<=201/\w≠Str.ofString "table" /\ w≠Str.ofString "ask":=by
 have:=aIo.mp aGe w h;simp only[aIw,decide_eq_true_eq,aIo] at this;obtain⟨⟨⟨⟨h1,h2⟩,h3⟩,h4⟩,h5⟩:=this;refine⟨?_,h2,h3,h4,h5⟩;cases e:chL w with
 | nil=>rw[e] at h1;cases h1
 | cons c t=>rw[e] at h1;exact⟨c,t,rfl,by simpa using h1⟩
structure RowOk (row:Str):Prop where
 sk:gX row=false
 no:10 ∉ chL row
 le:row.length<=2000
theorem RowIs.ok {ws:List Str}{row:Str}{tab:List Int}(R:RowIs ws row tab):RowOk row:=by
 obtain⟨w0,wd,e,hw0,hl,hw,_⟩:=R.ex;obtain⟨⟨c,t,ec,hc⟩,h33,hlen,_,_⟩:=OU hw0;obtain⟨t',ej⟩:=BW (wd:=wd) ec;subst e;refine⟨EH ej hc,fun z=>?_,?_⟩
 ·rcases JZ z with h | ⟨w,hm,h⟩
  ·lia
  ·rcases aIu.mp hm with rfl | hm
   ·have:=h33 _ h;lia
   ·have:=(hw w hm).2 _ h;lia
 ·have:=KC (l:=w0::wd) (B:=201) fun w hm=>by
   rcases aIu.mp hm with rfl | hm
   ·exact hlen
   ·exact (hw w hm).1
  rw[aJo] at this;have h2:(wd.length+1)*(201+1)<=8*202:=Nat.mul_le_mul (by lia) (by decide);lia
theorem EL {w0:Str}{wd:List Str}(h:∀ w∈w0::wd,∀ c∈chL w,33<=c):Txt.split (Txt.join sp (w0::wd)) sp=w0::wd:=
 NW (by simp) fun w hw z=>by have:=h w hw 32 z;lia
def tbT (nm:Str) (D:List Int):T:=.tup [.str nm,.lst (tI D)]
abbrev jP:=Rds dM cV dL
theorem aDe {ws:List Str}(h6:ws.length<=6) {row:Str}{tab D:List Int}(R:RowIs ws row tab) (hD:D.length=2^ws.length) (tb:List T) (nm:Str) {rs:List Str}{st':Option (List Str × List T)}(k:jP rs (some (ws,tb++[tbT nm (eG D tab)])) st'):jP (row::rs) (some (ws,tb++[tbT nm D])) st':=by
 obtain⟨w0,wd,e,hw0,hl,hw,em⟩:=R.ex;obtain⟨_,h33,hlen,n1,n2⟩:=OU hw0;have ok:=R.ok;have sp':Txt.split row (Str.ofString " ")=w0::wd:=by
  rw[jS,e];exact EL fun w hm=>by
   rcases aIu.mp hm with rfl | hm
   ·exact h33
   ·exact (hw w hm).2
 have p64:=kM h6;have ea:=zT (a:=D) (b:=tab) (by rw[hD,R.len]) (by lia);exact .row ok.sk (Row.more (tb:=tb) (nm:=nm) (t:=.lst (tI D)) sp' (by have:=ok.le;lia) (by lia) n1 n2 rfl em ea) k
theorem rV {a b:List Int}(h:a.length=b.length):(eG a b).length=a.length:=by unfold eG;rw[List.length_zipWith,h,Nat.min_self]
def cL (D:List Int) (pr:List (Str × List Int)):List Int:=pr.foldl (fun d p=>eG d p.2) D
theorem kR {ws:List Str}:∀ {pr:List (Str × List Int)}{D:List Int},(∀ p∈pr,RowIs ws p.1 p.2)->D.length=2^ws.length->(cL D pr).length=2^ws.length
 | [],D,_,h=>h
 | p::pr,D,hp,h=>by
  have hl:=(hp p aIm).len;exact kR (pr:=pr) (D:=eG D p.2) (fun q hq=>hp q (aIl _ hq)) (by rw[rV (by rw[h,hl])];exact h)
theorem yG {ws:List Str}(h6:ws.length<=6) (tb:List T) (nm:Str):∀ {pr:List (Str × List Int)}{D:List Int},(∀ p∈pr,RowIs ws p.1 p.2)->D.length=2^ws.length->jP (pr.map (·.1)) (some (ws,tb++[tbT nm D])) (some (ws,tb++[tbT nm (cL D pr)]))
 | [],D,_,_=>.nil
 | p::pr,D,hp,h=>by
  have R:=hp p aIm;exact aDe h6 R h tb nm (yG h6 tb nm (pr:=pr) (fun q hq=>hp q (aIl _ hq)) (by rw[rV (by rw[h,R.len])];exact h))
def gZ (nm:Nat):Str:=Str.ofString "table " ++ ⟨#[nm]⟩
theorem OH (c:Nat):gZ c=Txt.join sp [Str.ofString "table",⟨#[c]⟩]:=by
 have e:Txt.join sp [Str.ofString "table",⟨#[c]⟩]=Str.join sp [Str.ofString "table",⟨#[c]⟩]:=PySem.StrLaws.glued_eq_join _ _;rw[e]
 apply jZ
 unfold sp gZ;rw[fU,jY];have h1:chL (Str.ofString "table ")=chL (Str.ofString "table")++[32]:=by decide +kernel
 rw[h1,aJ8]
 rfl
theorem DQ {ws:List Str}(h6:ws.length<=6) {c:Nat}(hc:97<=c/\c<=122) {tabs:List T}(hl:tabs.length<1000) (hno:∀ t∈tabs,∃ k u,t=.tup [.str k,u]/\k≠⟨#[c]⟩) {rs:List Str}{st':Option (List Str × List T)}
  (k:jP rs (some (ws,tabs++[tbT ⟨#[c]⟩ (List.replicate (2^ws.length) 0)])) st'):jP (gZ c::rs) (some (ws,tabs)) st':=by
 have ht:∀ d∈chL (Str.ofString "table"),33<=d:=by
  have:(chL (Str.ofString "table")).all (fun d=>decide (33<=d))=true:=by decide +kernel
  exact fun d hd=>of_decide_eq_true (aIo.mp this d hd)
 have sp':Txt.split (gZ c) (Str.ofString " ")=[Str.ofString "table",⟨#[c]⟩]:=by
  rw[jS,OH];refine EL fun w hm=>?_;rcases aIu.mp hm with rfl | hm
  ·exact ht
  ·rw[aK7.mp hm]
   intro d hd;have:d=c:=by simpa [chL] using hd
   lia
 have hnm:jF ⟨#[c]⟩=true:=by
  unfold jF;have:chL (⟨#[c]⟩:Str)=[c]:=rfl;have hl1:(⟨#[c]⟩:Str).length=1:=rfl;rw[this,hl1];simp;lia
 obtain⟨t',ej⟩:=BW (w0:=Str.ofString "table") (wd:=[⟨#[c]⟩]) (c:=116) (t:=(chL (Str.ofString "table")).drop 1) (by decide +kernel);rw[<- OH] at ej;have hlen:(gZ c).length<=1000000:=by
  unfold gZ;rw[cN];have h1:(Str.ofString "table ").length=6:=by decide +kernel
  have h2:(⟨#[c]⟩:Str).length=1:=rfl;lia
 exact .row (EH ej (by decide)) (Row.tab sp' hlen hl h6 (FD hnm) hno) k
def bM (ws:List Str):Str:=Txt.join sp (Str.ofString "hands" :: ws)
theorem JN {ws:List Str}(hn:eP ws):∀ w∈Str.ofString "hands" :: ws,∀ c∈chL w,33<=c:=fun w hm=>by
 rcases aIu.mp hm with rfl | hm
 ·have:(chL (Str.ofString "hands")).all (fun d=>decide (33<=d))=true:=by decide +kernel
  exact fun d hd=>of_decide_eq_true (aIo.mp this d hd)
 ·intro c hc
  have:=(sV (hn.2 w hm)).2.2 c hc;lia
theorem BL {ws:List Str}(hn:eP ws) (h6:ws.length<=6):(bM ws).length<=100:=by
 have:=KC (l:=Str.ofString "hands" :: ws) (B:=8) fun w hm=>by
  rcases aIu.mp hm with rfl | hm
  ·decide +kernel
  ·exact (sV (hn.2 w hm)).2.1
 rw[aJo] at this;unfold bM;lia
theorem xB {ws:List Str}(hn:eP ws) (h6:ws.length<=6):RowOk (bM ws):=by
 obtain⟨t',ej⟩:=BW (w0:=Str.ofString "hands") (wd:=ws) (c:=104) (t:=(chL (Str.ofString "hands")).drop 1) (by decide +kernel);refine⟨EH ej (by decide),fun z=>?_,by have:=BL hn h6;lia⟩;rcases JZ z with h | ⟨w,hm,h⟩
 ·lia
 ·have:=JN hn w hm _ h;lia
theorem GK {ws:List Str}(hn:eP ws) (h1:1<=ws.length) (h6:ws.length<=6):rO dL (bM ws) ws:=by
 have hl:=BL hn h6;have es:Txt.split (bM ws) (Str.ofString " ")=Str.ofString "hands" :: ws:=by rw[jS];exact EL (JN hn)
 have os:CY (.str (bM ws)) (.str " ")=some (.lst (tW (Str.ofString "hands" :: ws))):=by
  show (if ((Str.ofString " ").length == 0)=false/\(bM ws).length<=cap/\(Txt.split (bM ws) (Str.ofString " ")).length<=cap then some (T.lst (tW (Txt.split (bM ws) (Str.ofString " ")))) else none)=_;rw[es,if_pos ⟨by decide +kernel,by unfold cap;lia,by rw[aJo];unfold cap;lia⟩]
 have sl:cF (tW (Str.ofString "hands" :: ws)) (some 1) none none=tW ws:=by rw[rM _ (by decide)];rfl
 have gf:mD (.lst (tW ws))=some (.lst (tW ws)):=by
  unfold mD;dsimp only;rw[if_pos (AT _)]
 have ix:=AJ (w0:=Str.ofString "hands") (wd:=ws);have ne:oNe (.str (Str.ofString "hands")) (.str "hands")=some (.bl false):=by show some (T.bl (!(Str.ofString "hands" == Str.ofString "hands")))=_;rw[beq_self_eq_true];rfl
 have lt:oLt (.int (ws.length:Int)) (.int 1)=some (.bl false):=by rw[oLt_int,decide_eq_false (by lia)]
 have gt:oGt (.int (ws.length:Int)) (.int 6)=some (.bl false):=by rw[oGt_int,decide_eq_false (by lia)]
 have ec:bC aO (bgE dL) [none] (tW ws)=some (ws.map fun _=>T.bl true):=by
  refine kZ T.str _ ws fun w hw=>?_;unfold bgE;simp only[f1_at,fCall_at,aCons_at,aNil_at,fVar_at,List.set,zz0,jn,zz2,FD (hn.2 w hw),gScal_bl]
 have ab:jH [.lst (ws.map fun _=>T.bl true)]=some (.bl true):=by
  have:G.allB (ws.map fun _=>T.bl true)=some (ws.map fun _=>true):=by
   generalize ws=l
   induction l with
   | nil=>rfl
   | cons a r ih=>simp only[aJy,G.allB,ih];rfl
  show (G.allB _).map _=_;rw[this];simp
 have cl:(ws.map fun _=>T.bl true).length<=cap:=by rw[aJq];unfold cap;lia
 have ls:tF [.lst (tW ws)]=some (.int (ws.length:Nat)):=by
  show (cW (ws.map T.str)).bind (fun l=>if l.length<=1000 then some (T.int ((dsS [] l).length:Nat)) else none)=_;rw[nG,zz2,if_pos (by lia),HY hn.1]
 have ll:oLt (.int (ws.length:Int)) (.int (ws.length:Int))=some (.bl false):=by rw[oLt_int,decide_eq_false (Int.lt_irrefl _)]
 refine⟨tW (Str.ofString "hands" :: ws),?_,?_,?_,?_⟩
 ·unfold bg1
  simp only[rSet_at,f2_at,fC_at,fVar_at,List.set,zz0,jn,zz2,zz3,os]
 ·unfold bg2
  simp only[rSetM_at,f1_at,fSlice_at,oSome_at,oNone_at,fC_at,fVar_at,List.set,zz0,zz1,jn,zz2,zz3,isI_int,reduceCtorEq,if_false,sl,gf,okM_lst,if_true]
 ·unfold bg3
  simp only[rIf_at,rNext_at,pOr_at,fB_at,f2_at,fC_at,fCall_at,aCons_at,aNil_at,fVar_at,zz0,zz1,jn,zz2,oIx_lst,ix,ne,oLen_lst,dY,lt,gt,isB_bl,aJ0,if_false]
 ·unfold bg4
  simp only[rIf_at,rNext_at,pOr_at,pNot_at,fT_at,truT_bl,fB_at,f2_at,fCall_at,aCons_at,aNil_at,fComp_at,fFL_at,fVar_at,zz0,zz1,jn,zz2,zz3,BQ,bK,aJy,aK0,aKp,ec,cl,if_true,ab,Bool.not_true,aJ0,if_false,ls,oLen_lst,dY,ll,isB_bl]
theorem MJ {rows:List Str}(h0:rows≠[]) (hl:rows.length<=100) (hr:∀ r∈rows,10 ∉ chL r/\r.length<=2000) {p:List Str × List T}(k:jP rows none (some p)):rT dM cV dL (Txt.join nl rows) p:=by
 have es:Txt.split (Txt.join nl rows) (Str.ofString "\n")=rows:=by rw[KP];exact NW h0 fun r h=>(hr r h).1
 have len:(Txt.join nl rows).length<=1000000:=by
  have e:Txt.join nl rows=Str.join nl rows:=PySem.StrLaws.glued_eq_join _ _;rw[e];have j:=PySem.StrLaws.join_length_le nl rows;have k:∀ l:List Str,(∀ w∈l,w.length<=2000)->(l.map (·.length)).sum<=l.length*2000:=by
   intro l
   induction l with
   | nil=>intro _;simp
   | cons x l ih=>
    intro hl;have:=ih fun w hw=>hl w (aIl _ hw);have:=hl x aIm;rw[aJy,List.sum_cons,aJo,Nat.succ_mul];lia
  have:=k rows fun r h=>(hr r h).2;have h1:nl.length=1:=rfl;rw[h1,Nat.mul_one] at j;lia
 refine⟨aKf len (by rw[sizeLine_eq];decide),?_,?_⟩
 ·rw[es,sizeLine_eq];lia
 ·rw[es];exact k
theorem aA8 {l:List Str}(hl:l.length<=100) (h:∀ w∈l,w.length<=2000):eL (.str "\n") (.lst (tW l))=some (.str (Txt.join nl l)):=by
 have jo:JoinOk nl l=true:=xE (B:=2000) (by decide) h (by lia);show (cW (l.map T.str)).bind (fun l=>if JoinOk (Str.ofString "\n") l = true then some (T.str (Txt.join (Str.ofString "\n") l)) else none)=_;rw[nG,zz2,KP,if_pos jo]
theorem vW {c:Nat}(hc:97<=c/\c<=122):10 ∉ chL (gZ c)/\(gZ c).length<=2000:=by
 unfold gZ;refine⟨fun z=>?_,?_⟩
 ·rw[jY] at z
  rcases aK1.mp z with z | z
  ·revert z;decide +kernel
  ·have:10=c:=by simpa [chL] using z
   lia
 ·rw[cN]
  have h1:(Str.ofString "table ").length=6:=by decide +kernel
  have h2:(⟨#[c]⟩:Str).length=1:=rfl;lia
def tR:Str:=gZ 116
def uR:Str:=gZ 117
theorem aFu:Str.ofString "table t" = tR:=by decide +kernel
theorem aG7:Str.ofString "table u" = uR:=by decide +kernel
theorem OK:Str.ofString "t" = ⟨#[116]⟩:=by decide +kernel
theorem aG8:Str.ofString "u" = ⟨#[117]⟩:=by decide +kernel
def z0 (n:Nat):List Int:=List.replicate (2^n) 0
theorem MI {ws:List Str}(hn:eP ws) (h1:1<=ws.length) (h6:ws.length<=6) {pr:List (Str × List Int)}(hl:pr.length<=63) (hp:∀ p∈pr,RowIs ws p.1 p.2):
  fM dM cV dL [.str (Txt.join nl ([bM ws,tR]++pr.map (·.1)))]=some (.lst [tbT ⟨#[116]⟩ (cL (z0 ws.length) pr)]):=by
 have k:jP ([bM ws,tR]++pr.map (·.1)) none (some (ws,[]++[tbT ⟨#[116]⟩ (cL (z0 ws.length) pr)])):=
  .beg (xB hn h6).sk (GK hn h1 h6) (DQ h6 (c:=116) (by decide) (tabs:=[]) (by decide) (fun t ht=>by cases ht) (yG h6 [] ⟨#[116]⟩ hp (by simp[z0])))
 refine MH (MJ (by simp) (by simp;lia) (fun r hr=>?_) k);rcases aK1.mp hr with hr | hr
 ·rcases aIu.mp hr with rfl | hr
  ·have:=xB hn h6;exact⟨this.no,this.le⟩
  ·rw[aK7.mp hr];exact vW (by decide)
 ·obtain⟨p,hq,rfl⟩:=aK4.mp hr
  have:=(hp p hq).ok;exact⟨this.no,this.le⟩
theorem aDh {ws:List Str}(hn:eP ws) (h1:1<=ws.length) (h6:ws.length<=6) {pr qr:List (Str × List Int)}(hl:pr.length+qr.length<=63) (hp:∀ p∈pr,RowIs ws p.1 p.2) (hq:∀ p∈qr,RowIs ws p.1 p.2):
  fM dM cV dL [.str (Txt.join nl ([bM ws,tR]++(pr.map (·.1)++[uR]++qr.map (·.1))))]=some (.lst [tbT ⟨#[116]⟩ (cL (z0 ws.length) pr),tbT ⟨#[117]⟩ (cL (z0 ws.length) qr)]):=by
 have k2:jP ([uR]++qr.map (·.1)) (some (ws,[]++[tbT ⟨#[116]⟩ (cL (z0 ws.length) pr)])) (some (ws,([]++[tbT ⟨#[116]⟩ (cL (z0 ws.length) pr)])++[tbT ⟨#[117]⟩ (cL (z0 ws.length) qr)])):=
  DQ h6 (c:=117) (by decide) (tabs:=[]++[tbT ⟨#[116]⟩ (cL (z0 ws.length) pr)]) (by rw[List.nil_append,aJu];decide) (fun t ht=>by
   rw[List.nil_append] at ht;rw[aK7.mp ht];exact⟨_,_,rfl,by decide⟩) (yG h6 _ ⟨#[117]⟩ hq (by simp[z0]))
 have k:jP ([bM ws,tR]++(pr.map (·.1)++[uR]++qr.map (·.1))) none (some (ws,([]++[tbT ⟨#[116]⟩ (cL (z0 ws.length) pr)])++[tbT ⟨#[117]⟩ (cL (z0 ws.length) qr)])):=by
  refine .beg (xB hn h6).sk (GK hn h1 h6) (DQ h6 (c:=116) (by decide) (tabs:=[]) (by decide) (fun t ht=>by cases ht) ?_);show jP (pr.map (·.1)++[uR]++qr.map (·.1)) _ _;rw[aJ8];exact Rds.app (yG h6 [] ⟨#[116]⟩ hp (by simp[z0])) k2
 refine MH (MJ (by simp) (by simp;lia) (fun r hr=>?_) k);have prs:∀ {pr:List (Str × List Int)},(∀ p∈pr,RowIs ws p.1 p.2)->r∈pr.map (·.1)->10 ∉ chL r/\r.length<=2000:=fun {pr} hp hr=>by
  obtain⟨p,hq,rfl⟩:=aK4.mp hr;have:=(hp p hq).ok;exact⟨this.no,this.le⟩
 rcases aK1.mp hr with hr | hr
 ·rcases aIu.mp hr with rfl | hr
  ·have:=xB hn h6;exact⟨this.no,this.le⟩
  ·rw[aK7.mp hr];exact vW (by decide)
 ·rcases aK1.mp hr with hr | hr
  ·rcases aK1.mp hr with hr | hr
   ·exact prs hp hr
   ·rw[aK7.mp hr];exact vW (by decide)
  ·exact prs hq hr
noncomputable def lw1:Rho->Option Out:=aS 1 (f1 (aG (aD (aA 0) (aD (fC (.int 0)) aE)) fO) aV)
noncomputable def lw2:Rho->Option Out:=aS 2 (aG (aD (f2 (aA 1) (fC (.int 6)) bG) (aD (f2 (fC (.int 1)) (f2 (aA 1) (fC (.int 6)) aR) cA) aE)) kU)
noncomputable def lw3:Rho->Option Out:=aS 3 (bA (fFL (aA 0)) [none,some 2] aO vK)
noncomputable def lw4:Rho->Option Out:=aS 4 (f2 (fC (.lst (tI [0]))) (f2 (fC (.int 1)) (aG (aD (aA 2) aE) cD) dQ) tK)
noncomputable def lw5:Rho->Option Out:=kO 5 (fL (aA 3)) rH
noncomputable def lw6:Rho->Option Out:=aS 6 (cG (aD (f2 (fC (.str "hands ")) (f2 (fC (.str " ")) (aA 2) eL) bS) (aD (fC (.str "table t")) aE)))
noncomputable def lw7:Rho->Option Out:=aS 7 (aG (aD (f2 (fC (.str "\n")) (f2 (aA 6) (bA (fL (aA 3)) [none] aO yW) cU) eL) aE) (fM dM cV dL))
noncomputable def lw8:Rho->Option Out:=rIf (pOr (fB (f2 (aA 7) (cG (aD (dI (aD (fC (.str "t")) (aD (aA 4) aE))) aE)) oNe)) (fB (f2 (aG (aD (aA 4) aE) jV) (fC (.bl true)) qZ))) (aT (fC (.bl false))) bE
noncomputable def lw9:Rho->Option Out:=aS 8 (aG (aD (f2 (fC (.str "\n")) (f2 (aA 6) (bA (fRv (aA 3)) [none] aO yX) cU) eL) aE) (fM dM cV dL))
noncomputable def CC:Rho->Option Out:=aS 9 (f2 (aG (aD (aA 0) (aD (fC (.int 1)) aE)) fO) (f2 (aG (aD (aA 3) aE) cD) (fC (.int 1)) cA) aR)
noncomputable def CD:Rho->Option Out:=aS 10 (f2 (f2 (bA (fL (fG (aA 3) cJ (eW (aA 9)) cJ)) [none] aO yY) (cG (aD (fC (.str "table u")) aE)) cU) (bA (fL (fG (aA 3) (eW (aA 9)) cJ cJ)) [none] aO yZ) cU)
noncomputable def CF:Rho->Option Out:=aS 11 (aG (aD (f2 (fC (.str "\n")) (f2 (aA 6) (aA 10) cU) eL) aE) (fM dM cV dL))
noncomputable def CG:Rho->Option Out:=rIf (pOr (fB (f2 (aA 8) (aA 7) oNe)) (fB (f2 (bA (fL (aA 11)) [none] aO zA) (cG (aD (fC (.str "t")) (aD (fC (.str "u")) aE))) oNe))) (aT (fC (.bl false))) bE
noncomputable def KK:Rho->Option Out:=aT (f2 (aG (aD (f2 (f2 (aA 11) (fC (.int 0)) oIx) (fC (.int 1)) oIx) (aD (f2 (f2 (aA 11) (fC (.int 1)) oIx) (fC (.int 1)) oIx) aE)) cV) (aA 4) oEq)
theorem ZB:vJ=aJ lw1 (aJ lw2 (aJ lw3 (aJ lw4 (aJ lw5 (aJ lw6 (aJ lw7 (aJ lw8 (aJ lw9 (aJ CC (aJ CD (aJ CF (aJ CG KK)))))))))))):=rfl
theorem FU {a b:List Int}(h:a.length=b.length) (g:Nat):(eG a b).getD g 0=a.getD g 0+b.getD g 0:=by
 unfold eG;rw[aIj,aIj,aIj,List.getElem?_zipWith]
 by_cases hg:g<a.length
 ·rw[aIk hg,aIk (show g<b.length by lia)];rfl
 ·rw[List.getElem?_eq_none (by lia),List.getElem?_eq_none (by lia)];rfl
theorem II {a b:List Int}(hl:a.length=b.length) (h:∀ g,a.getD g 0=b.getD g 0):a=b:=by
 refine List.ext_getElem hl fun g h1 h2=>?_;have:=h g
 rwa [aIj,aIj,aIk h1,aIk h2] at this
def dS (pr:List (Str × List Int)) (g:Nat):Int:=(pr.map fun p=>p.2.getD g 0).sum
theorem jU {ws:List Str}(g:Nat):∀ {pr:List (Str × List Int)}{D:List Int},(∀ p∈pr,RowIs ws p.1 p.2)->D.length=2^ws.length->(cL D pr).getD g 0=D.getD g 0+dS pr g
 | [],D,_,_=>by simp[cL,dS]
 | p::pr,D,hp,h=>by
  have R:=hp p aIm;have ih:=jU g (pr:=pr) (D:=eG D p.2) (fun q hq=>hp q (aIl _ hq)) (by rw[rV (by rw[h,R.len])];exact h);have e:dS (p::pr) g=p.2.getD g 0+dS pr g:=by simp[dS]
  show (cL (eG D p.2) pr).getD g 0=_;rw[ih,FU (by rw[h,R.len]),e];lia
theorem OB (a b:List (Str × List Int)) (g:Nat):dS (a++b) g=dS a g+dS b g:=by simp[dS]
theorem aEy (a:List (Str × List Int)) (g:Nat):dS a.reverse g=dS a g:=by
 induction a with
 | nil=>rfl
 | cons x a ih=>
  rw[List.reverse_cons,OB,ih];simp only[dS,aJy,aK0,List.sum_cons,List.sum_nil];lia
theorem vZ (n g:Nat):(z0 n).getD g 0=0:=by
 unfold z0;rw[aIj]
 by_cases h:g<2^n
 ·rw[aIk (by simpa using h)];simp
 ·rw[List.getElem?_eq_none (by simpa using Nat.not_lt.mp h)];rfl
theorem dZ (n:Nat):(z0 n).length=2^n:=by simp[z0]
theorem aF0 {ws:List Str}{pr:List (Str × List Int)}(hp:∀ p∈pr,RowIs ws p.1 p.2):cL (z0 ws.length) pr.reverse=cL (z0 ws.length) pr:=by
 have hr:∀ p∈pr.reverse,RowIs ws p.1 p.2:=fun p h=>hp p (List.mem_reverse.mp h);refine II (by rw[kR hr (dZ _),kR hp (dZ _)]) fun g=>?_;rw[jU g hr (dZ _),jU g hp (dZ _),aEy]
theorem aF2 {ws:List Str}{a b:List (Str × List Int)}(ha:∀ p∈a,RowIs ws p.1 p.2) (hb:∀ p∈b,RowIs ws p.1 p.2):eG (cL (z0 ws.length) a) (cL (z0 ws.length) b)=cL (z0 ws.length) (a++b):=by
 have hab:∀ p∈a++b,RowIs ws p.1 p.2:=fun p h=>(aK1.mp h).elim (ha p) (hb p);have l1:=kR ha (dZ _);have l2:=kR hb (dZ _);refine II (by rw[rV (by rw[l1,l2]),l1,kR hab (dZ _)]) fun g=>?_;rw[FU (by rw[l1,l2]),jU g ha (dZ _),jU g hb (dZ _),jU g hab (dZ _),OB,vZ];lia
theorem aF1 {ws:List Str}{pr:List (Str × List Int)}(hp:∀ p∈pr,RowIs ws p.1 p.2):Sub ws.length (cL (z0 ws.length) pr):=fun a b ha hb=>by
 rw[jU _ hp (dZ _),jU _ hp (dZ _),jU _ hp (dZ _),jU _ hp (dZ _),vZ,vZ,vZ,vZ];have key:∀ pr:List (Str × List Int),(∀ p∈pr,RowIs ws p.1 p.2)->dS pr (a|||b)+dS pr (a&&&b)<=dS pr a+dS pr b:=by
  intro pr
  induction pr with
  | nil=>intro _;exact Int.le_refl _
  | cons x pr ih=>
   intro h;have i:=ih fun q hq=>h q (aIl _ hq);have s:=(h x aIm).sub a b ha hb;have e:∀ g,dS (x::pr) g=x.2.getD g 0+dS pr g:=fun g=>by simp[dS]
   rw[e,e,e,e];lia
 have:=key pr hp;lia
def prT (p:Str × List Int):T:=.tup [.str p.1,.lst (tI p.2)]
theorem aAa {n:Nat}(h6:n<=6):tK (.lst (tI [0])) (.int ((2^n:Nat):Int))=some (.lst (tI (z0 n))):=by
 have h:=kM h6;show (if 0<=((2^n:Nat):Int)/\((2^n:Nat):Int)<=cap then some (T.lst (List.replicate ((2^n:Nat):Int).toNat (T.int 0))) else none)=_;rw[if_pos ⟨Int.natCast_nonneg _,by unfold cap;lia⟩,aJ7];unfold z0 tI;rw[List.map_replicate]
theorem FW {ws:List Str}(h6:ws.length<=6) (r0 r1 r2 r3 r6 r7 r8 r9 r10 r11:Option T):∀ {pr:List (Str × List Int)}{D:List Int}{x5:Option T},(∀ p∈pr,RowIs ws p.1 p.2)->D.length=2^ws.length->∃ y5,dJ 5 rH (pr.map prT) [r0,r1,r2,r3,some (.lst (tI D)),x5,r6,r7,r8,r9,r10,r11]=some (.nx [r0,r1,r2,r3,some (.lst (tI (cL D pr))),y5,r6,r7,r8,r9,r10,r11])
 | [],D,x5,_,_=>⟨x5,rfl⟩
 | p::pr,D,x5,hp,h=>by
  have R:=hp p aIm;have p64:=kM h6;have ea:=zT (a:=D) (b:=p.2) (by rw[h,R.len]) (by lia);obtain⟨y5,e⟩:=FW h6 r0 r1 r2 r3 r6 r7 r8 r9 r10 r11 (pr:=pr) (D:=eG D p.2) (x5:=some (prT p)) (fun q hq=>hp q (aIl _ hq)) (by rw[rV (by rw[h,R.len])];exact h);refine⟨y5,?_⟩;have ix:oIx (prT p) (.int 1)=some (.lst (tI p.2)):=rfl;rw[aJy,AW];have st:rH ([r0,r1,r2,r3,some (.lst (tI D)),x5,r6,r7,r8,r9,r10,r11].set 5 (some (prT p)))=some (.nx [r0,r1,r2,r3,some (.lst (tI (eG D p.2))),some (prT p),r6,r7,r8,r9,r10,r11]):=by
   unfold rH;simp only[rSet_at,f2_at,fC_at,fCall_at,aCons_at,aNil_at,fVar_at,List.set,zz0,zz1,jn,zz2,zz3,ix,ea]
  rw[st];exact e
theorem EU (ns:List Int) (k:Nat):fO [.lst (tI ns),.int (k:Int)]=some (.int (ns.getD k 0)):=by
 rw[OW];unfold uC
 by_cases h:k<ns.length
 ·simp[h,qK h]
 ·simp[h]
theorem HS (l:List Int):depL (tI l)=0:=by
 induction l with
 | nil=>rfl
 | cons a r ih=>show max (dep (.int a)) (depL (tI r))=0;rw[ih];rfl
theorem TF (a:Str) (D:List Int):dep (.lst [tbT a D])<=60:=by simp[tbT,dep,depL,HS]
theorem wK {l:List (Str × List Int)}{f:Rho->Option T}(hf:f=f1 (f2 (aA 0) (fC (.int 0)) oIx) aV):bC aO f [none] (l.map prT)=some (tW (l.map (·.1))):=by
 have et:tW (l.map (·.1))=l.map fun p=>T.str p.1:=by unfold tW;rw[aJz];rfl
 rw[et];refine kZ prT _ l fun p _=>?_;have ix:oIx (prT p) (.int 0)=some (.str p.1):=rfl;have g:aV (.str p.1)=some (.str p.1):=rfl;rw[hf];simp only[f1_at,f2_at,fC_at,fVar_at,List.set,zz0,jn,zz2,ix,g]
theorem QM (ns:List Int) (h:ns.length<=63):qI [.lst (ns.map T.int)]=some (.bl true):=by
 show qI [.lst (tI ns)]=_;have c0:fO [.lst (tI ns),.int 0]=some (.int (ns.getD 0 0)):=EU ns 0;have c1:fO [.lst (tI ns),.int 1]=some (.int (ns.getD 1 0)):=EU ns 1;generalize ns.getD 0 0=h0 at c0;generalize ns.getD 1 0=h1 at c1;have d6:bG (.int h0) (.int 6)=some (.int (h0 / 6)):=fV (by decide) (by decide);have m6:aR (.int h0) (.int 6)=some (.int (h0%6)):=cZ (by decide);obtain⟨m,hm,m1,mm⟩:∃ m:Nat,1+h0%6=(m:Int)/\1<=m/\m<=6:=⟨(1+h0%6).toNat,by lia,by lia,by lia⟩;obtain⟨ws,en,hl,hn⟩:=QW (h0 / 6) mm;have w1:1<=ws.length:=by lia
 have w6:ws.length<=6:=by lia
 have p64:=kM w6;have s1:lw1 [some (.lst (tI ns)),none,none,none,none,none,none,none,none,none,none,none]=some (.nx [some (.lst (tI ns)),some (.int h0),none,none,none,none,none,none,none,none,none,none]):=by
  unfold lw1;simp only[rSet_at,f1_at,fC_at,fCall_at,aCons_at,aNil_at,fVar_at,List.set,zz0,jn,zz2,zz3,c0,gScal_int]
 have s2:lw2 [some (.lst (tI ns)),some (.int h0),none,none,none,none,none,none,none,none,none,none]=some (.nx [some (.lst (tI ns)),some (.int h0),some (.lst (tW ws)),none,none,none,none,none,none,none,none,none]):=by
  unfold lw2;simp only[rSet_at,f2_at,fC_at,fCall_at,aCons_at,aNil_at,fVar_at,List.set,zz0,zz1,jn,zz2,zz3,d6,m6,oAdd_int,hm,en]
 obtain⟨pr,ep,hpl,hp⟩:=HH (f:=vK) (ρ:=[none,some (.lst (tW ws))]) (fun p:Str × List Int=>RowIs ws p.1 p.2) prT (fun i=>by
  obtain⟨row,tab,e,R⟩:=QO i hn w1 w6;refine⟨(row,tab),R,?_⟩;unfold vK;simp only[fCall_at,aCons_at,aNil_at,fVar_at,List.set,zz0,zz1,jn,zz2,e]
  rfl) ns
 have hpc:(pr.map prT).length<=cap:=by rw[aJq,hpl];unfold cap;lia
 have s3:lw3 [some (.lst (tI ns)),some (.int h0),some (.lst (tW ws)),none,none,none,none,none,none,none,none,none]=some (.nx [some (.lst (tI ns)),some (.int h0),some (.lst (tW ws)),some (.lst (pr.map prT)),none,none,none,none,none,none,none,none]):=by
  unfold lw3;simp only[rSet_at,fComp_at,fFL_at,fVar_at,List.set,zz0,zz1,jn,zz2,zz3,jE,bK,aJy,aK0,aKp,ep,hpc,if_true]
 have sh:=fW (b:=ws.length) (by lia);have s4:lw4 [some (.lst (tI ns)),some (.int h0),some (.lst (tW ws)),some (.lst (pr.map prT)),none,none,none,none,none,none,none,none]=some (.nx [some (.lst (tI ns)),some (.int h0),some (.lst (tW ws)),some (.lst (pr.map prT)),some (.lst (tI (z0 ws.length))),none,none,none,none,none,none,none]):=by
  unfold lw4;simp only[rSet_at,f2_at,fC_at,fCall_at,aCons_at,aNil_at,fVar_at,List.set,zz0,zz1,jn,zz2,zz3,oLen_lst,dY,sh,aAa w6]
 obtain⟨y5,el⟩:=FW w6 (some (.lst (tI ns))) (some (.int h0)) (some (.lst (tW ws))) (some (.lst (pr.map prT))) none none none none none none (pr:=pr) (D:=z0 ws.length) (x5:=none) hp (dZ _);have eD:=kR hp (dZ ws.length);have sD:=aF1 hp;have r1:=MI hn w1 w6 (by lia) hp;have rv:=MI hn w1 w6 (pr:=pr.reverse) (by rw[List.length_reverse];lia) (fun p hq=>hp p (List.mem_reverse.mp hq));rw[aF0 hp] at rv;obtain⟨D,hD⟩:∃ D,D=cL (z0 ws.length) pr:=⟨_,rfl⟩;have s5:lw5 [some (.lst (tI ns)),some (.int h0),some (.lst (tW ws)),some (.lst (pr.map prT)),some (.lst (tI (z0 ws.length))),none,none,none,none,none,none,none]=some (.nx [some (.lst (tI ns)),some (.int h0),some (.lst (tW ws)),some (.lst (pr.map prT)),some (.lst (tI D)),y5,none,none,none,none,none,none]):=by
  unfold lw5;rw[rFor_at];simp only[fL_at,fVar_at,zz1,zz0,jn,zz2,isL_lst,el,hD]
 rw[<- hD] at eD sD r1 rv;have hdl:=BL hn w6;have jo:JoinOk sp ws=true:=xE (B:=8) (by decide) (fun w hw=>(sV (hn.2 w hw)).2.1) (by lia);have oj:=CT jo;have hh:Str.ofString "hands " ++ Txt.join sp ws=bM ws:=by
  have e:Txt.join sp ws=Str.join sp ws:=PySem.StrLaws.glued_eq_join _ _;have e':bM ws=Str.join sp (Str.ofString "hands" :: ws):=PySem.StrLaws.glued_eq_join _ _;rw[e,e']
  apply jZ
  cases ws with
  | nil=>simp at w1
  | cons x r=>
   unfold sp;rw[fU,jY];have h1:chL (Str.ofString "hands ")=chL (Str.ofString "hands")++[32]:=by decide +kernel
   rw[h1,aJ8]
   rfl
 have ad:bS (.str "hands ") (.str (Txt.join sp ws))=some (.str (bM ws)):=by
  have:=dD (x:=Str.ofString "hands ") (y:=Txt.join sp ws) (by rw[<- cN,hh];lia);rw[hh] at this;exact this
 have c2:(2:Nat)<=cap:=by decide
 have s6:lw6 [some (.lst (tI ns)),some (.int h0),some (.lst (tW ws)),some (.lst (pr.map prT)),some (.lst (tI D)),y5,none,none,none,none,none,none]=some (.nx [some (.lst (tI ns)),some (.int h0),some (.lst (tW ws)),some (.lst (pr.map prT)),some (.lst (tI D)),y5,some (.lst (tW [bM ws,tR])),none,none,none,none,none]):=by
  have et:tW [bM ws,tR]=[.str (bM ws),.str (Str.ofString "table t")]:=by rw[aFu];rfl
  rw[et];unfold lw6;simp only[rSet_at,f2_at,fC_at,fLst_at,aCons_at,aNil_at,fVar_at,List.set,zz0,zz1,jn,zz2,zz3,oj,ad,aJo,aJr,c2,if_true]
 have prl:∀ {l:List (Str × List Int)},(∀ p∈l,RowIs ws p.1 p.2)->∀ r∈l.map (·.1),r.length<=2000:=fun {l} hl r hr=>by
  obtain⟨p,hq,rfl⟩:=aK4.mp hr;exact (hl p hq).ok.le
 have hdr:∀ r∈[bM ws,tR],r.length<=2000:=fun r hr=>by
  rcases aIu.mp hr with rfl | hr
  ·lia
  ·rw[aK7.mp hr];exact (vW (by decide)).2
 have cat:∀ {l:List Str},l.length<=100->cU (.lst (tW [bM ws,tR])) (.lst (tW l))=some (.lst (tW ([bM ws,tR]++l))):=fun {l} hl=>by
  rw[tD (by rw[dY,dY];show 2+l.length<=cap;unfold cap;lia)];unfold tW;rw[List.map_append]
 have jnl:∀ {l:List Str},l.length<=98->(∀ r∈l,r.length<=2000)->eL (.str "\n") (.lst (tW ([bM ws,tR]++l)))=some (.str (Txt.join nl ([bM ws,tR]++l))):=fun {l} hl hr=>aA8 (by rw[aJn];show 2+l.length<=100;lia) fun r h=>(aK1.mp h).elim (hdr r) (hr r);have e2:=wK (l:=pr) (f:=yW) rfl;have e3:=wK (l:=pr.reverse) (f:=yX) rfl;have q1:=cat (l:=pr.map (·.1)) (by rw[aJq];lia);have q2:=jnl (l:=pr.map (·.1)) (by rw[aJq];lia) (prl hp);have q3:=cat (l:=pr.reverse.map (·.1)) (by rw[aJq,List.length_reverse];lia);have q4:=jnl (l:=pr.reverse.map (·.1)) (by rw[aJq,List.length_reverse];lia) (prl fun p hq=>hp p (List.mem_reverse.mp hq));have lc:∀ l:List (Str × List Int),l.length<=63->(tW (l.map (·.1))).length<=cap:=fun l hl=>by rw[dY,aJq];unfold cap;lia
 have lc1:=lc pr (by lia);have lc2:=lc pr.reverse (by rw[List.length_reverse];lia);have tk:∀ ρ:Rho,bK [none] ρ=[none]:=fun _=>rfl;have s7:lw7 [some (.lst (tI ns)),some (.int h0),some (.lst (tW ws)),some (.lst (pr.map prT)),some (.lst (tI D)),y5,some (.lst (tW [bM ws,tR])),none,none,none,none,none]=some (.nx [some (.lst (tI ns)),some (.int h0),some (.lst (tW ws)),some (.lst (pr.map prT)),some (.lst (tI D)),y5,some (.lst (tW [bM ws,tR])),some (.lst [tbT ⟨#[116]⟩ D]),none,none,none,none]):=by
  unfold lw7;simp only[rSet_at,f2_at,fC_at,fCall_at,aCons_at,aNil_at,fComp_at,fL_at,fVar_at,List.set,zz0,zz1,jn,zz2,zz3,isL_lst,tk,e2,lc1,if_true,q1,q2,r1]
 have ff:jV [.lst (tI D)]=some (.bl true):=by
  have:=PZ w6 eD;rw[VA w6 sD] at this;exact this
 have n1:oNe (.lst [tbT ⟨#[116]⟩ D]) (.lst [tbT ⟨#[116]⟩ D])=some (.bl false):=KZ (TF _ _);have nb:qZ (.bl true) (.bl true)=some (.bl false):=rfl;have et1:T.lst [tbT ⟨#[116]⟩ D]=.lst [.tup [.str (Str.ofString "t"),.lst (tI D)]]:=by rw[OK];rfl
 have cc1:(1:Nat)<=cap:=by decide
 have s8:lw8 [some (.lst (tI ns)),some (.int h0),some (.lst (tW ws)),some (.lst (pr.map prT)),some (.lst (tI D)),y5,some (.lst (tW [bM ws,tR])),some (.lst [tbT ⟨#[116]⟩ D]),none,none,none,none]=some (.nx [some (.lst (tI ns)),some (.int h0),some (.lst (tW ws)),some (.lst (pr.map prT)),some (.lst (tI D)),y5,some (.lst (tW [bM ws,tR])),some (.lst [tbT ⟨#[116]⟩ D]),none,none,none,none]):=by
  unfold lw8;simp only[rIf_at,rNext_at,pOr_at,fB_at,f2_at,fC_at,fCall_at,fTup_at,fLst_at,aCons_at,aNil_at,fVar_at,zz0,zz1,jn,zz2,aJo,aJr,cc1,c2,if_true,<- et1,n1,isB_bl,aJ0,if_false,ff,nb]
 have s9:lw9 [some (.lst (tI ns)),some (.int h0),some (.lst (tW ws)),some (.lst (pr.map prT)),some (.lst (tI D)),y5,some (.lst (tW [bM ws,tR])),some (.lst [tbT ⟨#[116]⟩ D]),none,none,none,none]=some (.nx [some (.lst (tI ns)),some (.int h0),some (.lst (tW ws)),some (.lst (pr.map prT)),some (.lst (tI D)),y5,some (.lst (tW [bM ws,tR])),some (.lst [tbT ⟨#[116]⟩ D]),some (.lst [tbT ⟨#[116]⟩ D]),none,none,none]):=by
  have rvv:BS (.lst (pr.map prT))=some (pr.reverse.map prT):=by show some (pr.map prT).reverse=_;rw[List.map_reverse]
  have fr:∀ (f:Rho->Option T) (ρ:Rho),fRv f ρ=(f ρ).bind BS:=fun _ _=>rfl;unfold lw9;simp only[rSet_at,f2_at,fC_at,fCall_at,aCons_at,aNil_at,fComp_at,fr,fVar_at,List.set,zz0,zz1,jn,zz2,zz3,rvv,tk,e3,lc2,if_true,q3,q4,rv]
 obtain⟨k,hk,hkn⟩:∃ k:Nat,h1%((pr.length:Int)+1)=(k:Int)/\k<=pr.length:=by
  have a0:0<=h1%((pr.length:Int)+1):=aJ6 _ (by lia);have a1:h1%((pr.length:Int)+1)<(pr.length:Int)+1:=aJ5 _ (by lia);exact⟨(h1%((pr.length:Int)+1)).toNat,by lia,by lia⟩
 have mk:aR (.int h1) (.int ((pr.length:Int)+1))=some (.int (k:Int)):=by rw[<- hk];exact cZ (by lia)
 have lm:(pr.map prT).length=pr.length:=aJq _;have s10:CC [some (.lst (tI ns)),some (.int h0),some (.lst (tW ws)),some (.lst (pr.map prT)),some (.lst (tI D)),y5,some (.lst (tW [bM ws,tR])),some (.lst [tbT ⟨#[116]⟩ D]),some (.lst [tbT ⟨#[116]⟩ D]),none,none,none]=some (.nx [some (.lst (tI ns)),some (.int h0),some (.lst (tW ws)),some (.lst (pr.map prT)),some (.lst (tI D)),y5,some (.lst (tW [bM ws,tR])),some (.lst [tbT ⟨#[116]⟩ D]),some (.lst [tbT ⟨#[116]⟩ D]),some (.int (k:Int)),none,none]):=by
  unfold CC;simp only[rSet_at,f2_at,fC_at,fCall_at,aCons_at,aNil_at,fVar_at,List.set,zz0,zz1,jn,zz2,zz3,c1,oLen_lst,lm,oAdd_int,mk]
 have ha:∀ p∈pr.take k,RowIs ws p.1 p.2:=fun p hq=>hp p (List.mem_of_mem_take hq);have hb:∀ p∈pr.drop k,RowIs ws p.1 p.2:=fun p hq=>hp p (List.mem_of_mem_drop hq);have la:(pr.take k).length<=63:=by rw[List.length_take];lia
 have lb:(pr.drop k).length<=63:=by rw[List.length_drop];lia
 have sl1:cF (pr.map prT) none (some (k:Int)) none=(pr.take k).map prT:=by rw[EI _ (by lia),aJ7,List.map_take]
 have sl2:cF (pr.map prT) (some (k:Int)) none none=(pr.drop k).map prT:=by rw[rM _ (by lia),aJ7,List.map_drop]
 have e4:=wK (l:=pr.take k) (f:=yY) rfl;have e5:=wK (l:=pr.drop k) (f:=yZ) rfl;have lc4:=lc (pr.take k) la;have lc5:=lc (pr.drop k) lb;have ct1:cU (.lst (tW ((pr.take k).map (·.1)))) (.lst [.str "table u"])=some (.lst (tW ((pr.take k).map (·.1)++[uR]))):=by
  have eu:[T.str (Str.ofString "table u")]=tW [uR]:=by rw[aG7];rfl
  rw[show ([T.str "table u"]:List T)=[T.str (Str.ofString "table u")] from rfl,eu,tD (by rw[dY,dY,aJq];show (pr.take k).length+1<=cap;unfold cap;lia)];unfold tW;rw[List.map_append]
 have ct2:cU (.lst (tW ((pr.take k).map (·.1)++[uR]))) (.lst (tW ((pr.drop k).map (·.1))))=some (.lst (tW ((pr.take k).map (·.1)++[uR]++(pr.drop k).map (·.1)))):=by
  rw[tD (by rw[dY,dY,aJn,aJq,aJq];show (pr.take k).length+1+(pr.drop k).length<=cap;unfold cap;lia)];simp only[tW,List.map_append]
 have s11:CD [some (.lst (tI ns)),some (.int h0),some (.lst (tW ws)),some (.lst (pr.map prT)),some (.lst (tI D)),y5,some (.lst (tW [bM ws,tR])),some (.lst [tbT ⟨#[116]⟩ D]),some (.lst [tbT ⟨#[116]⟩ D]),some (.int (k:Int)),none,none]=some (.nx [some (.lst (tI ns)),some (.int h0),some (.lst (tW ws)),some (.lst (pr.map prT)),some (.lst (tI D)),y5,some (.lst (tW [bM ws,tR])),some (.lst [tbT ⟨#[116]⟩ D]),some (.lst [tbT ⟨#[116]⟩ D]),some (.int (k:Int)),some (.lst (tW ((pr.take k).map (·.1)++[uR]++(pr.drop k).map (·.1)))),none]):=by
  unfold CD;simp only[rSet_at,f2_at,fC_at,fLst_at,aCons_at,aNil_at,fComp_at,fL_at,fSlice_at,oSome_at,oNone_at,fVar_at,List.set,zz0,zz1,jn,zz2,zz3,isI_int,reduceCtorEq,if_false,sl1,sl2,isL_lst,tk,e4,e5,lc4,lc5,if_true,aJo,aJr,cc1,ct1,ct2]
 have ltk:(pr.take k).length+(pr.drop k).length=pr.length:=by rw[List.length_take,List.length_drop];lia
 have lall:((pr.take k).map (·.1)++[uR]++(pr.drop k).map (·.1)).length<=64:=by
  rw[aJn,aJn,aJq,aJq,aJu];lia
 have q5:=cat (l:=(pr.take k).map (·.1)++[uR]++(pr.drop k).map (·.1)) (by lia);have q6:=jnl (l:=(pr.take k).map (·.1)++[uR]++(pr.drop k).map (·.1)) (by lia) (fun r hr=>by
  rcases aK1.mp hr with hr | hr
  ·rcases aK1.mp hr with hr | hr
   ·exact prl ha r hr
   ·rw[aK7.mp hr];exact (vW (by decide)).2
  ·exact prl hb r hr)
 have r2:=aDh hn w1 w6 (pr:=pr.take k) (qr:=pr.drop k) (by lia) ha hb;have sm:=aF2 ha hb;rw[List.take_append_drop,<- hD] at sm;have dA:=kR ha (dZ ws.length);have dB:=kR hb (dZ ws.length);generalize cL (z0 ws.length) (pr.take k)=A at r2 sm dA;generalize cL (z0 ws.length) (pr.drop k)=B at r2 sm dB;have s12:CF [some (.lst (tI ns)),some (.int h0),some (.lst (tW ws)),some (.lst (pr.map prT)),some (.lst (tI D)),y5,some (.lst (tW [bM ws,tR])),some (.lst [tbT ⟨#[116]⟩ D]),some (.lst [tbT ⟨#[116]⟩ D]),some (.int (k:Int)),some (.lst (tW ((pr.take k).map (·.1)++[uR]++(pr.drop k).map (·.1)))),none]=some (.nx [some (.lst (tI ns)),some (.int h0),some (.lst (tW ws)),some (.lst (pr.map prT)),some (.lst (tI D)),y5,some (.lst (tW [bM ws,tR])),some (.lst [tbT ⟨#[116]⟩ D]),some (.lst [tbT ⟨#[116]⟩ D]),some (.int (k:Int)),some (.lst (tW ((pr.take k).map (·.1)++[uR]++(pr.drop k).map (·.1)))),some (.lst [tbT ⟨#[116]⟩ A,tbT ⟨#[117]⟩ B])]):=by
  unfold CF;simp only[rSet_at,f2_at,fC_at,fCall_at,aCons_at,aNil_at,fVar_at,List.set,zz0,zz1,jn,zz2,zz3,q5,q6,r2]
 have e6:bC aO zA [none] [tbT ⟨#[116]⟩ A,tbT ⟨#[117]⟩ B]=some [.str ⟨#[116]⟩,.str ⟨#[117]⟩]:=rfl;have etu:[T.str ⟨#[116]⟩,T.str ⟨#[117]⟩]=[T.str (Str.ofString "t"),T.str (Str.ofString "u")]:=by rw[OK,aG8]
 have n2:oNe (.lst [T.str (Str.ofString "t"),T.str (Str.ofString "u")]) (.lst [T.str (Str.ofString "t"),T.str (Str.ofString "u")])=some (.bl false):=KZ (by simp[dep,depL]);have s13:∀ x,CG [some (.lst (tI ns)),some (.int h0),some (.lst (tW ws)),some (.lst (pr.map prT)),some (.lst (tI D)),y5,some (.lst (tW [bM ws,tR])),some (.lst [tbT ⟨#[116]⟩ D]),some (.lst [tbT ⟨#[116]⟩ D]),some (.int (k:Int)),x,some (.lst [tbT ⟨#[116]⟩ A,tbT ⟨#[117]⟩ B])]=some (.nx [some (.lst (tI ns)),some (.int h0),some (.lst (tW ws)),some (.lst (pr.map prT)),some (.lst (tI D)),y5,some (.lst (tW [bM ws,tR])),some (.lst [tbT ⟨#[116]⟩ D]),some (.lst [tbT ⟨#[116]⟩ D]),some (.int (k:Int)),x,some (.lst [tbT ⟨#[116]⟩ A,tbT ⟨#[117]⟩ B])]):=fun x=>by
  unfold CG;simp only[rIf_at,rNext_at,pOr_at,fB_at,f2_at,fC_at,fLst_at,aCons_at,aNil_at,fComp_at,fL_at,fVar_at,zz0,zz1,jn,zz2,isL_lst,tk,e6,aJo,aJr,c2,if_true,n1,etu,n2,isB_bl,aJ0,if_false]
 have fa:=zT (a:=A) (b:=B) (by rw[dA,dB]) (by lia);rw[sm] at fa;have i0:atI [tbT ⟨#[116]⟩ A,tbT ⟨#[117]⟩ B] 0=some (tbT ⟨#[116]⟩ A):=rfl;have i1:atI [tbT ⟨#[116]⟩ A,tbT ⟨#[117]⟩ B] 1=some (tbT ⟨#[117]⟩ B):=rfl;have j0:oIx (tbT ⟨#[116]⟩ A) (.int 1)=some (.lst (tI A)):=rfl;have j1:oIx (tbT ⟨#[117]⟩ B) (.int 1)=some (.lst (tI B)):=rfl;have eq:oEq (.lst (tI D)) (.lst (tI D))=some (.bl true):=aA5 (by simp[dep,HS]);rw[QL,ZB,dC s1,dC s2,dC s3,dC s4,dC s5,dC s6,dC s7,dC s8,dC s9,dC s10,dC s11,dC s12,dC (s13 _)];unfold KK;simp only[rRet_at,f2_at,fC_at,fCall_at,aCons_at,aNil_at,fVar_at,zz0,zz1,jn,zz2,zz3,oIx_lst,i0,i1,j0,j1,fa,eq,outT_rt]
@[elab_as_elim] theorem ln1 {P:List Value->Prop}:∀ (us:List Value) (_:us.length=1) (f:∀ a0,P [a0]),P us
 | [a0],_,f=>f a0
@[elab_as_elim] theorem ln2 {P:List Value->Prop}:∀ (us:List Value) (_:us.length=2) (f:∀ a0 a1,P [a0,a1]),P us
 | [a0,a1],_,f=>f a0 a1
@[elab_as_elim] theorem ln3 {P:List Value->Prop}:∀ (us:List Value) (_:us.length=3) (f:∀ a0 a1 a2,P [a0,a1,a2]),P us
 | [a0,a1,a2],_,f=>f a0 a1 a2
@[elab_as_elim] theorem ln4 {P:List Value->Prop}:∀ (us:List Value) (_:us.length=4) (f:∀ a0 a1 a2 a3,P [a0,a1,a2,a3]),P us
 | [a0,a1,a2,a3],_,f=>f a0 a1 a2 a3
theorem all_mk {l:PySem.W.OpenLaw}{w:World}{K:PySem.W.Frag}{h:Heap}{mg:Str->Option Value}{fa f0 f1 f2 f3 f4 f5 f6 f7 f8 f9 f10 f11 f12 f13 f14 f15 f16 f17 f18 f19 f20 f21 f22 f23 f24 f25 f26 f27 f28 f29 f30 f31 f32 f33 f34 f35 f36 f37 f38 f39 f40:Addr}(X:K.In h) (G0:h.Ns mainGlobals mg) (hfa:mg "law" = some (.ref fa))
  {od0 an0:Option Addr} {sl0:Array (Option Value)} {oc0 kV0 dc0 pm0 cd0 ct0:Value} (a0:FA K "_law_cell" f0) (l0:FL K f0 "_law_cell" nZ .none oc0 od0 kV0 dc0 pm0 an0 cd0 ct0 sl0) (cc0:FC K cd0 "_law_cell") (k0:FK K f0)
  {od1 an1:Option Addr} {sl1:Array (Option Value)} {oc1 kV1 dc1 pm1 cd1 ct1:Value} (a1:FA K "_law_names" f1) (l1:FL K f1 "_law_names" pB .none oc1 od1 kV1 dc1 pm1 an1 cd1 ct1 sl1) (cc1:FC K cd1 "_law_names") (k1:FK K f1)
  {od2 an2:Option Addr} {sl2:Array (Option Value)} {oc2 kV2 dc2 pm2 cd2 ct2:Value} (a2:FA K "_law_number" f2) (l2:FL K f2 "_law_number" pD .none oc2 od2 kV2 dc2 pm2 an2 cd2 ct2 sl2) (cc2:FC K cd2 "_law_number") (k2:FK K f2)
  {od3 an3:Option Addr} {sl3:Array (Option Value)} {oc3 kV3 dc3 pm3 cd3 ct3:Value} (a3:FA K "_law_hands_of" f3) (l3:FL K f3 "_law_hands_of" pA .none oc3 od3 kV3 dc3 pm3 an3 cd3 ct3 sl3) (cc3:FC K cd3 "_law_hands_of") (k3:FK K f3)
  {od4 an4:Option Addr} {sl4:Array (Option Value)} {oc4 kV4 dc4 pm4 cd4 ct4:Value} (a4:FA K "_law_steps_of" f4) (l4:FL K f4 "_law_steps_of" pF .none oc4 od4 kV4 dc4 pm4 an4 cd4 ct4 sl4) (cc4:FC K cd4 "_law_steps_of") (k4:FK K f4)
  {od5 an5:Option Addr} {sl5:Array (Option Value)} {oc5 kV5 dc5 pm5 cd5 ct5:Value} (a5:FA K "check_hands" f5) (l5:FL K f5 "check_hands" pL .none oc5 od5 kV5 dc5 pm5 an5 cd5 ct5 sl5) (cc5:FC K cd5 "check_hands") (k5:FK K f5)
  {od6 an6:Option Addr} {sl6:Array (Option Value)} {oc6 kV6 dc6 pm6 cd6 ct6:Value} (a6:FA K "hands_in" f6) (l6:FL K f6 "hands_in" pT .none oc6 od6 kV6 dc6 pm6 an6 cd6 ct6 sl6) (cc6:FC K cd6 "hands_in") (k6:FK K f6)
  {od7 an7:Option Addr} {sl7:Array (Option Value)} {oc7 kV7 dc7 pm7 cd7 ct7:Value} (a7:FA K "many_in" f7) (l7:FL K f7 "many_in" pX .none oc7 od7 kV7 dc7 pm7 an7 cd7 ct7 sl7) (cc7:FC K cd7 "many_in") (k7:FK K f7)
  {od8 an8:Option Addr} {sl8:Array (Option Value)} {oc8 kV8 dc8 pm8 cd8 ct8:Value} (a8:FA K "from_steps" f8) (l8:FL K f8 "from_steps" pR .none oc8 od8 kV8 dc8 pm8 an8 cd8 ct8 sl8) (cc8:FC K cd8 "from_steps") (k8:FK K f8)
  {od9 an9:Option Addr} {sl9:Array (Option Value)} {oc9 kV9 dc9 pm9 cd9 ct9:Value} (a9:FA K "row_gives" f9) (l9:FL K f9 "row_gives" qD .none oc9 od9 kV9 dc9 pm9 an9 cd9 ct9 sl9) (cc9:FC K cd9 "row_gives") (k9:FK K f9)
  {od10 an10:Option Addr} {sl10:Array (Option Value)} {oc10 kV10 dc10 pm10 cd10 ct10:Value} (a10:FA K "row_table" f10) (l10:FL K f10 "row_table" qE .none oc10 od10 kV10 dc10 pm10 an10 cd10 ct10 sl10) (cc10:FC K cd10 "row_table") (k10:FK K f10)
  {od11 an11:Option Addr} {sl11:Array (Option Value)} {oc11 kV11 dc11 pm11 cd11 ct11:Value} (a11:FA K "check_weight" f11) (l11:FL K f11 "check_weight" pM .none oc11 od11 kV11 dc11 pm11 an11 cd11 ct11 sl11) (cc11:FC K cd11 "check_weight") (k11:FK K f11)
  {od12 an12:Option Addr} {sl12:Array (Option Value)} {oc12 kV12 dc12 pm12 cd12 ct12:Value} (a12:FA K "check_cuts" f12) (l12:FL K f12 "check_cuts" pK .none oc12 od12 kV12 dc12 pm12 an12 cd12 ct12 sl12) (cc12:FC K cd12 "check_cuts") (k12:FK K f12)
  {od13 an13:Option Addr} {sl13:Array (Option Value)} {oc13 kV13 dc13 pm13 cd13 ct13:Value} (a13:FA K "within" f13) (l13:FL K f13 "within" qH .none oc13 od13 kV13 dc13 pm13 an13 cd13 ct13 sl13) (cc13:FC K cd13 "within") (k13:FK K f13)
  {od14 an14:Option Addr} {sl14:Array (Option Value)} {oc14 kV14 dc14 pm14 cd14 ct14:Value} (a14:FA K "is_cut" f14) (l14:FL K f14 "is_cut" pV .none oc14 od14 kV14 dc14 pm14 an14 cd14 ct14 sl14) (cc14:FC K cd14 "is_cut") (k14:FK K f14)
  {od15 an15:Option Addr} {sl15:Array (Option Value)} {oc15 kV15 dc15 pm15 cd15 ct15:Value} (a15:FA K "from_cuts" f15) (l15:FL K f15 "from_cuts" pQ .none oc15 od15 kV15 dc15 pm15 an15 cd15 ct15 sl15) (cc15:FC K cd15 "from_cuts") (k15:FK K f15)
  {od16 an16:Option Addr} {sl16:Array (Option Value)} {oc16 kV16 dc16 pm16 cd16 ct16:Value} (a16:FA K "check_covers" f16) (l16:FL K f16 "check_covers" pJ .none oc16 od16 kV16 dc16 pm16 an16 cd16 ct16 sl16) (cc16:FC K cd16 "check_covers") (k16:FK K f16)
  {od17 an17:Option Addr} {sl17:Array (Option Value)} {oc17 kV17 dc17 pm17 cd17 ct17:Value} (a17:FA K "from_covers" f17) (l17:FL K f17 "from_covers" pP .none oc17 od17 kV17 dc17 pm17 an17 cd17 ct17 sl17) (cc17:FC K cd17 "from_covers") (k17:FK K f17)
  {od18 an18:Option Addr} {sl18:Array (Option Value)} {oc18 kV18 dc18 pm18 cd18 ct18:Value} (a18:FA K "_law_row" f18) (l18:FL K f18 "_law_row" pE .none oc18 od18 kV18 dc18 pm18 an18 cd18 ct18 sl18) (cc18:FC K cd18 "_law_row") (k18:FK K f18)
  {od19 an19:Option Addr} {sl19:Array (Option Value)} {oc19 kV19 dc19 pm19 cd19 ct19:Value} (a19:FA K "must_be_alike" f19) (l19:FL K f19 "must_be_alike" pZ .none oc19 od19 kV19 dc19 pm19 an19 cd19 ct19 sl19) (cc19:FC K cd19 "must_be_alike") (k19:FK K f19)
  {od20 an20:Option Addr} {sl20:Array (Option Value)} {oc20 kV20 dc20 pm20 cd20 ct20:Value} (a20:FA K "added" f20) (l20:FL K f20 "added" pG .none oc20 od20 kV20 dc20 pm20 an20 cd20 ct20 sl20) (cc20:FC K cd20 "added") (k20:FK K f20)
  {od21 an21:Option Addr} {sl21:Array (Option Value)} {oc21 kV21 dc21 pm21 cd21 ct21:Value} (a21:FA K "is_name" f21) (l21:FL K f21 "is_name" pW .none oc21 od21 kV21 dc21 pm21 an21 cd21 ct21 sl21) (cc21:FC K cd21 "is_name") (k21:FK K f21)
  {od22 an22:Option Addr} {sl22:Array (Option Value)} {oc22 kV22 dc22 pm22 cd22 ct22:Value} (a22:FA K "number_in" f22) (l22:FL K f22 "number_in" qB .none oc22 od22 kV22 dc22 pm22 an22 cd22 ct22 sl22) (cc22:FC K cd22 "number_in") (k22:FK K f22)
  {od23 an23:Option Addr} {sl23:Array (Option Value)} {oc23 kV23 dc23 pm23 cd23 ct23:Value} (a23:FA K "numbers_in" f23) (l23:FL K f23 "numbers_in" qC .none oc23 od23 kV23 dc23 pm23 an23 cd23 ct23 sl23) (cc23:FC K cd23 "numbers_in") (k23:FK K f23)
  {od24 an24:Option Addr} {sl24:Array (Option Value)} {oc24 kV24 dc24 pm24 cd24 ct24:Value} (a24:FA K "steps_more" f24) (l24:FL K f24 "steps_more" qF .none oc24 od24 kV24 dc24 pm24 an24 cd24 ct24 sl24) (cc24:FC K cd24 "steps_more") (k24:FK K f24)
  {od25 an25:Option Addr} {sl25:Array (Option Value)} {oc25 kV25 dc25 pm25 cd25 ct25:Value} (a25:FA K "hands_named" f25) (l25:FL K f25 "hands_named" pU .none oc25 od25 kV25 dc25 pm25 an25 cd25 ct25 sl25) (cc25:FC K cd25 "hands_named") (k25:FK K f25)
  {od26 an26:Option Addr} {sl26:Array (Option Value)} {oc26 kV26 dc26 pm26 cd26 ct26:Value} (a26:FA K "group_of" f26) (l26:FL K f26 "group_of" pS .none oc26 od26 kV26 dc26 pm26 an26 cd26 ct26 sl26) (cc26:FC K cd26 "group_of") (k26:FK K f26)
  {od27 an27:Option Addr} {sl27:Array (Option Value)} {oc27 kV27 dc27 pm27 cd27 ct27:Value} (a27:FA K "named_more" f27) (l27:FL K f27 "named_more" qA .none oc27 od27 kV27 dc27 pm27 an27 cd27 ct27 sl27) (cc27:FC K cd27 "named_more") (k27:FK K f27)
  {od28 an28:Option Addr} {sl28:Array (Option Value)} {oc28 kV28 dc28 pm28 cd28 ct28:Value} (a28:FA K "more_of" f28) (l28:FL K f28 "more_of" pY .none oc28 od28 kV28 dc28 pm28 an28 cd28 ct28 sl28) (cc28:FC K cd28 "more_of") (k28:FK K f28)
  {od29 an29:Option Addr} {sl29:Array (Option Value)} {oc29 kV29 dc29 pm29 cd29 ct29:Value} (a29:FA K "table_named" f29) (l29:FL K f29 "table_named" zH .none oc29 od29 kV29 dc29 pm29 an29 cd29 ct29 sl29) (cc29:FC K cd29 "table_named") (k29:FK K f29)
  {od30 an30:Option Addr} {sl30:Array (Option Value)} {oc30 kV30 dc30 pm30 cd30 ct30:Value} (a30:FA K "takes_table" f30) (l30:FL K f30 "takes_table" zK .none oc30 od30 kV30 dc30 pm30 an30 cd30 ct30 sl30) (cc30:FC K cd30 "takes_table") (k30:FK K f30)
  {od31 an31:Option Addr} {sl31:Array (Option Value)} {oc31 kV31 dc31 pm31 cd31 ct31:Value} (a31:FA K "takes_more" f31) (l31:FL K f31 "takes_more" zI .none oc31 od31 kV31 dc31 pm31 an31 cd31 ct31 sl31) (cc31:FC K cd31 "takes_more") (k31:FK K f31)
  {od32 an32:Option Addr} {sl32:Array (Option Value)} {oc32 kV32 dc32 pm32 cd32 ct32:Value} (a32:FA K "takes_row" f32) (l32:FL K f32 "takes_row" zJ .none oc32 od32 kV32 dc32 pm32 an32 cd32 ct32 sl32) (cc32:FC K cd32 "takes_row") (k32:FK K f32)
  {od33 an33:Option Addr} {sl33:Array (Option Value)} {oc33 kV33 dc33 pm33 cd33 ct33:Value} (a33:FA K "begun_page" f33) (l33:FL K f33 "begun_page" fZ .none oc33 od33 kV33 dc33 pm33 an33 cd33 ct33 sl33) (cc33:FC K cd33 "begun_page") (k33:FK K f33)
  {od34 an34:Option Addr} {sl34:Array (Option Value)} {oc34 kV34 dc34 pm34 cd34 ct34:Value} (a34:FA K "read_page" f34) (l34:FL K f34 "read_page" zG .none oc34 od34 kV34 dc34 pm34 an34 cd34 ct34 sl34) (cc34:FC K cd34 "read_page") (k34:FK K f34)
  {od35 an35:Option Addr} {sl35:Array (Option Value)} {oc35 kV35 dc35 pm35 cd35 ct35:Value} (a35:FA K "everybody" f35) (l35:FL K f35 "everybody" pN .none oc35 od35 kV35 dc35 pm35 an35 cd35 ct35 sl35) (cc35:FC K cd35 "everybody") (k35:FK K f35)
  {od36 an36:Option Addr} {sl36:Array (Option Value)} {oc36 kV36 dc36 pm36 cd36 ct36:Value} (a36:FA K "two_break" f36) (l36:FL K f36 "two_break" qG .none oc36 od36 kV36 dc36 pm36 an36 cd36 ct36 sl36) (cc36:FC K cd36 "two_break") (k36:FK K f36)
  {od37 an37:Option Addr} {sl37:Array (Option Value)} {oc37 kV37 dc37 pm37 cd37 ct37:Value} (a37:FA K "break_beside" f37) (l37:FL K f37 "break_beside" pH .none oc37 od37 kV37 dc37 pm37 an37 cd37 ct37 sl37) (cc37:FC K cd37 "break_beside") (k37:FK K f37)
  {od38 an38:Option Addr} {sl38:Array (Option Value)} {oc38 kV38 dc38 pm38 cd38 ct38:Value} (a38:FA K "break_of" f38) (l38:FL K f38 "break_of" pI .none oc38 od38 kV38 dc38 pm38 an38 cd38 ct38 sl38) (cc38:FC K cd38 "break_of") (k38:FK K f38)
  {od39 an39:Option Addr} {sl39:Array (Option Value)} {oc39 kV39 dc39 pm39 cd39 ct39:Value} (a39:FA K "falls" f39) (l39:FL K f39 "falls" pO .none oc39 od39 kV39 dc39 pm39 an39 cd39 ct39 sl39) (cc39:FC K cd39 "falls") (k39:FK K f39)
  {od40 an40:Option Addr} {sl40:Array (Option Value)} {oc40 kV40 dc40 pm40 cd40 ct40:Value} (a40:FA K "law" f40) (l40:FL K f40 "law" jQ .none oc40 od40 kV40 dc40 pm40 an40 cd40 ct40 sl40) (cc40:FC K cd40 "law") (k40:FK K f40)
  {C fP:Addr} {odP anP:Option Addr} {slP:Array (Option Value)} {ocP kVP dcP pmP cdP ctP:Value} (aC:PySem.W.nsIn K mainGlobals "Page" = some (some (.ref C))) (aI:PySem.W.findIn K (.ref C) "__init__" = some (some (.ref fP))) (iI:PySem.W.isFn K (.ref fP)=true) (lP:K.lookup fP=some ⟨ocP,odP,.func (PySem.W.fnOf "__init__" "Page.__init__" (defArgs rK) (defBody rK) (defScope rK) .none kVP dcP pmP anP cdP ctP),slP⟩) (cP:PySem.W.codeIn K cdP "Page.__init__" = true) (kP:PySem.W.keepIn K (.ref fP)=true)
  (gC:PySem.W.plainGet K C Str.empty=true) (hC:PySem.W.hasDictIn K C=true) (pC:PySem.W.plainOver K C=true) (sC:PySem.W.findIn K (.ref C) "__setattr__" = some (some (.builtin "object.__setattr__"))) (mC:PySem.W.makesIn K C=true) (kC:PySem.W.keepIn K (.ref C)=true) (nN:PySem.W.findIn K (.ref C) "names" = some none) (nT:PySem.W.findIn K (.ref C) "tables" = some none) (nA:PySem.W.findIn K (.ref C) "asks" = some none)
  (aI8:PySem.W.nsIn K mainGlobals "len" = some none)
  (aI3:PySem.W.nsIn K mainGlobals "range" = some none)
  {t_MOST_HANDS:_} (aHv:PySem.W.nsIn K mainGlobals "MOST_HANDS" = some (some (.int 6 t_MOST_HANDS)))
  (aIe:PySem.W.nsIn K mainGlobals "zip" = some none)
  (aId:PySem.W.nsIn K mainGlobals "sum" = some none)
  (aIa:PySem.W.nsIn K mainGlobals "min" = some none)
  (aI9:PySem.W.nsIn K mainGlobals "max" = some none)
  (aIc:PySem.W.nsIn K mainGlobals "str" = some none)
  (aI7:PySem.W.nsIn K mainGlobals "int" = some none)
  (aI5:PySem.W.nsIn K mainGlobals "abs" = some none)
  {t_MOST_LETTERS:_} (aHt:PySem.W.nsIn K mainGlobals "MOST_LETTERS" = some (some (.int 8 t_MOST_LETTERS)))
  {t_LETTERS:_} (aI2:PySem.W.nsIn K mainGlobals "LETTERS" = some (some (.str "abcdefghijklmnopqrstuvwxyz" t_LETTERS)))
  (aI6:PySem.W.nsIn K mainGlobals "all" = some none)
  {t_FIGURES:_} (aI1:PySem.W.nsIn K mainGlobals "FIGURES" = some (some (.str "0123456789" t_FIGURES)))
  {t_PAGE_FIGURES:_} (aHu:PySem.W.nsIn K mainGlobals "PAGE_FIGURES" = some (some (.int 200 t_PAGE_FIGURES)))
  (aIb:PySem.W.nsIn K mainGlobals "set" = some none)
  (aHw:PySem.W.nsIn K mainGlobals "enumerate" = some none)
  (aHx:PySem.W.nsIn K mainGlobals "reversed" = some none)
  : ∃ fd:FuncData,(∀ (s:Shared) (v:Value),BindsTo s fd ⟨[v],[]⟩ [("script",v)])/\∀ base:Heap,K.In base->base.Ns mainGlobals mg->FnOk l.prog w K mg base CX0 9 fa fd ["script"] (spT K qI false 3):=by
 have e:=hfa.symm.trans (aKu X G0 a40);cases e;have aGl:=aKt X G0 aI8;have aGm:=aKt X G0 aI3;have m_MOST_HANDS:∃ tk,mg "MOST_HANDS" = some (.int 6 tk):=⟨_,aKu X G0 aHv⟩;have aHm:=aKt X G0 aIe;have aGt:=aKt X G0 aId;have aI0:=aKt X G0 aIa;have aHz:=aKt X G0 aI9;have aHr:=aKt X G0 aIc;have aHl:=aKt X G0 aI7;have aHy:=aKt X G0 aI5;have m_MOST_LETTERS:∃ tk,mg "MOST_LETTERS" = some (.int 8 tk):=⟨_,aKu X G0 aHt⟩;have m_LETTERS:∃ tk,mg "LETTERS" = some (.str "abcdefghijklmnopqrstuvwxyz" tk):=⟨_,aKu X G0 aI2⟩;have aGx:=aKt X G0 aI6;have m_FIGURES:∃ tk,mg "FIGURES" = some (.str "0123456789" tk):=⟨_,aKu X G0 aI1⟩;have m_PAGE_FIGURES:∃ tk,mg "PAGE_FIGURES" = some (.int 200 tk):=⟨_,aKu X G0 aHu⟩;have aHq:=aKt X G0 aIb;have aH6:=aKt X G0 aHw;have aHj:=aKt X G0 aHx;have U0:=bF (st:=nZ) l0 cc0 k0;have b0:=U0.binds (ps:=["script","k"]) fun _ _ _ _ _ _ us hl=>ln2 us hl fun _ _=>rfl;have U1:=bF (st:=pB) l1 cc1 k1;have b1:=U1.binds (ps:=["cell","many"]) fun _ _ _ _ _ _ us hl=>ln2 us hl fun _ _=>rfl;have U2:=bF (st:=pD) l2 cc2 k2;have b2:=U2.binds (ps:=["cell"]) fun _ _ _ _ _ _ us hl=>ln1 us hl fun _=>rfl;have U3:=bF (st:=pA) l3 cc3 k3;have b3:=U3.binds (ps:=["cell","hands"]) fun _ _ _ _ _ _ us hl=>ln2 us hl fun _ _=>rfl;have U4:=bF (st:=pF) l4 cc4 k4;have b4:=U4.binds (ps:=["cell","hands"]) fun _ _ _ _ _ _ us hl=>ln2 us hl fun _ _=>rfl;have U5:=bF (st:=pL) l5 cc5 k5;have b5:=U5.binds (ps:=["hands"]) fun _ _ _ _ _ _ us hl=>ln1 us hl fun _=>rfl;have U6:=bF (st:=pT) l6 cc6 k6;have b6:=U6.binds (ps:=["group"]) fun _ _ _ _ _ _ us hl=>ln1 us hl fun _=>rfl;have U7:=bF (st:=pX) l7 cc7 k7;have b7:=U7.binds (ps:=["group"]) fun _ _ _ _ _ _ us hl=>ln1 us hl fun _=>rfl;have U8:=bF (st:=pR) l8 cc8 k8;have b8:=U8.binds (ps:=["steps"]) fun _ _ _ _ _ _ us hl=>ln1 us hl fun _=>rfl;have U9:=bF (st:=qD) l9 cc9 k9;have b9:=U9.binds (ps:=["row","group"]) fun _ _ _ _ _ _ us hl=>ln2 us hl fun _ _=>rfl;have U10:=bF (st:=qE) l10 cc10 k10;have b10:=U10.binds (ps:=["row"]) fun _ _ _ _ _ _ us hl=>ln1 us hl fun _=>rfl;have U11:=bF (st:=pM) l11 cc11 k11;have b11:=U11.binds (ps:=["weight"]) fun _ _ _ _ _ _ us hl=>ln1 us hl fun _=>rfl;have U12:=bF (st:=pK) l12 cc12 k12;have b12:=U12.binds (ps:=["hands","cuts"]) fun _ _ _ _ _ _ us hl=>ln2 us hl fun _ _=>rfl;have U13:=bF (st:=qH) l13 cc13 k13;have b13:=U13.binds (ps:=["one","other"]) fun _ _ _ _ _ _ us hl=>ln2 us hl fun _ _=>rfl;have U14:=bF (st:=pV) l14 cc14 k14;have b14:=U14.binds (ps:=["group","one","other"]) fun _ _ _ _ _ _ us hl=>ln3 us hl fun _ _ _=>rfl;have U15:=bF (st:=pQ) l15 cc15 k15;have b15:=U15.binds (ps:=["hands","cuts"]) fun _ _ _ _ _ _ us hl=>ln2 us hl fun _ _=>rfl;have U16:=bF (st:=pJ) l16 cc16 k16;have b16:=U16.binds (ps:=["hands","covers"]) fun _ _ _ _ _ _ us hl=>ln2 us hl fun _ _=>rfl;have U17:=bF (st:=pP) l17 cc17 k17;have b17:=U17.binds (ps:=["hands","covers"]) fun _ _ _ _ _ _ us hl=>ln2 us hl fun _ _=>rfl;have U18:=bF (st:=pE) l18 cc18 k18;have b18:=U18.binds (ps:=["cell","names"]) fun _ _ _ _ _ _ us hl=>ln2 us hl fun _ _=>rfl;have U19:=bF (st:=pZ) l19 cc19 k19;have b19:=U19.binds (ps:=["one","other"]) fun _ _ _ _ _ _ us hl=>ln2 us hl fun _ _=>rfl;have U20:=bF (st:=pG) l20 cc20 k20;have b20:=U20.binds (ps:=["one","other"]) fun _ _ _ _ _ _ us hl=>ln2 us hl fun _ _=>rfl;have U21:=bF (st:=pW) l21 cc21 k21;have b21:=U21.binds (ps:=["word"]) fun _ _ _ _ _ _ us hl=>ln1 us hl fun _=>rfl;have U22:=bF (st:=qB) l22 cc22 k22;have b22:=U22.binds (ps:=["word","figures"]) fun _ _ _ _ _ _ us hl=>ln2 us hl fun _ _=>rfl;have U23:=bF (st:=qC) l23 cc23 k23;have b23:=U23.binds (ps:=["words"]) fun _ _ _ _ _ _ us hl=>ln1 us hl fun _=>rfl;have U24:=bF (st:=qF) l24 cc24 k24;have b24:=U24.binds (ps:=["hands","words"]) fun _ _ _ _ _ _ us hl=>ln2 us hl fun _ _=>rfl;have U25:=bF (st:=pU) l25 cc25 k25;have b25:=U25.binds (ps:=["names","words"]) fun _ _ _ _ _ _ us hl=>ln2 us hl fun _ _=>rfl;have U26:=bF (st:=pS) l26 cc26 k26;have b26:=U26.binds (ps:=["hands"]) fun _ _ _ _ _ _ us hl=>ln1 us hl fun _=>rfl;have U27:=bF (st:=qA) l27 cc27 k27;have b27:=U27.binds (ps:=["hands","kind","number","named"]) fun _ _ _ _ _ _ us hl=>ln4 us hl fun _ _ _ _=>rfl;have U28:=bF (st:=pY) l28 cc28 k28;have b28:=U28.binds (ps:=["names","words"]) fun _ _ _ _ _ _ us hl=>ln2 us hl fun _ _=>rfl;have U29:=bF (st:=zH) l29 cc29 k29;have b29:=U29.binds (ps:=["page","name"]) fun _ _ _ _ _ _ us hl=>ln2 us hl fun _ _=>rfl;have U30:=bF (st:=zK) l30 cc30 k30;have b30:=U30.binds (ps:=["page","words"]) fun _ _ _ _ _ _ us hl=>ln2 us hl fun _ _=>rfl;have U31:=bF (st:=zI) l31 cc31 k31;have b31:=U31.binds (ps:=["page","words"]) fun _ _ _ _ _ _ us hl=>ln2 us hl fun _ _=>rfl;have U32:=bF (st:=zJ) l32 cc32 k32;have b32:=U32.binds (ps:=["page","row"]) fun _ _ _ _ _ _ us hl=>ln2 us hl fun _ _=>rfl;have U33:=bF (st:=fZ) l33 cc33 k33;have b33:=U33.binds (ps:=["row"]) fun _ _ _ _ _ _ us hl=>ln1 us hl fun _=>rfl;have U34:=bF (st:=zG) l34 cc34 k34;have b34:=U34.binds (ps:=["text"]) fun _ _ _ _ _ _ us hl=>ln1 us hl fun _=>rfl;have U35:=bF (st:=pN) l35 cc35 k35;have b35:=U35.binds (ps:=["table"]) fun _ _ _ _ _ _ us hl=>ln1 us hl fun _=>rfl;have U36:=bF (st:=qG) l36 cc36 k36;have b36:=U36.binds (ps:=["table","one","other"]) fun _ _ _ _ _ _ us hl=>ln3 us hl fun _ _ _=>rfl;have U37:=bF (st:=pH) l37 cc37 k37;have b37:=U37.binds (ps:=["table","group"]) fun _ _ _ _ _ _ us hl=>ln2 us hl fun _ _=>rfl;have U38:=bF (st:=pI) l38 cc38 k38;have b38:=U38.binds (ps:=["table"]) fun _ _ _ _ _ _ us hl=>ln1 us hl fun _=>rfl;have U39:=bF (st:=pO) l39 cc39 k39;have b39:=U39.binds (ps:=["table"]) fun _ _ _ _ _ _ us hl=>ln1 us hl fun _=>rfl;have U40:=bF (st:=jQ) l40 cc40 k40;have Tx:PgTxt K mg C:=⟨⟨gC,hC,pC,sC⟩,nN,nT,nA,aKu X G0 aC⟩;have UP:=bF (st:=rK) lP cP kP;have bP:=UP.binds (ps:=["self","names","tables","asks"]) fun _ _ _ _ _ _ us hl=>ln4 us hl fun _ _ _ _=>rfl;have MP:Mk K C fP:=⟨mC,aI,iI,kC⟩;refine⟨PySem.W.fnOf "law" "law" (defArgs jQ) (defBody jQ) (defScope jQ) .none kV40 dc40 pm40 an40 cd40 ct40,fun s v=>.of_eq rfl,fun base IB GB=>?_⟩;have aH5:Cal l.prog w K mg base "_law_cell" 1 ["script","k"] fO false 3:=⟨_,_,aAg aGl U0,aKu X G0 a0,k0,b0⟩;have aH7:Cal l.prog w K mg base "_law_names" 1 ["cell","many"] kU true 3:=⟨_,_,aAi aGm U1,aKu X G0 a1,k1,b1⟩;have aGq:Cal l.prog w K mg base "_law_number" 1 ["cell"] gE false 3:=⟨_,_,aAj  U2,aKu X G0 a2,k2,b2⟩;have aGy:Cal l.prog w K mg base "_law_hands_of" 1 ["cell","hands"] kT true 3:=⟨_,_,aAh aGm U3,aKu X G0 a3,k3,b3⟩;have aGz:Cal l.prog w K mg base "_law_steps_of" 2 ["cell","hands"] kW true 3:=⟨_,_,aAl aGq aGm U4,aKu X G0 a4,k4,b4⟩;have aGn:Cal l.prog w K mg base "check_hands" 1 ["hands"] eZ false 3:=⟨_,_,aAs m_MOST_HANDS U5,aKu X G0 a5,k5,b5⟩;have aGo:Cal l.prog w K mg base "hands_in" 1 ["group"] fD true 3:=⟨_,_,aB0 aGm U6,aKu X G0 a6,k6,b6⟩;have aHn:Cal l.prog w K mg base "many_in" 2 ["group"] mY false 3:=⟨_,_,aB5 aGo aGl U7,aKu X G0 a7,k7,b7⟩;have aGs:Cal l.prog w K mg base "from_steps" 3 ["steps"] gH true 3:=⟨_,_,aAy aGn aHn aGl aHm aGm aGt U8,aKu X G0 a8,k8,b8⟩;have aHf:Cal l.prog w K mg base "row_gives" 2 ["row","group"] nC false 3:=⟨_,_,aBc aGo aGt U9,aKu X G0 a9,k9,b9⟩;have aGw:Cal l.prog w K mg base "row_table" 3 ["row"] gI true 3:=⟨_,_,aBd aHf aGl aGm U10,aKu X G0 a10,k10,b10⟩;have aGp:Cal l.prog w K mg base "check_weight" 1 ["weight"] hJ false 3:=⟨_,_,aAt  U11,aKu X G0 a11,k11,b11⟩;have aH8:Cal l.prog w K mg base "check_cuts" 2 ["hands","cuts"] mT false 3:=⟨_,_,aAr aGp aI0 aHz U12,aKu X G0 a12,k12,b12⟩;have aHk:Cal l.prog w K mg base "within" 1 ["one","other"] kY false 3:=⟨_,_,aBk  U13,aKu X G0 a13,k13,b13⟩;have aHo:Cal l.prog w K mg base "is_cut" 2 ["group","one","other"] mW false 3:=⟨_,_,aB2 aHk U14,aKu X G0 a14,k14,b14⟩;have aGu:Cal l.prog w K mg base "from_cuts" 3 ["hands","cuts"] gG true 3:=⟨_,_,aAx aGn aH8 aHo aGm aGt U15,aKu X G0 a15,k15,b15⟩;have aH3:Cal l.prog w K mg base "check_covers" 2 ["hands","covers"] mS false 3:=⟨_,_,aAq aGp U16,aKu X G0 a16,k16,b16⟩;have aGr:Cal l.prog w K mg base "from_covers" 3 ["hands","covers"] gF true 3:=⟨_,_,aAw aGn aH3 aGm aGt U17,aKu X G0 a17,k17,b17⟩;have aHh:Cal l.prog w K mg base "_law_row" 4 ["cell","names"] mP true 3:=⟨_,_,aAk aGq aGy aGz aGs aGw aGu aGr aGl aHr aGm aHl aHy aGt U18,aKu X G0 a18,k18,b18⟩;have aH0:Cal l.prog w K mg base "must_be_alike" 1 ["one","other"] mZ false 3:=⟨_,_,aB7 aGl U19,aKu X G0 a19,k19,b19⟩;have aHc:Cal l.prog w K mg base "added" 2 ["one","other"] cV true 3:=⟨_,_,aAm aH0 aHm U20,aKu X G0 a20,k20,b20⟩;have aHp:Cal l.prog w K mg base "is_name" 1 ["word"] dL false 3:=⟨_,_,aB3 aGl m_MOST_LETTERS m_LETTERS aGx U21,aKu X G0 a21,k21,b21⟩;have aGv:Cal l.prog w K mg base "number_in" 1 ["word","figures"] fQ false 3:=⟨_,_,aB9 aGl m_FIGURES aGx aHl U22,aKu X G0 a22,k22,b22⟩;have aHa:Cal l.prog w K mg base "numbers_in" 2 ["words"] nB true 3:=⟨_,_,aBa aGv m_PAGE_FIGURES U23,aKu X G0 a23,k23,b23⟩;have aHb:Cal l.prog w K mg base "steps_more" 4 ["hands","words"] nD true 3:=⟨_,_,aBe aHa aGs aGl U24,aKu X G0 a24,k24,b24⟩;have aH4:Cal l.prog w K mg base "hands_named" 1 ["names","words"] mV true 3:=⟨_,_,aB1 aGx aGl aHq U25,aKu X G0 a25,k25,b25⟩;have aHd:Cal l.prog w K mg base "group_of" 1 ["hands"] kX false 3:=⟨_,_,aAz  U26,aKu X G0 a26,k26,b26⟩;have aH9:Cal l.prog w K mg base "named_more" 4 ["hands","kind","number","named"] hU true 3:=⟨_,_,aB8 aHd aGw aGr aGu aGm aGl U27,aKu X G0 a27,k27,b27⟩;have aI4:Cal l.prog w K mg base "more_of" 5 ["names","words"] dM true 3:=⟨_,_,aB6 aHb aGv aH4 aH9 aGl m_PAGE_FIGURES U28,aKu X G0 a28,k28,b28⟩;have o_table_named:=aBf (P:=l.prog) (w:=w) (base:=base) U29 Tx;have o_takes_table:=aBi aHp o_table_named (aKu X G0 a29) k29 b29 aGl U30 Tx;have o_takes_more:=aBg aI4 aHc aGl U31 Tx;have o_takes_row:=aBh o_takes_table (aKu X G0 a30) k30 b30 o_takes_more (aKu X G0 a31) k31 b31 U32 Tx;have oP:=aAf (P:=l.prog) (w:=w) (base:=base) UP Tx;have o_begun_page:=aAn aHp aGl m_MOST_HANDS aGx aHq MP oP bP U33 Tx;have aH1:CalR l.prog w K mg base "read_page" 8 dM cV dL:=⟨_,_,_,aBb o_begun_page (aKu X G0 a33) k33 b33 o_takes_row (aKu X G0 a32) k32 b32 aH6 MP oP bP U34 Tx,(aKu X G0 a34),k34,b34,Tx⟩;have aHe:Cal l.prog w K mg base "everybody" 1 ["table"] mU false 3:=⟨_,_,aAu aGl U35,aKu X G0 a35,k35,b35⟩;have aHg:Cal l.prog w K mg base "two_break" 1 ["table","one","other"] nE false 3:=⟨_,_,aBj  U36,aKu X G0 a36,k36,b36⟩;have aH2:Cal l.prog w K mg base "break_beside" 2 ["table","group"] mQ false 3:=⟨_,_,aAo aHe aGo aHg aH6 U37,aKu X G0 a37,k37,b37⟩;have aHi:Cal l.prog w K mg base "break_of" 3 ["table"] mR false 3:=⟨_,_,aAp aH2 aGl aGm U38,aKu X G0 a38,k38,b38⟩;have aHs:Cal l.prog w K mg base "falls" 4 ["table"] jV false 3:=⟨_,_,aAv aHi U39,aKu X G0 a39,k39,b39⟩;exact aB4 aH5 aH7 aHh aHc aH1 aHs aGl aHj U40
theorem walk {l:PySem.W.OpenLaw}{q:Program}{loose:List Str}{XP:(Str->Option Value)->Heap->Prop}{YP:World->Heap->Prop}{d:DefRec}{K:Params->PySem.W.Frag}(hn:l.most=some 63) (hdf:d.params.defaults=[])
  (hY:∀ (w:World) (h:Heap),YP w h->(K w.params).In h)
  (F:∀ (w:World) (mg:Str->Option Value) (fa:Addr) (h:Heap),(K w.params).In h->h.Ns mainGlobals mg->mg d.name=some (.ref fa) ->
   ∃ fd:FuncData,(∀ (s:Shared) (u:Value),BindsTo s fd ⟨[u],[]⟩ [("script",u)])/\∀ base:Heap,(K w.params).In base->base.Ns mainGlobals mg->FnOk l.prog w (K w.params) mg base CX0 9 fa fd ["script"] (spT (K w.params) qI false 3)):
  PySem.W.WalkO q loose XP YP l.row.toRowW d [] (fun f vs=>PySem.call f vs):=
 YR ⟨rfl,by decide,by decide⟩ hn hdf hY F QM
set_option maxRecDepth 100000
set_option maxHeartbeats 0
noncomputable def KF (P:Params):PySem.W.Frag:=
 (nat_lit 3,⟨.type "dict",none,.dict #[HD.kE P "__name__" 165 (.str "law_groupcost_k89_whole_pages_of_makers" 664),HD.kE P "__doc__" 166 (.none),HD.kE P "__package__" 167 (.none),HD.kE P "__loader__" 168 (.builtin "__main__.__loader__#opaque"),HD.kE P "__spec__" 169 (.none),HD.kE P "__annotations__" 170 (.ref 6),HD.kE P "__builtins__" 171 (.ref 4),HD.kE P "__file__" 173 (.str "/claim/cut.py" 172),HD.kE P "__cached__" 174 (.none),HD.kE P "CostError" 206 (.ref 24),HD.kE P "Unlike" 222 (.ref 37),HD.kE P "BadMaker" 238 (.ref 49),HD.kE P "BadAsk" 254 (.ref 61),HD.kE P "BadText" 280 (.ref 80),HD.kE P "ASKS" 310 (.ref 83),HD.kE P "ask_forms" 317 (.ref 97),HD.kE P "hands_in" 325 (.ref 102),HD.kE P "many_in" 332 (.ref 109),HD.kE P "group_of" 341 (.ref 116),HD.kE P "within" 349 (.ref 123),HD.kE P "everybody" 358 (.ref 130),HD.kE P "row_gives" 364 (.ref 135),HD.kE P "must_be_alike" 372 (.ref 142),HD.kE P "added" 378 (.ref 147),HD.kE P "row_table" 384 (.ref 152),HD.kE P "MOST_HANDS" 388 (.int (6) 387),HD.kE P "check_hands" 395 (.ref 159),HD.kE P "check_weight" 402 (.ref 166),HD.kE P "check_covers" 412 (.ref 173),HD.kE P "from_covers" 418 (.ref 178),HD.kE P "check_cuts" 429 (.ref 185),HD.kE P "is_cut" 438 (.ref 192),HD.kE P "from_cuts" 444 (.ref 197),HD.kE P "from_steps" 450 (.ref 202),HD.kE P "LETTERS" 454 (.str "abcdefghijklmnopqrstuvwxyz" 453),HD.kE P "FIGURES" 456 (.str "0123456789" 455),HD.kE P "MOST_LETTERS" 458 (.int (8) 457),HD.kE P "PAGE_FIGURES" 460 (.int (200) 459),HD.kE P "Page" 493 (.ref 219),HD.kE P "is_name" 499 (.ref 228),HD.kE P "number_in" 505 (.ref 233),HD.kE P "numbers_in" 511 (.ref 238),HD.kE P "hands_named" 517 (.ref 243),HD.kE P "table_named" 527 (.ref 250),HD.kE P "ask_part" 537 (.ref 257),HD.kE P "ask_of" 551 (.ref 264),HD.kE P "steps_more" 560 (.ref 271),HD.kE P "named_more" 566 (.ref 276),HD.kE P "more_of" 576 (.ref 283),HD.kE P "takes_table" 584 (.ref 290),HD.kE P "takes_more" 594 (.ref 297),HD.kE P "takes_ask" 603 (.ref 304),HD.kE P "takes_row" 612 (.ref 311),HD.kE P "begun_page" 618 (.ref 316),HD.kE P "read_page" 624 (.ref 321),HD.kE P "two_break" 635 (.ref 328),HD.kE P "break_beside" 647 (.ref 335),HD.kE P "break_of" 656 (.ref 342),HD.kE P "falls" 663 (.ref 349),HD.kE P "_law_cell" 673 (.ref 356),HD.kE P "_law_names" 679 (.ref 361),HD.kE P "_law_number" 687 (.ref 368),HD.kE P "_law_hands_of" 697 (.ref 375),HD.kE P "_law_steps_of" 707 (.ref 382),HD.kE P "_law_row" 713 (.ref 387),HD.kE P "law" 719 (.ref 392)] 66,#[]⟩) ::
 (nat_lit 15,⟨.type "tuple",none,.seq #[.type "ValueError"] 0,#[]⟩) ::
 (nat_lit 22,⟨.type "tuple",none,.seq #[] 0,#[]⟩) ::
 (nat_lit 23,⟨.type "dict",none,.dict #[HD.kE P "__module__" 196 (.str "groupcost.errors" 187),HD.kE P "__firstlineno__" 200 (.int (2) 199),HD.kE P "__static_attributes__" 201 (.ref 22),HD.kE P "__weakref__" 203 (.ref 25),HD.kE P "__doc__" 204 (.none)] 3,#[]⟩) ::
 (nat_lit 24,⟨.type "type",none,.cls ⟨"CostError",[.type "ValueError"],[.ref 24,.type "ValueError",.type "Exception",.type "BaseException",.type "object"],23,"CostError",true,[],[.ref 37,.ref 49,.ref 61,.ref 80],false,none,false⟩,#[some (.ref 15),none,some (.str "CostError" 189),some (.str "CostError" 197),some (.builtin "ValueError.__new__"),some (.bool true)]⟩) ::
 (nat_lit 25,⟨.type "getset_descriptor",none,.fields #[.str "__weakref__" 202,.ref 24,.builtin "ExceptionGroup.__weakref__",.none],#[]⟩) ::
 (nat_lit 28,⟨.type "tuple",none,.seq #[.ref 24] 0,#[]⟩) ::
 (nat_lit 35,⟨.type "tuple",none,.seq #[] 0,#[]⟩) ::
 (nat_lit 36,⟨.type "dict",none,.dict #[HD.kE P "__module__" 214 (.str "groupcost.errors" 187),HD.kE P "__firstlineno__" 218 (.int (4) 217),HD.kE P "__static_attributes__" 219 (.ref 35),HD.kE P "__doc__" 220 (.none)] 2,#[]⟩) ::
 (nat_lit 37,⟨.type "type",none,.cls ⟨"Unlike",[.ref 24],[.ref 37,.ref 24,.type "ValueError",.type "Exception",.type "BaseException",.type "object"],36,"Unlike",true,[],[],false,none,false⟩,#[some (.ref 28),none,some (.str "Unlike" 207),some (.str "Unlike" 215),some (.builtin "ValueError.__new__"),some (.bool true)]⟩) ::
 (nat_lit 40,⟨.type "tuple",none,.seq #[.ref 24] 0,#[]⟩) ::
 (nat_lit 47,⟨.type "tuple",none,.seq #[] 0,#[]⟩) ::
 (nat_lit 48,⟨.type "dict",none,.dict #[HD.kE P "__module__" 230 (.str "groupcost.errors" 187),HD.kE P "__firstlineno__" 234 (.int (6) 233),HD.kE P "__static_attributes__" 235 (.ref 47),HD.kE P "__doc__" 236 (.none)] 2,#[]⟩) ::
 (nat_lit 49,⟨.type "type",none,.cls ⟨"BadMaker",[.ref 24],[.ref 49,.ref 24,.type "ValueError",.type "Exception",.type "BaseException",.type "object"],48,"BadMaker",true,[],[],false,none,false⟩,#[some (.ref 40),none,some (.str "BadMaker" 223),some (.str "BadMaker" 231),some (.builtin "ValueError.__new__"),some (.bool true)]⟩) ::
 (nat_lit 52,⟨.type "tuple",none,.seq #[.ref 24] 0,#[]⟩) ::
 (nat_lit 59,⟨.type "tuple",none,.seq #[] 0,#[]⟩) ::
 (nat_lit 60,⟨.type "dict",none,.dict #[HD.kE P "__module__" 246 (.str "groupcost.errors" 187),HD.kE P "__firstlineno__" 250 (.int (8) 249),HD.kE P "__static_attributes__" 251 (.ref 59),HD.kE P "__doc__" 252 (.none)] 2,#[]⟩) ::
 (nat_lit 61,⟨.type "type",none,.cls ⟨"BadAsk",[.ref 24],[.ref 61,.ref 24,.type "ValueError",.type "Exception",.type "BaseException",.type "object"],60,"BadAsk",true,[],[],false,none,false⟩,#[some (.ref 52),none,some (.str "BadAsk" 239),some (.str "BadAsk" 247),some (.builtin "ValueError.__new__"),some (.bool true)]⟩) ::
 (nat_lit 64,⟨.type "tuple",none,.seq #[.ref 24] 0,#[]⟩) ::
 (nat_lit 76,⟨.type "code",none,.fields #[.str "__init__" 267,.str "BadText.__init__" 268,.str "/claim/cut.py" 269,.int (12) 0,.int (3) 0,.int (0) 0,.int (0) 0,.int (3) 0,.ref 71,.bool true,.int (181) 0,.ref 72,.none,.ref 73,.ref 74,.ref 75,.int (273) 0,.int (12) 0,.str "/claim/cut.py" 274],#[]⟩) ::
 (nat_lit 77,⟨.type "function",none,.func (PySem.W.fnOf "__init__" "BadText.__init__" (L2.defArgs (L2.inClass (top 5) 0)) (L2.defBody (L2.inClass (top 5) 0)) (L2.defScope (L2.inClass (top 5) 0)) (.none) (.none) (.none) (.str "groupcost.errors" 187) (none) (.ref 76) (.none)),#[]⟩) ::
 (nat_lit 78,⟨.type "tuple",none,.seq #[.str "row" 276] 0,#[]⟩) ::
 (nat_lit 79,⟨.type "dict",none,.dict #[HD.kE P "__module__" 262 (.str "groupcost.errors" 187),HD.kE P "__firstlineno__" 266 (.int (10) 265),HD.kE P "__init__" 275 (.ref 77),HD.kE P "__static_attributes__" 277 (.ref 78),HD.kE P "__doc__" 278 (.none)] 2,#[]⟩) ::
 (nat_lit 80,⟨.type "type",none,.cls ⟨"BadText",[.ref 24],[.ref 80,.ref 24,.type "ValueError",.type "Exception",.type "BaseException",.type "object"],79,"BadText",true,[],[],false,none,false⟩,#[some (.ref 64),none,some (.str "BadText" 255),some (.str "BadText" 263),some (.builtin "ValueError.__new__"),some (.bool true)]⟩) ::
 (nat_lit 83,⟨.type "dict",none,.dict #[HD.kE P "falls" 283 (.ref 84),HD.kE P "cheapest" 285 (.ref 85),HD.kE P "best" 288 (.ref 86),HD.kE P "base" 291 (.ref 87),HD.kE P "common" 294 (.ref 88),HD.kE P "between" 297 (.ref 89),HD.kE P "fairest" 300 (.ref 90)] 7,#[]⟩) ::
 (nat_lit 84,⟨.type "tuple",none,.seq #[.str "table" 284] 0,#[]⟩) ::
 (nat_lit 85,⟨.type "tuple",none,.seq #[.str "table" 286,.str "row" 287] 0,#[]⟩) ::
 (nat_lit 86,⟨.type "tuple",none,.seq #[.str "table" 289,.str "row" 290] 0,#[]⟩) ::
 (nat_lit 87,⟨.type "tuple",none,.seq #[.str "table" 292,.str "row" 293] 0,#[]⟩) ::
 (nat_lit 88,⟨.type "tuple",none,.seq #[.str "table" 295,.str "table" 296] 0,#[]⟩) ::
 (nat_lit 89,⟨.type "tuple",none,.seq #[.str "table" 298,.str "table" 299] 0,#[]⟩) ::
 (nat_lit 90,⟨.type "tuple",none,.seq #[.str "table" 301,.str "weights" 302] 0,#[]⟩) ::
 (nat_lit 96,HD.kC "ask_forms" 311 17 1 3 91 true 181 92 (.none) (.ref 93) (.ref 94) (.ref 95) 315) ::
 (nat_lit 97,⟨.type "function",none,.func (PySem.W.fnOf "ask_forms" "ask_forms" (L2.defArgs (top 8)) (L2.defBody (top 8)) (L2.defScope (top 8)) (.none) (.none) (.none) (.str "groupcost.forms" 281) (none) (.ref 96) (.none)),#[]⟩) ::
 (nat_lit 101,HD.kC "hands_in" 320 20 1 3 98 true 181 99 (.none) (.none) (.none) (.ref 100) 323) ::
 (nat_lit 102,⟨.type "function",none,.func (PySem.W.fnOf "hands_in" "hands_in" (L2.defArgs (top 10)) (L2.defBody (top 10)) (L2.defScope (top 10)) (.none) (.none) (.none) (.str "groupcost.masks" 318) (none) (.ref 101) (.none)),#[]⟩) ::
 (nat_lit 108,HD.kC "many_in" 326 22 1 3 103 true 181 104 (.none) (.ref 105) (.ref 106) (.ref 107) 330) ::
 (nat_lit 109,⟨.type "function",none,.func (PySem.W.fnOf "many_in" "many_in" (L2.defArgs (top 11)) (L2.defBody (top 11)) (L2.defScope (top 11)) (.none) (.none) (.none) (.str "groupcost.masks" 318) (none) (.ref 108) (.none)),#[]⟩) ::
 (nat_lit 115,HD.kC "group_of" 333 24 1 3 110 true 181 111 (.none) (.ref 112) (.ref 113) (.ref 114) 339) ::
 (nat_lit 116,⟨.type "function",none,.func (PySem.W.fnOf "group_of" "group_of" (L2.defArgs (top 12)) (L2.defBody (top 12)) (L2.defScope (top 12)) (.none) (.none) (.none) (.str "groupcost.masks" 318) (none) (.ref 115) (.none)),#[]⟩) ::
 (nat_lit 122,HD.kC "within" 342 29 2 3 117 true 181 118 (.none) (.ref 119) (.ref 120) (.ref 121) 347) ::
 (nat_lit 123,⟨.type "function",none,.func (PySem.W.fnOf "within" "within" (L2.defArgs (top 13)) (L2.defBody (top 13)) (L2.defScope (top 13)) (.none) (.none) (.none) (.str "groupcost.masks" 318) (none) (.ref 122) (.none)),#[]⟩) ::
 (nat_lit 129,HD.kC "everybody" 352 32 1 3 124 true 181 125 (.none) (.ref 126) (.ref 127) (.ref 128) 356) ::
 (nat_lit 130,⟨.type "function",none,.func (PySem.W.fnOf "everybody" "everybody" (L2.defArgs (top 15)) (L2.defBody (top 15)) (L2.defScope (top 15)) (.none) (.none) (.none) (.str "groupcost.tables" 350) (none) (.ref 129) (.none)),#[]⟩) ::
 (nat_lit 134,HD.kC "row_gives" 359 34 2 3 131 true 181 132 (.none) (.none) (.none) (.ref 133) 362) ::
 (nat_lit 135,⟨.type "function",none,.func (PySem.W.fnOf "row_gives" "row_gives" (L2.defArgs (top 16)) (L2.defBody (top 16)) (L2.defScope (top 16)) (.none) (.none) (.none) (.str "groupcost.tables" 350) (none) (.ref 134) (.none)),#[]⟩) ::
 (nat_lit 141,HD.kC "must_be_alike" 365 36 2 3 136 true 181 137 (.none) (.ref 138) (.ref 139) (.ref 140) 370) ::
 (nat_lit 142,⟨.type "function",none,.func (PySem.W.fnOf "must_be_alike" "must_be_alike" (L2.defArgs (top 17)) (L2.defBody (top 17)) (L2.defScope (top 17)) (.none) (.none) (.none) (.str "groupcost.tables" 350) (none) (.ref 141) (.none)),#[]⟩) ::
 (nat_lit 146,HD.kC "added" 373 39 2 3 143 true 181 144 (.none) (.none) (.none) (.ref 145) 376) ::
 (nat_lit 147,⟨.type "function",none,.func (PySem.W.fnOf "added" "added" (L2.defArgs (top 18)) (L2.defBody (top 18)) (L2.defScope (top 18)) (.none) (.none) (.none) (.str "groupcost.tables" 350) (none) (.ref 146) (.none)),#[]⟩) ::
 (nat_lit 151,HD.kC "row_table" 379 42 1 3 148 true 181 149 (.none) (.none) (.none) (.ref 150) 382) ::
 (nat_lit 152,⟨.type "function",none,.func (PySem.W.fnOf "row_table" "row_table" (L2.defArgs (top 19)) (L2.defBody (top 19)) (L2.defScope (top 19)) (.none) (.none) (.none) (.str "groupcost.tables" 350) (none) (.ref 151) (.none)),#[]⟩) ::
 (nat_lit 158,HD.kC "check_hands" 389 46 1 3 153 true 181 154 (.none) (.ref 155) (.ref 156) (.ref 157) 393) ::
 (nat_lit 159,⟨.type "function",none,.func (PySem.W.fnOf "check_hands" "check_hands" (L2.defArgs (top 22)) (L2.defBody (top 22)) (L2.defScope (top 22)) (.none) (.none) (.none) (.str "groupcost.makers" 385) (none) (.ref 158) (.none)),#[]⟩) ::
 (nat_lit 165,HD.kC "check_weight" 396 49 1 3 160 true 181 161 (.none) (.ref 162) (.ref 163) (.ref 164) 400) ::
 (nat_lit 166,⟨.type "function",none,.func (PySem.W.fnOf "check_weight" "check_weight" (L2.defArgs (top 23)) (L2.defBody (top 23)) (L2.defScope (top 23)) (.none) (.none) (.none) (.str "groupcost.makers" 385) (none) (.ref 165) (.none)),#[]⟩) ::
 (nat_lit 172,HD.kC "check_covers" 403 52 2 3 167 true 181 168 (.none) (.ref 169) (.ref 170) (.ref 171) 410) ::
 (nat_lit 173,⟨.type "function",none,.func (PySem.W.fnOf "check_covers" "check_covers" (L2.defArgs (top 24)) (L2.defBody (top 24)) (L2.defScope (top 24)) (.none) (.none) (.none) (.str "groupcost.makers" 385) (none) (.ref 172) (.none)),#[]⟩) ::
 (nat_lit 177,HD.kC "from_covers" 413 57 2 3 174 true 181 175 (.none) (.none) (.none) (.ref 176) 416) ::
 (nat_lit 178,⟨.type "function",none,.func (PySem.W.fnOf "from_covers" "from_covers" (L2.defArgs (top 25)) (L2.defBody (top 25)) (L2.defScope (top 25)) (.none) (.none) (.none) (.str "groupcost.makers" 385) (none) (.ref 177) (.none)),#[]⟩) ::
 (nat_lit 184,HD.kC "check_cuts" 419 61 2 3 179 true 181 180 (.none) (.ref 181) (.ref 182) (.ref 183) 427) ::
 (nat_lit 185,⟨.type "function",none,.func (PySem.W.fnOf "check_cuts" "check_cuts" (L2.defArgs (top 26)) (L2.defBody (top 26)) (L2.defScope (top 26)) (.none) (.none) (.none) (.str "groupcost.makers" 385) (none) (.ref 184) (.none)),#[]⟩) ::
 (nat_lit 191,HD.kC "is_cut" 430 68 3 3 186 true 181 187 (.none) (.ref 188) (.ref 189) (.ref 190) 436) ::
 (nat_lit 192,⟨.type "function",none,.func (PySem.W.fnOf "is_cut" "is_cut" (L2.defArgs (top 27)) (L2.defBody (top 27)) (L2.defScope (top 27)) (.none) (.none) (.none) (.str "groupcost.makers" 385) (none) (.ref 191) (.none)),#[]⟩) ::
 (nat_lit 196,HD.kC "from_cuts" 439 70 2 3 193 true 181 194 (.none) (.none) (.none) (.ref 195) 442) ::
 (nat_lit 197,⟨.type "function",none,.func (PySem.W.fnOf "from_cuts" "from_cuts" (L2.defArgs (top 28)) (L2.defBody (top 28)) (L2.defScope (top 28)) (.none) (.none) (.none) (.str "groupcost.makers" 385) (none) (.ref 196) (.none)),#[]⟩) ::
 (nat_lit 201,HD.kC "from_steps" 445 74 1 3 198 true 181 199 (.none) (.none) (.none) (.ref 200) 448) ::
 (nat_lit 202,⟨.type "function",none,.func (PySem.W.fnOf "from_steps" "from_steps" (L2.defArgs (top 29)) (L2.defBody (top 29)) (L2.defScope (top 29)) (.none) (.none) (.none) (.str "groupcost.makers" 385) (none) (.ref 201) (.none)),#[]⟩) ::
 (nat_lit 215,⟨.type "code",none,.fields #[.str "__init__" 473,.str "Page.__init__" 474,.str "/claim/cut.py" 475,.int (87) 0,.int (4) 0,.int (0) 0,.int (0) 0,.int (3) 0,.ref 210,.bool true,.int (181) 0,.ref 211,.none,.ref 212,.ref 213,.ref 214,.int (480) 0,.int (87) 0,.str "/claim/cut.py" 481],#[]⟩) ::
 (nat_lit 216,⟨.type "function",none,.func (PySem.W.fnOf "__init__" "Page.__init__" (L2.defArgs (L2.inClass (top 35) 0)) (L2.defBody (L2.inClass (top 35) 0)) (L2.defScope (L2.inClass (top 35) 0)) (.none) (.none) (.none) (.str "groupcost.reading" 451) (none) (.ref 215) (.none)),#[]⟩) ::
 (nat_lit 217,⟨.type "tuple",none,.seq #[.str "asks" 483,.str "names" 484,.str "tables" 485] 0,#[]⟩) ::
 (nat_lit 218,⟨.type "dict",none,.dict #[HD.kE P "__module__" 468 (.str "groupcost.reading" 451),HD.kE P "__firstlineno__" 472 (.int (85) 471),HD.kE P "__init__" 482 (.ref 216),HD.kE P "__static_attributes__" 486 (.ref 217),HD.kE P "__dict__" 488 (.ref 220),HD.kE P "__weakref__" 490 (.ref 221),HD.kE P "__doc__" 491 (.none)] 4,#[]⟩) ::
 (nat_lit 219,⟨.type "type",none,.cls ⟨"Page",[.type "object"],[.ref 219,.type "object"],218,"Page",true,[],[],false,none,false⟩,#[none,none,some (.str "Page" 461),some (.str "Page" 469),some (.builtin "object.__new__"),some (.bool true)]⟩) ::
 (nat_lit 220,⟨.type "getset_descriptor",none,.fields #[.str "__dict__" 487,.ref 219,.builtin "function.__dict__",.builtin "function.__dict__#set"],#[]⟩) ::
 (nat_lit 221,⟨.type "getset_descriptor",none,.fields #[.str "__weakref__" 489,.ref 219,.builtin "ExceptionGroup.__weakref__",.none],#[]⟩) ::
 (nat_lit 227,HD.kC "is_name" 494 91 1 3 224 true 181 225 (.none) (.none) (.none) (.ref 226) 497) ::
 (nat_lit 228,⟨.type "function",none,.func (PySem.W.fnOf "is_name" "is_name" (L2.defArgs (top 36)) (L2.defBody (top 36)) (L2.defScope (top 36)) (.none) (.none) (.none) (.str "groupcost.reading" 451) (none) (.ref 227) (.none)),#[]⟩) ::
 (nat_lit 232,HD.kC "number_in" 500 93 2 3 229 true 181 230 (.none) (.none) (.none) (.ref 231) 503) ::
 (nat_lit 233,⟨.type "function",none,.func (PySem.W.fnOf "number_in" "number_in" (L2.defArgs (top 37)) (L2.defBody (top 37)) (L2.defScope (top 37)) (.none) (.none) (.none) (.str "groupcost.reading" 451) (none) (.ref 232) (.none)),#[]⟩) ::
 (nat_lit 237,HD.kC "numbers_in" 506 100 1 3 234 true 181 235 (.none) (.none) (.none) (.ref 236) 509) ::
 (nat_lit 238,⟨.type "function",none,.func (PySem.W.fnOf "numbers_in" "numbers_in" (L2.defArgs (top 38)) (L2.defBody (top 38)) (L2.defScope (top 38)) (.none) (.none) (.none) (.str "groupcost.reading" 451) (none) (.ref 237) (.none)),#[]⟩) ::
 (nat_lit 242,HD.kC "hands_named" 512 103 2 3 239 true 181 240 (.none) (.none) (.none) (.ref 241) 515) ::
 (nat_lit 243,⟨.type "function",none,.func (PySem.W.fnOf "hands_named" "hands_named" (L2.defArgs (top 39)) (L2.defBody (top 39)) (L2.defScope (top 39)) (.none) (.none) (.none) (.str "groupcost.reading" 451) (none) (.ref 242) (.none)),#[]⟩) ::
 (nat_lit 249,HD.kC "table_named" 518 107 2 3 244 true 181 245 (.none) (.ref 246) (.ref 247) (.ref 248) 525) ::
 (nat_lit 250,⟨.type "function",none,.func (PySem.W.fnOf "table_named" "table_named" (L2.defArgs (top 40)) (L2.defBody (top 40)) (L2.defScope (top 40)) (.none) (.none) (.none) (.str "groupcost.reading" 451) (none) (.ref 249) (.none)),#[]⟩) ::
 (nat_lit 256,HD.kC "ask_part" 528 112 3 3 251 true 181 252 (.none) (.ref 253) (.ref 254) (.ref 255) 535) ::
 (nat_lit 257,⟨.type "function",none,.func (PySem.W.fnOf "ask_part" "ask_part" (L2.defArgs (top 41)) (L2.defBody (top 41)) (L2.defScope (top 41)) (.none) (.none) (.none) (.str "groupcost.reading" 451) (none) (.ref 256) (.none)),#[]⟩) ::
 (nat_lit 263,HD.kC "ask_of" 538 121 2 3 258 true 181 259 (.none) (.ref 260) (.ref 261) (.ref 262) 549) ::
 (nat_lit 264,⟨.type "function",none,.func (PySem.W.fnOf "ask_of" "ask_of" (L2.defArgs (top 42)) (L2.defBody (top 42)) (L2.defScope (top 42)) (.none) (.none) (.none) (.str "groupcost.reading" 451) (none) (.ref 263) (.none)),#[]⟩) ::
 (nat_lit 270,HD.kC "steps_more" 552 135 2 3 265 true 181 266 (.none) (.ref 267) (.ref 268) (.ref 269) 558) ::
 (nat_lit 271,⟨.type "function",none,.func (PySem.W.fnOf "steps_more" "steps_more" (L2.defArgs (top 43)) (L2.defBody (top 43)) (L2.defScope (top 43)) (.none) (.none) (.none) (.str "groupcost.reading" 451) (none) (.ref 270) (.none)),#[]⟩) ::
 (nat_lit 275,HD.kC "named_more" 561 143 4 3 272 true 181 273 (.none) (.none) (.none) (.ref 274) 564) ::
 (nat_lit 276,⟨.type "function",none,.func (PySem.W.fnOf "named_more" "named_more" (L2.defArgs (top 44)) (L2.defBody (top 44)) (L2.defScope (top 44)) (.none) (.none) (.none) (.str "groupcost.reading" 451) (none) (.ref 275) (.none)),#[]⟩) ::
 (nat_lit 282,HD.kC "more_of" 567 153 2 3 277 true 181 278 (.none) (.ref 279) (.ref 280) (.ref 281) 574) ::
 (nat_lit 283,⟨.type "function",none,.func (PySem.W.fnOf "more_of" "more_of" (L2.defArgs (top 45)) (L2.defBody (top 45)) (L2.defScope (top 45)) (.none) (.none) (.none) (.str "groupcost.reading" 451) (none) (.ref 282) (.none)),#[]⟩) ::
 (nat_lit 289,HD.kC "takes_table" 577 163 2 3 284 true 181 285 (.none) (.ref 286) (.ref 287) (.ref 288) 582) ::
 (nat_lit 290,⟨.type "function",none,.func (PySem.W.fnOf "takes_table" "takes_table" (L2.defArgs (top 46)) (L2.defBody (top 46)) (L2.defScope (top 46)) (.none) (.none) (.none) (.str "groupcost.reading" 451) (none) (.ref 289) (.none)),#[]⟩) ::
 (nat_lit 296,HD.kC "takes_more" 585 168 2 3 291 true 181 292 (.none) (.ref 293) (.ref 294) (.ref 295) 592) ::
 (nat_lit 297,⟨.type "function",none,.func (PySem.W.fnOf "takes_more" "takes_more" (L2.defArgs (top 47)) (L2.defBody (top 47)) (L2.defScope (top 47)) (.none) (.none) (.none) (.str "groupcost.reading" 451) (none) (.ref 296) (.none)),#[]⟩) ::
 (nat_lit 303,HD.kC "takes_ask" 595 175 2 3 298 true 181 299 (.none) (.ref 300) (.ref 301) (.ref 302) 601) ::
 (nat_lit 304,⟨.type "function",none,.func (PySem.W.fnOf "takes_ask" "takes_ask" (L2.defArgs (top 48)) (L2.defBody (top 48)) (L2.defScope (top 48)) (.none) (.none) (.none) (.str "groupcost.reading" 451) (none) (.ref 303) (.none)),#[]⟩) ::
 (nat_lit 310,HD.kC "takes_row" 604 182 2 3 305 true 181 306 (.none) (.ref 307) (.ref 308) (.ref 309) 610) ::
 (nat_lit 311,⟨.type "function",none,.func (PySem.W.fnOf "takes_row" "takes_row" (L2.defArgs (top 49)) (L2.defBody (top 49)) (L2.defScope (top 49)) (.none) (.none) (.none) (.str "groupcost.reading" 451) (none) (.ref 310) (.none)),#[]⟩) ::
 (nat_lit 315,HD.kC "begun_page" 613 189 1 3 312 true 181 313 (.none) (.none) (.none) (.ref 314) 616) ::
 (nat_lit 316,⟨.type "function",none,.func (PySem.W.fnOf "begun_page" "begun_page" (L2.defArgs (top 50)) (L2.defBody (top 50)) (L2.defScope (top 50)) (.none) (.none) (.none) (.str "groupcost.reading" 451) (none) (.ref 315) (.none)),#[]⟩) ::
 (nat_lit 320,HD.kC "read_page" 619 197 1 3 317 true 181 318 (.none) (.none) (.none) (.ref 319) 622) ::
 (nat_lit 321,⟨.type "function",none,.func (PySem.W.fnOf "read_page" "read_page" (L2.defArgs (top 51)) (L2.defBody (top 51)) (L2.defScope (top 51)) (.none) (.none) (.none) (.str "groupcost.reading" 451) (none) (.ref 320) (.none)),#[]⟩) ::
 (nat_lit 327,HD.kC "two_break" 627 214 3 3 322 true 181 323 (.none) (.ref 324) (.ref 325) (.ref 326) 633) ::
 (nat_lit 328,⟨.type "function",none,.func (PySem.W.fnOf "two_break" "two_break" (L2.defArgs (top 53)) (L2.defBody (top 53)) (L2.defScope (top 53)) (.none) (.none) (.none) (.str "groupcost.falling" 625) (none) (.ref 327) (.none)),#[]⟩) ::
 (nat_lit 334,HD.kC "break_beside" 636 216 2 3 329 true 181 330 (.none) (.ref 331) (.ref 332) (.ref 333) 645) ::
 (nat_lit 335,⟨.type "function",none,.func (PySem.W.fnOf "break_beside" "break_beside" (L2.defArgs (top 54)) (L2.defBody (top 54)) (L2.defScope (top 54)) (.none) (.none) (.none) (.str "groupcost.falling" 625) (none) (.ref 334) (.none)),#[]⟩) ::
 (nat_lit 341,HD.kC "break_of" 648 223 1 3 336 true 181 337 (.none) (.ref 338) (.ref 339) (.ref 340) 654) ::
 (nat_lit 342,⟨.type "function",none,.func (PySem.W.fnOf "break_of" "break_of" (L2.defArgs (top 55)) (L2.defBody (top 55)) (L2.defScope (top 55)) (.none) (.none) (.none) (.str "groupcost.falling" 625) (none) (.ref 341) (.none)),#[]⟩) ::
 (nat_lit 348,HD.kC "falls" 657 229 1 3 343 true 181 344 (.none) (.ref 345) (.ref 346) (.ref 347) 661) ::
 (nat_lit 349,⟨.type "function",none,.func (PySem.W.fnOf "falls" "falls" (L2.defArgs (top 56)) (L2.defBody (top 56)) (L2.defScope (top 56)) (.none) (.none) (.none) (.str "groupcost.falling" 625) (none) (.ref 348) (.none)),#[]⟩) ::
 (nat_lit 355,HD.kC "_law_cell" 666 232 2 3 350 true 181 351 (.none) (.ref 352) (.ref 353) (.ref 354) 671) ::
 (nat_lit 356,⟨.type "function",none,.func (PySem.W.fnOf "_law_cell" "_law_cell" (L2.defArgs (top 58)) (L2.defBody (top 58)) (L2.defScope (top 58)) (.none) (.none) (.none) (.str "law_groupcost_k89_whole_pages_of_makers" 664) (none) (.ref 355) (.none)),#[]⟩) ::
 (nat_lit 360,HD.kC "_law_names" 674 236 2 3 357 true 181 358 (.none) (.none) (.none) (.ref 359) 677) ::
 (nat_lit 361,⟨.type "function",none,.func (PySem.W.fnOf "_law_names" "_law_names" (L2.defArgs (top 59)) (L2.defBody (top 59)) (L2.defScope (top 59)) (.none) (.none) (.none) (.str "law_groupcost_k89_whole_pages_of_makers" 664) (none) (.ref 360) (.none)),#[]⟩) ::
 (nat_lit 367,HD.kC "_law_number" 680 247 1 3 362 true 181 363 (.none) (.ref 364) (.ref 365) (.ref 366) 685) ::
 (nat_lit 368,⟨.type "function",none,.func (PySem.W.fnOf "_law_number" "_law_number" (L2.defArgs (top 60)) (L2.defBody (top 60)) (L2.defScope (top 60)) (.none) (.none) (.none) (.str "law_groupcost_k89_whole_pages_of_makers" 664) (none) (.ref 367) (.none)),#[]⟩) ::
 (nat_lit 374,HD.kC "_law_hands_of" 688 254 2 3 369 true 181 370 (.none) (.ref 371) (.ref 372) (.ref 373) 695) ::
 (nat_lit 375,⟨.type "function",none,.func (PySem.W.fnOf "_law_hands_of" "_law_hands_of" (L2.defArgs (top 61)) (L2.defBody (top 61)) (L2.defScope (top 61)) (.none) (.none) (.none) (.str "law_groupcost_k89_whole_pages_of_makers" 664) (none) (.ref 374) (.none)),#[]⟩) ::
 (nat_lit 381,HD.kC "_law_steps_of" 698 259 2 3 376 true 181 377 (.none) (.ref 378) (.ref 379) (.ref 380) 705) ::
 (nat_lit 382,⟨.type "function",none,.func (PySem.W.fnOf "_law_steps_of" "_law_steps_of" (L2.defArgs (top 62)) (L2.defBody (top 62)) (L2.defScope (top 62)) (.none) (.none) (.none) (.str "law_groupcost_k89_whole_pages_of_makers" 664) (none) (.ref 381) (.none)),#[]⟩) ::
 (nat_lit 386,HD.kC "_law_row" 708 264 2 3 383 true 181 384 (.none) (.none) (.none) (.ref 385) 711) ::
 (nat_lit 387,⟨.type "function",none,.func (PySem.W.fnOf "_law_row" "_law_row" (L2.defArgs (top 63)) (L2.defBody (top 63)) (L2.defScope (top 63)) (.none) (.none) (.none) (.str "law_groupcost_k89_whole_pages_of_makers" 664) (none) (.ref 386) (.none)),#[]⟩) ::
 (nat_lit 391,HD.kC "law" 714 283 1 3 388 true 181 389 (.none) (.none) (.none) (.ref 390) 717) ::
 (nat_lit 392,⟨.type "function",none,.func (PySem.W.fnOf "law" "law" (L2.defArgs (top 64)) (L2.defBody (top 64)) (L2.defScope (top 64)) (.none) (.none) (.none) (.str "law_groupcost_k89_whole_pages_of_makers" 664) (none) (.ref 391) (.none)),#[]⟩)::[]
def KA:List Nat:=[3,15,22,23,24,25,28,35,36,37,40,47,48,49,52,59,60,61,64,76,77,78,79,80,83,84,85,86,87,88,89,90,96,97,101,102,108,109,115,116,122,123,129,130,134,135,141,142,146,147,151,152,158,159,165,166,172,173,177,178,184,185,191,192,196,197,201,202,215,216,217,218,219,220,221,227,228,232,233,237,238,242,243,249,250,256,257,263,264,270,271,275,276,282,283,289,290,296,297,303,304,310,311,315,316,320,321,327,328,334,335,341,342,348,349,355,356,360,361,367,368,374,375,381,382,386,387,391,392]
theorem KE (P:Params):KA=(KF P).map (·.1):=by kernel_rfl
noncomputable abbrev qq:Program:=PySem.W.view PySem.Challenge.pw_groupcost_k89_whole_pages_of_makers [64]
noncomputable abbrev lo:List Str:=(["CostError","Unlike","BadMaker","BadAsk","BadText","ASKS","ask_forms","hands_in","many_in","group_of","within","everybody","row_gives","must_be_alike","added","row_table","MOST_HANDS","check_hands","check_weight","check_covers","from_covers","check_cuts","is_cut","from_cuts","from_steps","LETTERS","FIGURES","MOST_LETTERS","PAGE_FIGURES","Page","is_name","number_in","numbers_in","hands_named","table_named","ask_part","ask_of","steps_more","named_more","more_of","takes_table","takes_more","takes_ask","takes_row","begun_page","read_page","two_break","break_beside","break_of","falls","_law_cell","_law_names","_law_number","_law_hands_of","_law_steps_of","_law_row"]:List String).map Str.ofString
noncomputable abbrev Xt (s:Shared):Bool:=PySem.W.xlAt qq [] s&&PySem.W.recOk (PySem.W.RowW.records (PySem.W.OpenRow.toRowW PySem.Challenge.rw_groupcost_k89_whole_pages_of_makers.row)) s
theorem left:PySem.W.LeftO PySem.Challenge.pw_groupcost_k89_whole_pages_of_makers qq lo Xt (PySem.W.Hook.obs (PySem.W.kHook KF KA KE)) (PySem.W.Hook.val (PySem.W.kHook KF KA KE)) 6444:=
 HD.left_of (PySem.W.boot_open (by kernel_rfl) (by kernel_rfl) (fun s=>by kernel_rfl)) (PySem.W.byRow2 "special-get-raises" (fun w os=>by kernel_rfl) (fun w os=>by kernel_rfl))
end My
open PySem PySem.W PyProof.Rows
set_option maxRecDepth 100000 in
set_option maxHeartbeats 0 in
theorem PySem.Challenge.cw_groupcost_k89_whole_pages_of_makers_holds : PySem.Challenge.rw_groupcost_k89_whole_pages_of_makers.Holds := by
 w_on
 refine holds_law (HD.said_of (by kernel_rfl)) fun said => ?_;refine holds_open (q := My.qq) (loose := My.lo) (Xt := My.Xt) (XP := XL My.qq []) (YP := Hook.says (kHook My.KF My.KA My.KE)) My.left (Hook.of (kHook My.KF My.KA My.KE)) (Hook.keeps (kHook My.KF My.KA My.KE)) (fun s e => xl_of s (aIx.mp e).1) XL.keeps (by rfl) (by rfl) (by rfl) (fun s e => recFacts_of (aIx.mp e).2) (by rfl) said (by decide +kernel) ⟨rfl, rfl, rfl, rfl, rfl, by decide +kernel⟩ ?hw ?hc
 case hw => w_witness2
 k_fill
 refine My.walk (l := PySem.Challenge.rw_groupcost_k89_whole_pages_of_makers) rfl rfl (fun w h Y => PySem.W.kIn_of Y) ?F
 case F =>
  intro w mg fa h KX G hmg;refine' My.all_mk KX G hmg ?a0 ?l0 ?cc0 ?k0 ?a1 ?l1 ?cc1 ?k1 ?a2 ?l2 ?cc2 ?k2 ?a3 ?l3 ?cc3 ?k3 ?a4 ?l4 ?cc4 ?k4 ?a5 ?l5 ?cc5 ?k5 ?a6 ?l6 ?cc6 ?k6 ?a7 ?l7 ?cc7 ?k7 ?a8 ?l8 ?cc8 ?k8 ?a9 ?l9 ?cc9 ?k9 ?a10 ?l10 ?cc10 ?k10 ?a11 ?l11 ?cc11 ?k11 ?a12 ?l12 ?cc12 ?k12 ?a13 ?l13 ?cc13 ?k13 ?a14 ?l14 ?cc14 ?k14 ?a15 ?l15 ?cc15 ?k15 ?a16 ?l16 ?cc16 ?k16 ?a17 ?l17 ?cc17 ?k17 ?a18 ?l18 ?cc18 ?k18 ?a19 ?l19 ?cc19 ?k19 ?a20 ?l20 ?cc20 ?k20 ?a21 ?l21 ?cc21 ?k21 ?a22 ?l22 ?cc22 ?k22 ?a23 ?l23 ?cc23 ?k23 ?a24 ?l24 ?cc24 ?k24 ?a25 ?l25 ?cc25 ?k25 ?a26 ?l26 ?cc26 ?k26 ?a27 ?l27 ?cc27 ?k27 ?a28 ?l28 ?cc28 ?k28 ?a29 ?l29 ?cc29 ?k29 ?a30 ?l30 ?cc30 ?k30 ?a31 ?l31 ?cc31 ?k31 ?a32 ?l32 ?cc32 ?k32 ?a33 ?l33 ?cc33 ?k33 ?a34 ?l34 ?cc34 ?k34 ?a35 ?l35 ?cc35 ?k35 ?a36 ?l36 ?cc36 ?k36 ?a37 ?l37 ?cc37 ?k37 ?a38 ?l38 ?cc38 ?k38 ?a39 ?l39 ?cc39 ?k39 ?a40 ?l40 ?cc40 ?k40 ?aC ?aI ?iI ?lP ?cP ?kP ?gC ?hC ?pC ?sC ?mC ?kC ?nN ?nT ?nA ?aI8 ?aI3 ?aHv ?aIe ?aId ?aIa ?aI9 ?aIc ?aI7 ?aI5 ?aHt ?aI2 ?aI6 ?aI1 ?aHu ?aIb ?aHw ?aHx
  any_goals (show _ = _; k_is)
