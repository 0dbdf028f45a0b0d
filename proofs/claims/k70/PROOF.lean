import PyProof.Rows.All
import Wide.All
import OpenK.AllK
import Wide.FinOn
import Lean
import PyProof.EqAt
import PyProof.EqKinds
import PyProof.TupleCall
import PyProof.NeKinds
import PyProof.SliceMore
import PyProof.AutoListH
import PyProof.WalksEnum
import PyProof.EnumMake
import PyProof.ZipIter
import PyProof.ConsumeS
import PyProof.WalkInts
import PyProof.ListRange
import PyProof.Rows.SortRev
import PyProof.Rows.SortWalk
import PyProof.Rows.CallKwBuiltin
import PyProof.Rows.RuleN_abs
import PyProof.Rows.FactsN_abs
import Open.Boot
import Open.Tree
import Open.FastT9
import PyProof.Rows.SetFrom
import PyProof.CollectWalk
import PyProof.ForAny
import PyProof.EnumIter
import KE.KRevIter
import KE.KSortTup
import KE.KLam
import KE.KNestM
import KE.KIntText
import PyProof.StrReplace2
import PyProof.StrBlockH
import PyProof.StrWalks
import PyProof.DictStraight
import PyProof.Rows.TupMore
import PyProof.TupleIter
import PySem.Challenge.RW_groupcost_k70_no_mix_refused
set_option Elab.async false
set_option linter.all false
set_option maxRecDepth 100000
def aHa := @Option.some.inj
def aHb := @List.getD_eq_getElem?_getD
def aHc := @List.getElem?_eq_getElem
def aHd := @List.mem_cons_of_mem
def aHe := @List.mem_cons_self
def aHf := @List.getElem?_eq_some_iff
def aHg := @List.all_eq_true
def aHh := @List.mem_range
def aHi := @Nat.lt_of_lt_of_le
def aHj := @List.size_toArray
def aHk := @List.getElem?_set_ne
def aHl := @PySem.Heap.get?_push_of_some
def aHm := @List.mem_cons
def aHn := @Bool.and_eq_true
def aHo := @Bool.and_eq_true_iff
def aHp := @Bool.eq_iff_iff
def aHq := @Bool.false_eq_true
def aHr := @Bool.false_ne_true
def aHs := @Bool.not_true
def aHt := @Bool.or_eq_true
def aHu := @PySem.Heap.get?_push_size
def aHv := @PySem.Heap.lt_size
def aHw := @PySem.Heap.size_push
def aHx := @Int.emod_lt_of_pos
def aHy := @Int.emod_nonneg
def aHz := @Int.le_of_lt
def aI0 := @Int.lt_or_le
def aI1 := @Int.mul_add
def aI2 := @Int.mul_le_mul_of_nonneg_left
def aI3 := @Int.mul_le_mul_of_nonneg_right
def aI4 := @Int.mul_right_comm
def aI6 := @Int.sub_self
def aI7 := @Int.toNat_natCast
def aI8 := @List.append_nil
def aI9 := @List.contains_iff_mem
def aIc := @List.filterMap_cons
def aId := @List.filter_cons
def aIe := @List.findSome?_cons
def aIl := @List.getElem?_map
def aIn := @List.getElem?_set_self
def aIo := @List.length_append
def aIp := @List.length_cons
def aIq := @List.length_filter_le
def aIr := @List.length_map
def aIs := @List.length_nil
def aIt := @List.length_range
def aIu := @List.length_replicate
def aIv := @List.length_set
def aIw := @List.length_take
def aIx := @List.lookup_cons
def aIy := @List.map_cons
def aIz := @List.map_map
def aJ0 := @List.map_nil
def aJ1 := @List.mem_append
def aJ2 := @List.mem_append_left
def aJ3 := @List.mem_append_right
def aJ4 := @List.mem_filter
def aJ5 := @List.mem_filterMap
def aJ7 := @List.mem_map
def aJa := @List.mem_singleton
def aJb := @List.nodup_cons
def aJc := @List.nodup_range
def aJd := @List.replicate_succ
def aJe := @Nat.le_of_lt
def aJf := @Nat.le_refl
def aJg := @Nat.le_trans
def aJh := @Nat.lt_irrefl
def aJi := @Nat.lt_of_le_of_lt
def aJk := @Nat.lt_succ_self
def aJl := @Nat.lt_trans
def aJn := @Nat.ne_of_gt
def aJo := @Nat.ne_of_lt
def aJp := @Nat.or_lt_two_pow
def aJq := @Nat.pow_le_pow_right
def aJs := @Nat.pow_pos
def aJt := @Nat.testBit_and
def aJu := @Nat.testBit_or
def aJv := @Nat.testBit_two_pow
def aJw := @Nat.zero_add
def aJx := @Nat.zero_le
def aJy := @Nat.zero_testBit
def aJz := @Option.bind_none
def aK0 := @Option.bind_some
def aK2 := @PySem.W.kia_one
def aK4 := @PySem.W.mg_none_of
def aK5 := @PySem.W.mg_of
namespace L2
open PySem PySem.Spec PyProof.Rows
abbrev Key:=Sum Int Str
def HY:Key->Value->Bool
 | .inl k,v=>Value.isInt k v
 | .inr x,v=>Value.isStrOf x v
def WL (w:World):Key->Int
 | .inl k=>hashInt k
 | .inr x=>hashStr w x
theorem jE:∀ {k:Key}{v:Value},HY k v=true->(∃ i t,k=Sum.inl i/\v=Value.int i t)\/(∃ x t,k=Sum.inr x/\v=Value.str x t)
 | .inl i,v,h=>by
  obtain⟨t,e⟩:=Value.isInt_shape (k:=i) (v:=v) h;exact .inl ⟨i,t,rfl,e⟩
 | .inr x,v,h=>by
  obtain⟨t,e⟩:=Value.isStrOf_shape (x:=x) (v:=v) h;exact .inr ⟨x,t,rfl,e⟩
theorem WM (a b:Int):decide ((Sum.inl a:Key)=Sum.inl b)=(a == b):=by
 by_cases e:a=b
 ·subst e;simp
 ·have h:¬ (Sum.inl a:Key)=Sum.inl b:=fun q=>e (Sum.inl.inj q)
  rw[decide_eq_false h];exact (beq_eq_false_iff_ne.mpr e).symm
theorem WP (a b:Str):decide ((Sum.inr a:Key)=Sum.inr b)=decide (a=b):=by
 by_cases e:a=b
 ·subst e;simp
 ·have h:¬ (Sum.inr a:Key)=Sum.inr b:=fun q=>e (Sum.inr.inj q)
  rw[decide_eq_false h,decide_eq_false e]
theorem WN (a:Int) (b:Str):decide ((Sum.inl a:Key)=Sum.inr b)=false:=decide_eq_false (fun q=>nomatch q)
theorem WO (a:Str) (b:Int):decide ((Sum.inr a:Key)=Sum.inl b)=false:=decide_eq_false (fun q=>nomatch q)
def sC (prog:Program) (w:World):PySem.KeyKind prog w Key where
 is:=HY
 hash:=WL w
 inj:=fun v a b ha hb=>by
  rcases jE ha with ⟨i,t,rfl,rfl⟩ | ⟨x,t,rfl,rfl⟩
  ·rcases jE hb with ⟨j,u,rfl,e⟩ | ⟨y,u,rfl,e⟩
   ·injection e with e1 _;rw[e1]
   ·exact nomatch e
  ·rcases jE hb with ⟨j,u,rfl,e⟩ | ⟨y,u,rfl,e⟩
   ·exact nomatch e
   ·injection e with e1 _;rw[e1]
 byValue:=fun k v h=>by
  rcases jE h with ⟨i,t,rfl,rfl⟩ | ⟨x,t,rfl,rfl⟩<;>rfl
 pyHash:=fun hv h=>by
  rcases jE hv with ⟨i,t,rfl,rfl⟩ | ⟨x,t,rfl,rfl⟩
  ·exact wpAny_pyHash_int h
  ·exact wpAny_pyHash_str h
 eqBool:=fun hu hv h=>by
  rcases jE hu with ⟨i,t,rfl,rfl⟩ | ⟨x,t,rfl,rfl⟩
  ·rcases jE hv with ⟨j,u,rfl,rfl⟩ | ⟨y,u,rfl,rfl⟩
   ·rw[WM] at h;exact wpAny_eqBool_int h
   ·rw[WN] at h;exact SeqAt.EqAt.int_str i t y u _ _ _ _ h
  ·rcases jE hv with ⟨j,u,rfl,rfl⟩ | ⟨y,u,rfl,rfl⟩
   ·rw[WO] at h;exact SeqAt.EqAt.str_int x t j u _ _ _ _ h
   ·rw[WP] at h;exact wpAny_eqBool_str h
 «strs»:=fun k x t v h=>by
  rcases jE h with ⟨i,u,rfl,e⟩ | ⟨y,u,rfl,e⟩
  ·exact nomatch e
  ·injection e with e1 _
   subst e1;cases v<;>rfl
inductive V where
 | non | bl (b:Bool) | int (i:Int) | str (x:Str) | byt (b:Array UInt8) | flt (b:UInt64) | ref (a:Addr) | ty (n:String)
 deriving DecidableEq
def aX:V->Value->Prop
 | .non,u=>u=Value.none
 | .bl b,u=>u=Value.bool b
 | .int i,u=>∃ t,u=Value.int i t
 | .str x,u=>∃ t,u=Value.str x t
 | .byt b,u=>∃ t,u=Value.bytes b t
 | .flt b,u=>∃ t,u=Value.float b t
 | .ref a,u=>u=Value.ref a
 | .ty n,u=>u=Value.type n
abbrev aL:List V->List Value->Prop:=Paired aX
theorem aL.length {xs:List V}{us:List Value}(r:aL xs us):xs.length=us.length:=Paired.length r
theorem aL.get:∀ {xs:List V}{us:List Value}{i:Nat}{x:V},aL xs us->xs[i]?=some x->∃ u,us[i]?=some u/\aX x u
 | _,_,_,_,.nil,e=>by simp at e
 | _,_,0,_,.cons r _,e=>by simp at e;subst e;exact⟨_,rfl,r⟩
 | _,_,i+1,x,.cons _ t,e=>by
  obtain⟨u,h1,h2⟩:=aL.get (i:=i) (x:=x) t (by simpa using e);exact⟨u,by simpa using h1,h2⟩
theorem aL.set {x:V}{u:Value}(r:aX x u):∀ {xs:List V}{us:List Value}(i:Nat),aL xs us->aL (xs.set i x) (us.set i u)
 | _,_,_,.nil=>.nil
 | _,_,0,.cons _ t=>.cons r t
 | _,_,i+1,.cons q t=>.cons q (aL.set r i t)
theorem aL.append:∀ {xs ys:List V}{us ws:List Value},aL xs us->aL ys ws->aL (xs++ys) (us++ws)
 | _,_,_,_,.nil,s=>s
 | _,_,_,_,.cons r t,s=>.cons r (aL.append t s)
theorem aL.none_of:∀ {xs:List V}{us:List Value}{i:Nat},aL xs us->xs[i]?=none->us[i]?=none:=fun {xs us i} r e=>by
 have h1:=r.length;have h2:xs.length<=i:=List.getElem?_eq_none_iff.mp e;exact List.getElem?_eq_none_iff.mpr (by lia)
def DL:Option V->Option Value->Prop
 | some v,some u=>aX v u
 | none,none=>True
 | _,_=>False
def KV {κ:Type}:List (κ × V)->List (κ × Value)->Prop:=Paired fun (p:κ × V) (q:κ × Value)=>p.1=q.1/\aX p.2 q.2
def kV:Key->V
 | .inl i=>.int i
 | .inr x=>.str x
inductive HO where
 /-- a list -/
 | lst (xs : List V)
 /-- a tuple (never changes) -/
 | tup (xs : List V)
 /-- a dict whose keys are ints and texts; one whose keys are tuples of ints and texts (the empty one is both) -/
 | dK (kvs : List (Key × V)) | dT (kvs : List (List Key × V))
 /-- a set of ints: its members, its size -/
 | set (S : Int -> Bool) (n : Nat)
 /-- an instance of the class at C, its dict at dx, its attributes -/
 | ins (C dx : Addr) (fs : List (Str × V))
 /-- the dict of the instance at x -/
 | own (x : Addr)
 /-- the dict of an exception -/
 | xd (fs : List (Str × V))
 /-- a bound method, f of x -/
 | met (f x : Addr)
 /-- a range object lo, lo + 1, .. below hi -/
 | rng (lo hi : Int)
 /-- a thing that is known to the object (the script; a dict while a loop walks it): read, never written while it is so -/
 | frz (o : Obj) (u : HO)
 /-- a code object's table -/
 | tbl (ps : Array Value)
 /-- any other thing, by what is true of its one object (a def of one's own: SetO a S n := HO.ext fun h => ..) -/
 | ext (φ : Heap -> Prop)
 /-- a code object's table that may hold the code q of a lambda at pos, which is tracked as its own -/
 | tbc (pos : Pos) (q : Str)
abbrev Hp:=Addr->Option HO
def upd (H:Hp) (a:Addr) (o:HO):Hp:=fun b=>if b=a then some o else H b
theorem cP {H:Hp}{a:Addr}{o:HO}:upd H a o a=some o:=by unfold upd;rw[if_pos rfl]
theorem aR {H:Hp}{a b:Addr}{o:HO}(h:b≠a):upd H a o b=H b:=by unfold upd;rw[if_neg h]
theorem fS {H:Hp}{a b:Addr}{o:HO}(h:H a=some o) (h':H b=none):a≠b:=by
 intro e;subst e;rw[h] at h';cases h'
section
variable (P:Program) (w:World)
def cL (H : Hp) (h : Heap) (a : Addr) : HO -> Prop
 | .lst xs => xs.length <= sizeLine /\ ∃ (its : List Value) (n : Nat), aL xs its /\ h.get? a = some { cls := .type "list", data := .seq its.toArray n }
 | .tup xs => xs.length <= sizeLine /\ ∃ its : List Value, aL xs its /\ IsTup h a its.toArray
 | .dK kvs => kvs.length <= sizeLine /\ (a == sysModules) = false /\ ∃ vs, KV kvs vs /\ h.DictOf (sC P w) a vs
 | .dT kvs => kvs.length <= sizeLine /\ (a == sysModules) = false /\ ∃ xs : List (List Key × Addr × Value),
   Paired (fun (p : List Key × V) (q : List Key × Addr × Value) => p.1 = q.1 /\ H q.2.1 = some (.tup (p.1.map kV)) /\ aX p.2 q.2.2) kvs xs /\
   ∃ o es ep, h.get? a = some o /\ o.ExactDict /\ o.data = .dict es ep /\ es.toList = xs.map (entryOfKey (tupleKind (sC P w))) /\ (xs.map (·.1)).Nodup
 | .set S n => h.SetOf (intKind P w) a S n
 | .ins C dx fs => H dx = some (.own a) /\ fs.length <= 1000 /\ dx ≠ a /\ h.get? a = some (PySem.W.instObj C dx) /\
   ∃ mA, h.Ns1 dx mA /\ (∀ f, DL (fs.lookup f) (mA f)) /\ PySem.Within mA (fs.map (·.1))
 | .own _ => ∃ o, h.get? a = some o
 | .xd fs => ∃ mA, h.Ns1 a mA /\ ∀ f, DL (fs.lookup f) (mA f)
 | .rng lo hi => ∃ t u v, h.get? a = some { cls := .type "range", data := .fields #[.int lo t, .int hi u, .int 1 v] }
 | .frz o u => h.get? a = some o /\ cL H h a u
 | .tbl ps => h.get? a = some { cls := .none, data := .fields ps }
 | .met f x => h.get? a = some (PySem.W.methodObj (.ref f) (.ref x))
 | .tbc pos q => ∃ ps : Array Value, h.get? a = some { cls := .none, data := .fields ps } /\ TriplesOk ps.toList /\ (codeAmong pos ps.toList = none \/ ∃ c oc vs t, codeAmong pos ps.toList = some (.ref c) /\ H c = some (.own a) /\ h.get? c = some oc /\ oc.data = .fields vs /\ vs[1]? = some (.str q t))
 | .ext φ => φ h /\ (∃ o, h.get? a = some o) /\ ∀ h1 h2 : Heap, φ h1 -> (∀ o, h1.get? a = some o -> h2.get? a = some o) -> φ h2
def HOk (H:Hp) (h:Heap):Prop:=∀ a o,H a=some o->cL P w H h a o
end
section
variable {P:Program}{w:World}{H H':Hp}{h h':Heap}{a:Addr}{o:HO}
theorem cL.lt (x:cL P w H h a o):a<h.objs.size:=by
 cases o with
 | lst xs=>obtain⟨_,_,_,_,e⟩:=x;exact aHv e
 | tup xs=>obtain⟨_,_,_,p⟩:=x;exact p.lt
 | dK kvs=>obtain⟨_,_,_,_,o,_,_,e,_⟩:=x;exact aHv e
 | dT kvs=>obtain⟨_,_,_,_,o,_,_,e,_⟩:=x;exact aHv e
 | set S n=>obtain⟨o,_,_,_,e,_⟩:=x;exact aHv e
 | ins C dx fs=>obtain⟨_,_,_,e,_⟩:=x;exact aHv e
 | own y=>obtain⟨_,e⟩:=x;exact aHv e
 | xd fs=>obtain⟨_,⟨_,_,_,e,_⟩,_⟩:=x;exact aHv e
 | rng lo hi=>obtain⟨_,_,_,e⟩:=x;exact aHv e
 | frz ob u=>obtain⟨e,_⟩:=x;exact aHv e
 | tbl ps=>exact aHv (show h.get? a=some _ from x)
 | met f y=>exact aHv (show h.get? a=some _ from x)
 | ext φ=>obtain⟨_,⟨_,e⟩,_⟩:=x;exact aHv e
 | tbc pos q=>obtain⟨_,e,_⟩:=x;exact aHv e
theorem Paired.mapP {α β:Type}{F G:α->β->Prop}:∀ {l₁:List α}{l₂:List β},Paired F l₁ l₂->(∀ a b,F a b->G a b)->Paired G l₁ l₂
 | _,_,.nil,_=>.nil
 | _,_,.cons r t,f=>.cons (f _ _ r) (Paired.mapP t f)
theorem cL.stay (x:cL P w H h a o) (k:∀ b u,(b=a\/H b=some (.own a))->h.get? b=some u->h'.get? b=some u)
  (ho:∀ b,H b=some (.own a)->H' b=some (.own a)) (ht:∀ b xs,H b=some (.tup xs)->H' b=some (.tup xs)):cL P w H' h' a o:=by
 induction o with
 | lst xs=>obtain⟨z,its,n,r,e⟩:=x;exact⟨z,its,n,r,k _ _ (.inl rfl) e⟩
 | tup xs=>obtain⟨z,its,r,ob,e,c⟩:=x;exact⟨z,its,r,ob,k _ _ (.inl rfl) e,c⟩
 | dK kvs=>obtain⟨z,y,vs,r,ob,es,ep,e,c⟩:=x;exact⟨z,y,vs,r,ob,es,ep,k _ _ (.inl rfl) e,c⟩
 | dT kvs=>
  obtain⟨z,y,xs,r,ob,es,ep,e,c⟩:=x;exact⟨z,y,xs,Paired.mapP r fun p q z=>⟨z.1,ht _ _ z.2.1,z.2.2⟩,ob,es,ep,k _ _ (.inl rfl) e,c⟩
 | set S n=>obtain⟨ob,es,ep,t,e,c⟩:=x;exact⟨ob,es,ep,t,k _ _ (.inl rfl) e,c⟩
 | ins C dx fs=>
  obtain⟨d,z,ne,e,mA,⟨od,es,ep,e2,c⟩,r⟩:=x;exact⟨ho _ d,z,ne,k _ _ (.inl rfl) e,mA,⟨od,es,ep,k _ _ (.inr d) e2,c⟩,r⟩
 | own y=>obtain⟨ob,e⟩:=x;exact⟨ob,k _ _ (.inl rfl) e⟩
 | xd fs=>obtain⟨mA,⟨od,es,ep,e,c⟩,r⟩:=x;exact⟨mA,⟨od,es,ep,k _ _ (.inl rfl) e,c⟩,r⟩
 | rng lo hi=>obtain⟨t,u,v,e⟩:=x;exact⟨t,u,v,k _ _ (.inl rfl) e⟩
 | frz ob u ih=>obtain⟨e,q⟩:=x;exact⟨k _ _ (.inl rfl) e,ih q⟩
 | tbl ps=>
  have e:h.get? a=some { cls:=.none,data:=.fields ps }:=x;show h'.get? a=some { cls:=.none,data:=.fields ps };exact k a _ (.inl rfl) e
 | met f y=>
  have e:h.get? a=some (PySem.W.methodObj (.ref f) (.ref y)):=x;show h'.get? a=some (PySem.W.methodObj (.ref f) (.ref y));exact k a _ (.inl rfl) e
 | ext φ=>obtain⟨p,⟨o,e⟩,st⟩:=x;exact⟨st _ _ p fun o q=>k _ _ (.inl rfl) q,⟨o,k _ _ (.inl rfl) e⟩,st⟩
 | tbc pos q=>
  obtain⟨ps,e,t,r⟩:=x;refine⟨ps,k _ _ (.inl rfl) e,t,?_⟩;rcases r with r | ⟨c,oc,vs,t,r1,r2,r3,r4,r5⟩
  ·exact .inl r
  ·exact .inr ⟨c,oc,vs,t,r1,ho _ r2,k _ _ (.inr r2) r3,r4,r5⟩
theorem HOk.lt (x:HOk P w H h) (e:H a=some o):a<h.objs.size:=(x a o e).lt
theorem HOk.fresh (x:HOk P w H h) (e:h.objs.size<=a):H a=none:=by
 cases q:H a with
 | none=>rfl
 | some u=>exact absurd (aHi (x.lt q) e) (aJh _)
theorem HOk.kept (x:HOk P w H h) (k:∀ b u,h.get? b=some u->h'.get? b=some u):HOk P w H h':=fun a o e=>
 (x a o e).stay (fun b u _ q=>k b u q) (fun _ q=>q) fun _ _ q=>q
theorem HOk.laid (x:HOk P w H h) (k:∀ b u,h.get? b=some u->h'.get? b=some u) (hp:h.objs.size<=a) (new:cL P w (upd H a o) h' a o):HOk P w (upd H a o) h':=fun b u e=>by
 have hn:=x.fresh hp
 by_cases hb:b=a
 ·subst hb;rw[cP] at e;cases e;exact new
 ·rw[aR hb] at e
  exact (x b u e).stay (fun c v _ q=>k c v q) (fun c q=>by rw[aR (fS q hn)];exact q) fun c xs q=>by rw[aR (fS q hn)];exact q
end
def Rd (H:Hp) (a:Addr) (u:HO):Prop:=H a=some u\/∃ o,H a=some (.frz o u)
theorem Rd.ok {P:Program}{w:World}{H:Hp}{h:Heap}{a:Addr}{u:HO}(r:Rd H a u) (x:HOk P w H h):cL P w H h a u:=by
 rcases r with r | ⟨o,r⟩
 ·exact x a u r
 ·obtain⟨_,q⟩:=x a _ r
  exact q
def Mut:Option HO->Prop
 | some (.lst _)=>True
 | some (.dK _)=>True
 | some (.dT _)=>True
 | some (.set _ _)=>True
 | some (.ins _ _ _)=>True
 | some (.ext _)=>True
 | _=>False
section
variable {P:Program}{w:World}{H:Hp}{h h':Heap}{x e:Addr}{o':HO}
theorem HOk.write (ok:HOk P w H h) (mu:Mut (H x)) (he:e=x\/H e=some (.own x)) (k:∀ b u,b≠e->h.get? b=some u->h'.get? b=some u) (heo:∃ u,h'.get? e=some u)
  (new:cL P w (upd H x o') h' x o'):HOk P w (upd H x o') h':=fun b u q=>by
 have nown:∀ c y,H c=some (.own y)->c≠x:=fun c y r z=>by subst z;rw[r] at mu;exact mu
 have ntup:∀ c xs,H c=some (.tup xs)->c≠x:=fun c xs r z=>by subst z;rw[r] at mu;exact mu
 by_cases hb:b=x
 ·subst hb;rw[cP] at q;cases q;exact new
 ·rw[aR hb] at q
  by_cases hbe:b=e
  ·have q':H b=some (.own x):=by
    rcases he with z | z
    ·exact absurd (hbe.trans z) hb
    ·rw[hbe];exact z
   rw[q] at q';cases q';obtain⟨v,hv⟩:=heo;exact⟨v,by rw[hbe];exact hv⟩
  ·refine (ok b u q).stay (fun c v hc r=>k c v ?_ r) (fun c r=>by rw[aR (nown c b r)];exact r) fun c xs r=>by rw[aR (ntup c xs r)];exact r
   rcases hc with rfl | hc
   ·exact hbe
   ·rintro rfl
    rcases he with z | z
    ·exact nown c b hc z
    ·rw[hc] at z;cases z;exact hb rfl
end
structure Un (fs ex:List Addr) (H H':Hp) (h h':Heap):Prop where
 keep:∀ b o,h.get? b=some o->H b=none->b ∉ fs->b ∉ ex->h'.get? b=some o
 slot:∀ b o,h.get? b=some o->H b=none->b∈fs->b ∉ ex->∃ sl,h'.get? b=some { o with slots:=sl }
 free:∀ b o,h.get? b=some o->H b=none->b ∉ ex->H' b=none
 there:∀ b o,h.get? b=some o->b ∉ ex->∃ o',h'.get? b=some o'
 tups:∀ b xs,H b=some (.tup xs)->H' b=some (.tup xs)
 frzs:∀ b o u,H b=some (.frz o u)->H' b=some (.frz o u)
 tbls:∀ b ps,H b=some (.tbl ps)->∃ more,H' b=some (.tbl (ps++more))
section
variable {fs fs' ex ex':List Addr}{H H1 H2:Hp}{h h1 h2 h':Heap}{a x e:Addr}{o:HO}
theorem Un.any (u:Un fs ex H H1 h h1) {b:Addr}{ob:Obj}(q:h.get? b=some ob) (n:H b=none) (hx:b ∉ ex):∃ sl,h1.get? b=some { ob with slots:=sl }:=by
 by_cases hb:b∈fs
 ·exact u.slot b ob q n hb hx
 ·exact⟨ob.slots,u.keep b ob q n hb hx⟩
theorem Un.kept (k:∀ b u,h.get? b=some u->h'.get? b=some u):Un fs ex H H h h':=
 ⟨fun b ob q _ _ _=>k b ob q,fun b ob q _ _ _=>⟨ob.slots,k b ob q⟩,fun _ _ _ n _=>n,fun b ob q _=>⟨ob,k b ob q⟩,fun _ _ q=>q,fun _ _ _ q=>q,fun _ ps q=>⟨#[],by rw[q];simp⟩⟩
theorem Un.refl:Un fs ex H H h h:=Un.kept fun _ _ q=>q
theorem Un.laid (k:∀ b u,h.get? b=some u->h'.get? b=some u) (hp:h.objs.size<=a) (hn:H a=none):Un fs ex H (upd H a o) h h' where
 keep:=fun b u q _ _ _=>k b u q
 slot:=fun b u q _ _ _=>⟨u.slots,k b u q⟩
 free:=fun b u q n _=>by rw[aR (aJo (aHi (aHv q) hp))];exact n
 there:=fun b u q _=>⟨u,k b u q⟩
 tups:=fun b xs q=>by rw[aR (fS q hn)];exact q
 frzs:=fun b u xs q=>by rw[aR (fS q hn)];exact q
 tbls:=fun b ps q=>⟨#[],by rw[aR (fS q hn),q];simp⟩
theorem Un.write (mu:Mut (H x)) (he:e=x\/H e=some (.own x)) (k:∀ b u,b≠e->h.get? b=some u->h'.get? b=some u) (heo:∃ u,h'.get? e=some u):Un fs ex H (upd H x o) h h':=by
 have hx:∀ b,H b=none->b≠x:=fun b n z=>by subst z;rw[n] at mu;exact mu
 have hb:∀ b,H b=none->b≠e:=fun b n z=>by
  subst z;rcases he with r | r
  ·exact hx b n r
  ·rw[n] at r;cases r
 have hm:∀ b u,H b=some u->¬ Mut (some u)->b≠x:=fun b u q nm z=>by subst z;rw[q] at mu;exact nm mu
 refine⟨fun b u q n _ _=>k b u (hb b n) q,fun b u q n _ _=>⟨u.slots,k b u (hb b n) q⟩,fun b u q n _=>by rw[aR (hx b n)];exact n,fun b u q _=>?_,
  fun b xs q=>by rw[aR (hm b _ q fun z=>z)];exact q,fun b u xs q=>by rw[aR (hm b _ q fun z=>z)];exact q,fun b ps q=>⟨#[],by rw[aR (hm b _ q fun z=>z),q];simp⟩⟩
 by_cases hbe:b=e
 ·subst hbe;exact heo
 ·exact⟨u,k b u hbe q⟩
end
def trk (h:Heap) (H:Hp):List Addr:=(List.range h.objs.size).filter fun a=>(H a).isSome
def jA (h:Heap) (H:Hp):Heap:=PySem.W.hideAll h (trk h H)
theorem VJ (h:Heap) (H:Hp):(jA h H).objs.size=h.objs.size:=PySem.W.hideAll_size _ _
theorem VI {h:Heap}{H:Hp}{b:Addr}{o:Obj}(e:h.get? b=some o) (n:H b=none):(jA h H).get? b=some o:=
 PySem.W.hideAll_get _ e fun hm=>by
  have q:(H b).isSome=true:=(aJ4.mp hm).2;rw[n] at q;simp at q
theorem YQ {h:Heap}{H:Hp}{b:Addr}{o:Obj}(e:(jA h H).get? b=some o):h.get? b=some o/\H b=none:=by
 have e':h.get? b=some o:=PySem.W.of_hideAll (trk h H) e;refine⟨e',?_⟩;cases q:H b with
 | none=>rfl
 | some x=>
  have hm:b∈trk h H:=aJ4.mpr ⟨aHh.mpr (aHv e'),by simp[q]⟩;have z:(jA h H).get? b=none:=PySem.W.hideAll_none (trk h H) hm;rw[z] at e;cases e
def OU (g h:Heap) (L:Addr):List (Addr × Obj):=(List.range h.objs.size).filterMap fun a=>if a=L\/(g.get? a).isSome=true then none else (h.get? a).map fun o=>(a,o)
def rest (g h:Heap) (L d:Addr):List (Addr × Obj):=(OU g h L).filter fun p=>decide (p.1≠d)
structure Mod (K:PySem.W.Frag) (mg:Str->Option Value) (base:Heap):Prop where
 kin:K.In base
 glob:base.Ns mainGlobals mg
 blt:∃ mb,base.Ns builtinsNs mb/\∀ x:Str,x ≠ "__name__" -> mb x=bootBuiltins x
 nolimit:base.NoLimit
 nodig:base.NoDigits
structure Cx where
 prog:Program
 w:World
 K:PySem.W.Frag
 mg:Str->Option Value
 base:Heap
 A:Around
 N:List Str
 s₀:Shared
 H₀:Hp
 env:Env
 outer:List Env
 stack:List Env
 ex:List Addr
 fn:Str->Bool
 calm:Bool
 pn:List (Addr × Obj)
 xe:Value->Shared->Prop
def frs (l:List Env):List Addr:=l.filterMap (·.frame)
abbrev Cx.fs (X:Cx):List Addr:=frs X.outer
def Vis (sc:Scope) (x:Str):Prop:=sc.names.lookup x=some .local\/sc.names.lookup x=some .cell\/sc.names.lookup x=some .free
def Loc (sc:Scope) (x:Str):Prop:=sc.names.lookup x=some .local\/sc.names.lookup x=some .cell
def OP (env:Env) (h:Heap) (m:Str->Option Value) (x:Str) (u:Value):Prop:=
 (env.kindOf x=some .local/\m x=some u)\/((env.kindOf x=some .cell\/env.kindOf x=some .free)/\∃ c,env.cells.lookup x=some c/\h.IsCell c (some u))
structure Cx.Ok (X:Cx):Prop where
 mod:Mod X.K X.mg X.base
 kind:X.env.scope.kind=.function
 glob:X.env.globals=mainGlobals
 blt:X.env.builtins=builtinsNs
 above:X.s₀.heap.objs.size<=X.env.locals
 inj:∀ x y c,X.env.cells.lookup x=some c->X.env.cells.lookup y=some c->x=y
 has:∀ x,(X.env.kindOf x=some .cell\/X.env.kindOf x=some .free)->∃ c,X.env.cells.lookup x=some c
 cab:∀ x c,X.fn x=true->X.env.cells.lookup x=some c->X.s₀.heap.objs.size<=c
 hd:X.calm=true->X.A.handled=none
 frames:X.A.frames=some X.stack
 stk:X.stack=X.outer\/(X.stack=X.env::X.outer/\X.env.frame=some X.env.locals)
 exf:∀ b∈X.ex,b≠X.env.locals/\∀ x c,X.env.cells.lookup x=some c->c≠b
 bs:∀ b o,X.base.get? b=some o->X.s₀.heap.get? b=some o/\X.H₀ b=none
 bsz:X.base.objs.size<=X.s₀.heap.objs.size
 noex:∀ b o,X.base.get? b=some o->b ∉ X.ex
 exfs:∀ b∈X.ex,b ∉ X.fs
 funs:X.s₀.heap.FunFrames X.base X.outer
 frf:∀ b∈X.fs,X.H₀ b=none
structure Inv (X:Cx) (pins:List (Addr × Obj)) (σ:List (Option V)) (H:Hp) (s:Shared):Prop where
 ok:X.Ok
 os:s.os=X.s₀.os
 bare:AllBare s.gens
 base:Un X.fs X.ex X.H₀ H X.s₀.heap s.heap
 loc:∃ m,s.heap.Ns X.env.locals m/\∀ (i:Nat) (x:Str) (v:V),X.N[i]?=some x->σ[i]?=some (some v)->Vis X.env.scope x->∃ u,aX v u/\OP X.env s.heap m x u
 cell:∀ x c,X.env.cells.lookup x=some c->∃ v,s.heap.IsCell c v
 free:H X.env.locals=none
 freeC:∀ x c,X.env.cells.lookup x=some c->H c=none
 pin:∀ p∈X.pn++pins,s.heap.get? p.1=some p.2/\H p.1=none/\p.1≠X.env.locals/\p.1 ∉ X.fs/\∀ v,p.2.data≠.cell v
 hok:HOk X.prog X.w H s.heap
 len:σ.length=X.N.length
section
variable {X:Cx}{pins:List (Addr × Obj)}{σ:List (Option V)}{H H':Hp}{s:Shared}{h':Heap}
theorem Cx.Ok.nofr (ok:X.Ok) {b:Addr}{o:Obj}(e:X.base.get? b=some o):b ∉ X.fs:=fun hb=>by
 have:=(ok.funs.mem hb).1;rw[e] at this;cases this
theorem Inv.bs (I:Inv X pins σ H s):∀ b o,X.base.get? b=some o->s.heap.get? b=some o/\H b=none:=fun b o e=>
 ⟨I.base.keep b o (I.ok.bs b o e).1 (I.ok.bs b o e).2 (I.ok.nofr e) (I.ok.noex b o e),I.base.free b o (I.ok.bs b o e).1 (I.ok.bs b o e).2 (I.ok.noex b o e)⟩
theorem Inv.bk (I:Inv X pins σ H s):∀ b o,X.base.get? b=some o->s.heap.get? b=some o:=fun b o e=>(I.bs b o e).1
theorem Inv.mod (I:Inv X pins σ H s):Mod X.K X.mg X.base:=I.ok.mod
theorem Inv.kIn (I:Inv X pins σ H s):X.K.In s.heap:=I.ok.mod.kin.keeps I.bk
theorem Inv.lt (I:Inv X pins σ H s):X.env.locals<s.heap.objs.size:=let ⟨_,hn,_⟩:=I.loc;hn.lt
theorem Inv.sz (I:Inv X pins σ H s):X.s₀.heap.objs.size<=s.heap.objs.size:=aJg I.ok.above (aJe I.lt)
theorem Inv.nofs (I:Inv X pins σ H s) {a:Addr}(h:s.heap.objs.size<=a):a ∉ X.fs:=fun hb=>by
 obtain⟨_,o,ho,_⟩:=I.ok.funs.mem hb;exact absurd (aHi (aHv ho) (aJg I.sz h)) (aJh _)
theorem Inv.cne (I:Inv X pins σ H s):∀ x c,X.env.cells.lookup x=some c->c≠X.env.locals:=fun x c e z=>by
 obtain⟨v,o,ho,hd⟩:=I.cell x c e;obtain⟨m,⟨o',es,ep,ho',hd',_⟩,_⟩:=I.loc;rw[z,ho'] at ho;cases ho;rw[hd'] at hd;cases hd
theorem Inv.funs (I:Inv X pins σ H s):s.heap.FunFrames X.base X.outer:=by
 have all:∀ (l:List Env),(∀ b∈frs l,b∈X.fs)->X.s₀.heap.FunFrames X.base l->s.heap.FunFrames X.base l:=by
  intro l
  induction l with
  | nil=>intro _ _;trivial
  | cons env r ih=>
   intro hs hl;obtain⟨hk,⟨L,o,hf,hn,ho,hd⟩,hr⟩:=hl;have hL:L∈X.fs:=hs L (by unfold frs;rw[aIc,hf];exact aHe);obtain⟨sl,e⟩:=I.base.slot L o ho (I.ok.frf L hL) hL fun z=>I.ok.exfs L z hL;exact⟨hk,⟨L,_,hf,hn,e,hd⟩,ih (fun b hb=>hs b (by unfold frs;rw[aIc,hf];exact aHd _ hb)) hr⟩
 exact all X.outer (fun _ hb=>hb) I.ok.funs
theorem Inv.stack (I:Inv X pins σ H s):s.heap.FunFrames X.base X.stack:=by
 rcases I.ok.stk with e | ⟨e,hf⟩
 ·rw[e];exact I.funs
 ·rw[e]
  obtain⟨m,hn,_⟩:=I.loc;refine .cons (by rw[I.ok.kind];decide) hf hn ?_ I.funs;exact Heap.get?_none_of_le (aJg I.ok.bsz I.ok.above)
theorem Inv.stkSub (I:Inv X pins σ H s):∀ b∈frs X.stack,b∈X.env.locals::X.fs:=fun b hb=>by
 rcases I.ok.stk with e | ⟨e,hf⟩
 ·rw[e] at hb;exact aHd _ hb
 ·rw[e] at hb
  unfold frs at hb;rw[aIc,hf] at hb;exact hb
theorem Inv.stkFree (I:Inv X pins σ H s):∀ b∈frs X.stack,H b=none:=fun b hb=>by
 rcases aHm.mp (I.stkSub b hb) with e | hb
 ·rw[e];exact I.free
 ·obtain⟨_,o,ho,_⟩:=I.ok.funs.mem hb
  exact I.base.free b o ho (I.ok.frf b hb) fun z=>I.ok.exfs b z hb
theorem Inv.step {g':Array GenState}{t':Nat}{d':Drawn}{ch:List Addr}(I:Inv X pins σ H s)
  (hch:∀ b∈ch,(b∈X.ex\/X.s₀.heap.objs.size<=b)/\b≠X.env.locals/\(∀ x c,X.env.cells.lookup x=some c->c≠b)/\∀ p∈X.pn++pins,p.1≠b)
  (keep:∀ b o,b≠X.env.locals->b ∉ X.fs->b ∉ ch->s.heap.get? b=some o->H b=none->h'.get? b=some o)
  (slot:∀ b o,b≠X.env.locals->b∈X.fs->b ∉ ch->s.heap.get? b=some o->H b=none->∃ sl,h'.get? b=some { o with slots:=sl }) (free:∀ b o,b ∉ ch->s.heap.get? b=some o->H b=none->H' b=none)
  (there:∀ b o,b ∉ ch->s.heap.get? b=some o->∃ o',h'.get? b=some o')
  (tups:∀ b xs,H b=some (.tup xs)->H' b=some (.tup xs)) (frzs:∀ b o u,H b=some (.frz o u)->H' b=some (.frz o u)) (tbls:∀ b ps,H b=some (.tbl ps)->∃ more,H' b=some (.tbl (ps++more)))
  (ns:∀ m,s.heap.Ns X.env.locals m->h'.Ns X.env.locals m) (hok:HOk X.prog X.w H' h') (hg:AllBare g'):
  Inv X pins σ H' { s with heap:=h',gens:=g',drawn:=d',toks:=t' }:=by
 have neL:∀ b o,X.s₀.heap.get? b=some o->b≠X.env.locals:=fun b o e=>aJo (aHi (aHv e) I.ok.above);have neC:∀ b o,X.s₀.heap.get? b=some o->b ∉ X.ex->b ∉ ch:=fun b o e hx hb=>by
  rcases (hch b hb).1 with z | z
  ·exact hx z
  ·exact absurd (aHi (aHv e) z) (aJh _)
 have cellK:∀ x c,X.env.cells.lookup x=some c->∀ v,s.heap.IsCell c v->h'.IsCell c v:=fun x c e v ⟨o,ho,hd⟩=>by
  have nch:c ∉ ch:=fun z=>(hch c z).2.2.1 x c e rfl
  by_cases hc:c∈X.fs
  ·obtain⟨sl,q⟩:=slot c o (I.cne x c e) hc nch ho (I.freeC x c e)
   exact⟨_,q,hd⟩
  ·exact⟨o,keep c o (I.cne x c e) hc nch ho (I.freeC x c e),hd⟩
 refine⟨I.ok,I.os,hg,⟨fun b o e n hb hx=>?_,fun b o e n hb hx=>?_,fun b o e n hx=>?_,fun b o e hx=>?_,fun b xs e=>tups b xs (I.base.tups b xs e),fun b o xs e=>frzs b o xs (I.base.frzs b o xs e),fun b ps e=>?_⟩,?_,fun x c e=>?_,?_,fun x c e=>?_,fun p hp=>?_,hok,I.len⟩
 ·exact keep b o (neL b o e) hb (neC b o e hx) (I.base.keep b o e n hb hx) (I.base.free b o e n hx)
 ·obtain⟨sl,e1⟩:=I.base.slot b o e n hb hx
  obtain⟨sl',e2⟩:=slot b _ (neL b o e) hb (neC b o e hx) e1 (I.base.free b o e n hx);exact⟨sl',e2⟩
 ·obtain⟨o',e1⟩:=I.base.there b o e hx
  exact free b o' (neC b o e hx) e1 (I.base.free b o e n hx)
 ·obtain⟨o',e1⟩:=I.base.there b o e hx
  exact there b o' (neC b o e hx) e1
 ·obtain⟨m1,e1⟩:=I.base.tbls b ps e
  obtain⟨m2,e2⟩:=tbls b _ e1;exact⟨m1++m2,by rw[e2,Array.append_assoc]⟩
 ·obtain⟨m,hn,hl⟩:=I.loc
  refine⟨m,ns m hn,fun i x v e1 e2 e3=>?_⟩;obtain⟨u,r,l⟩:=hl i x v e1 e2 e3;refine⟨u,r,?_⟩;rcases l with l | ⟨k,c,e,z⟩
  ·exact .inl l
  ·exact .inr ⟨k,c,e,cellK x c e _ z⟩
 ·obtain⟨v,z⟩:=I.cell x c e
  exact⟨v,cellK x c e v z⟩
 ·obtain⟨m,⟨o,_,_,ho,_⟩,_⟩:=I.loc
  exact free _ o (fun z=>(hch _ z).2.1 rfl) ho I.free
 ·obtain⟨v,o,ho,hd⟩:=I.cell x c e
  exact free c o (fun z=>(hch c z).2.2.1 x c e rfl) ho (I.freeC x c e)
 ·obtain⟨e,n,ne,nf,d⟩:=I.pin p hp
  have nch:p.1 ∉ ch:=fun z=>(hch p.1 z).2.2.2 p hp rfl;exact⟨keep p.1 p.2 ne nf nch e n,free p.1 p.2 nch e n,ne,nf,d⟩
theorem Inv.un {t':Nat}(I:Inv X pins σ H s) (u:Un X.fs [] H H' s.heap h') (hok:HOk X.prog X.w H' h'):Inv X pins σ H' { s with heap:=h',toks:=t' }:=by
 obtain⟨m,⟨o,es,ep,ho,r⟩,_⟩:=id I.loc;obtain⟨sl,hL⟩:=u.any ho I.free (by simp);exact I.step (g':=s.gens) (d':=s.drawn) (ch:=[]) (fun _ z=>nomatch z) (fun b o _ hb _ e n=>u.keep b o e n hb (by simp)) (fun b o _ hb _ e n=>u.slot b o e n hb (by simp)) (fun b o _ e n=>u.free b o e n (by simp)) (fun b o _ e=>u.there b o e (by simp)) u.tups u.frzs u.tbls (fun m' hm=>by
  obtain⟨o',es',ep',ho',r'⟩:=hm;rw[ho] at ho';cases ho';exact⟨_,es',ep',hL,r'⟩) hok I.bare
theorem Inv.call {g':Array GenState}{t':Nat}{d':Drawn}{ch:List Addr}(I:Inv X pins σ H s) (u:Un (frs X.stack) ch H H' s.heap h') (hok:HOk X.prog X.w H' h') (hg:AllBare g')
  (hch:∀ b∈ch,(b∈X.ex\/X.s₀.heap.objs.size<=b)/\b≠X.env.locals/\(∀ x c,X.env.cells.lookup x=some c->c≠b)/\∀ p∈X.pn++pins,p.1≠b):
  Inv X pins σ H' { s with heap:=h',gens:=g',drawn:=d',toks:=t' }:=by
 obtain⟨m,⟨o,es,ep,ho,r⟩,_⟩:=id I.loc;obtain⟨sl,hL⟩:=u.any ho I.free fun z=>(hch _ z).2.1 rfl;exact I.step (ch:=ch) hch (fun b o hL hb hc e n=>u.keep b o e n (fun z=>(aHm.mp (I.stkSub b z)).elim hL hb) hc) (fun b o _ _ hc e n=>u.any e n hc) (fun b o hc e n=>u.free b o e n hc) (fun b o hc e=>u.there b o e hc) u.tups u.frzs u.tbls (fun m' hm=>by
  obtain⟨o',es',ep',ho',r'⟩:=hm;rw[ho] at ho';cases ho';exact⟨_,es',ep',hL,r'⟩) hok hg
theorem Inv.turned {t':Nat}{it:Addr}(I:Inv X pins σ H s) (k:∀ b o,b≠it->s.heap.get? b=some o->h'.get? b=some o) (hn:H it=none) (hL:it≠X.env.locals)
  (h1:it∈X.ex\/X.s₀.heap.objs.size<=it) (h2:∀ x c,X.env.cells.lookup x=some c->c≠it) (h3:∀ p∈X.pn++pins,p.1≠it):Inv X pins σ H { s with heap:=h',toks:=t' }:=by
 have nit:∀ b u,H b=some u->b≠it:=fun b u e z=>by rw[z,hn] at e;cases e
 refine I.step (g':=s.gens) (d':=s.drawn) (ch:=[it]) (fun b hb=>?_) (fun b o _ _ hc e _=>k b o (fun z=>hc (by simp[z])) e) (fun b o _ _ hc e _=>⟨o.slots,k b o (fun z=>hc (by simp[z])) e⟩) (fun _ _ _ _ n=>n)
  (fun b o hc e=>⟨o,k b o (fun z=>hc (by simp[z])) e⟩) (fun _ _ e=>e) (fun _ _ _ e=>e) (fun b ps e=>⟨#[],by rw[e];simp⟩) (fun m hm=>?_) (fun b u e=>?_) I.bare
 ·have e:b=it:=by simpa using hb
  subst e;exact⟨h1,hL,h2,h3⟩
 ·obtain⟨o,es,ep,ho,r⟩:=hm
  exact⟨o,es,ep,k _ o (Ne.symm hL) ho,r⟩
 ·refine (I.hok b u e).stay (fun c v hc q=>k c v ?_ q) (fun _ q=>q) fun _ _ q=>q
  rcases hc with z | z
  ·rw[z];exact nit b u e
  ·exact nit c _ z
theorem Inv.tok (I:Inv X pins σ H s) (t:Nat):Inv X pins σ H { s with toks:=t }:=I.un (h':=s.heap) (t':=t) Un.refl I.hok
theorem Inv.kept {t':Nat}(I:Inv X pins σ H s) (k:∀ b u,s.heap.get? b=some u->h'.get? b=some u):Inv X pins σ H { s with heap:=h',toks:=t' }:=I.un (Un.kept k) (I.hok.kept k)
theorem Inv.laid {a:Addr}{o:HO}{t':Nat}(I:Inv X pins σ H s) (k:∀ b u,s.heap.get? b=some u->h'.get? b=some u) (hp:s.heap.objs.size<=a) (new:cL X.prog X.w (upd H a o) h' a o):
  Inv X pins σ (upd H a o) { s with heap:=h',toks:=t' }:=I.un (Un.laid k hp (I.hok.fresh hp)) (I.hok.laid k hp new)
theorem Inv.write {x e:Addr}{o:HO}{t':Nat}(I:Inv X pins σ H s) (mu:Mut (H x)) (he:e=x\/H e=some (.own x)) (k:∀ b u,b≠e->s.heap.get? b=some u->h'.get? b=some u) (heo:∃ u,h'.get? e=some u)
  (new:cL X.prog X.w (upd H x o) h' x o):Inv X pins σ (upd H x o) { s with heap:=h',toks:=t' }:=I.un (Un.write mu he k heo) (I.hok.write mu he k heo new)
theorem Inv.pins_of {pins':List (Addr × Obj)}(I:Inv X pins σ H s) (h:∀ p∈pins',s.heap.get? p.1=some p.2/\H p.1=none/\p.1≠X.env.locals/\p.1 ∉ X.fs/\∀ v,p.2.data≠.cell v):Inv X pins' σ H s:=
 ⟨I.ok,I.os,I.bare,I.base,I.loc,I.cell,I.free,I.freeC,fun p hp=>(aJ1.mp hp).elim (fun z=>I.pin p (aJ2 _ z)) (h p),I.hok,I.len⟩
theorem AX {N:List Str}(hN:N.Nodup) {i j:Nat}{x:Str}(a:N[i]?=some x) (b:N[j]?=some x):i=j:=by
 obtain⟨h1,e1⟩:=aHf.mp a;obtain⟨h2,e2⟩:=aHf.mp b;exact (List.getElem_inj hN).mp (e1.trans e2.symm)
theorem KS {M:Model}{A:Around}{E:Value->Shared->Prop}{i:Nat}{x:Str}{v:V}{u:Value}{Q:Unit->Shared->Prop}(I:Inv X pins σ H s) (hN:X.N.Nodup) (hi:X.N[i]?=some x) (hx:Loc X.env.scope x) (r:aX v u)
  (h:∀ s',Inv X pins (σ.set i (some v)) H s'->(∃ a,Heap.SameBut a s.heap s'.heap/\(a=X.env.locals\/X.env.cells.lookup x=some a))->Q () s') (hf:X.fn x=true\/X.env.scope.names.lookup x=some .local:=by first | exact .inl rfl | exact .inr rfl | assumption):wpAny M A (storeName X.env x u) Q E s:=by
 obtain⟨m,hn,hl⟩:=id I.loc;have hcls:(X.env.scope.kind == .class||(X.env.scope.kind == .module&&X.env.locals != X.env.globals))=false:=by rw[I.ok.kind];rfl
 have hiσ:i<σ.length:=by rw[I.len];exact (aHf.mp hi).1
 have cne:=I.cne;have tracked:∀ {a:Addr} {h':Heap},(∃ o,s.heap.get? a=some o/\H a=none)->Heap.SameBut a s.heap h'->HOk X.prog X.w H h':=fun {a h'} ha hs b ob e=>by
  obtain⟨_,_,hfree⟩:=ha;refine (I.hok b ob e).stay (fun c w' hc q=>(hs.2 c ?_).trans q) (fun _ q=>q) fun _ _ q=>q;rintro rfl;rcases hc with rfl | hc
  ·rw[hfree] at e;cases e
  ·rw[hfree] at hc;cases hc
 rcases hx with hk | hk
 ·refine wpAny_storeName_local hk hn (fun h' hn' hs=>?_) hcls
  obtain⟨oL,_,_,hoL,_⟩:=id hn;refine h _ ⟨I.ok,I.os,I.bare,⟨fun b o e n hb hx=>?_,fun b o e n hb hx=>?_,I.base.free,fun b o e hx=>?_,I.base.tups,I.base.frzs,I.base.tbls⟩,⟨_,hn',fun j y v' e1 e2 e3=>?_⟩,fun y c e=>?_,I.free,I.freeC,fun p hp=>?_,tracked ⟨oL,hoL,I.free⟩ hs,by simpa using I.len⟩ ⟨_,hs,.inl rfl⟩
  ·exact (hs.2 b (aJo (aHi (aHv e) I.ok.above))).trans (I.base.keep b o e n hb hx)
  ·obtain⟨sl,e1⟩:=I.base.slot b o e n hb hx
   exact⟨sl,(hs.2 b (aJo (aHi (aHv e) I.ok.above))).trans e1⟩
  ·obtain⟨o',e1⟩:=I.base.there b o e hx
   exact⟨o',(hs.2 b (aJo (aHi (aHv e) I.ok.above))).trans e1⟩
  ·by_cases hj:j=i
   ·subst hj
    rw[hi] at e1;cases e1;rw[aIn hiσ] at e2;cases e2;exact⟨u,r,.inl ⟨hk,by simp⟩⟩
   ·rw[aHk (Ne.symm hj)] at e2
    obtain⟨u',r',q⟩:=hl j y v' e1 e2 e3;refine⟨u',r',?_⟩;rcases q with ⟨k,e⟩ | ⟨k,c,e,z⟩
    ·refine .inl ⟨k,?_⟩
     have:y≠x:=fun e=>hj (AX hN e1 (e ▸ hi));simp[this,e]
    ·exact .inr ⟨k,c,e,z.sameBut hs (cne y c e)⟩
  ·obtain⟨w',z⟩:=I.cell y c e
   exact⟨w',z.sameBut hs (cne y c e)⟩
  ·obtain⟨e,n,ne,nf,d⟩:=I.pin p hp
   exact⟨(hs.2 p.1 ne).trans e,n,ne,nf,d⟩
 ·have hfn:X.fn x=true:=by
   rcases hf with z | z
   ·exact z
   ·rw[z] at hk;cases hk
  obtain⟨c,hc⟩:=I.ok.has x (.inl hk);obtain⟨w',z⟩:=I.cell x c hc;refine wpAny_storeName_cell I.ok.kind hk hc z (fun h' hc' hs=>?_);obtain⟨oc,hoc,hocd⟩:=id z;refine h { s with heap:=h' } ⟨I.ok,I.os,I.bare,⟨fun b o e n hb hx=>?_,fun b o e n hb hx=>?_,I.base.free,fun b o e hx=>?_,I.base.tups,I.base.frzs,I.base.tbls⟩,⟨m,hn.sameBut hs (Ne.symm (cne x c hc)),fun j y v' e1 e2 e3=>?_⟩,fun y c' e=>?_,I.free,I.freeC,fun p hp=>?_,tracked ⟨oc,hoc,I.freeC x c hc⟩ hs,by simpa using I.len⟩ ⟨c,hs,.inr hc⟩
  ·exact (hs.2 b (aJo (aHi (aHv e) (I.ok.cab x c hfn hc)))).trans (I.base.keep b o e n hb hx)
  ·obtain⟨sl,e1⟩:=I.base.slot b o e n hb hx
   exact⟨sl,(hs.2 b (aJo (aHi (aHv e) (I.ok.cab x c hfn hc)))).trans e1⟩
  ·obtain⟨o',e1⟩:=I.base.there b o e hx
   exact⟨o',(hs.2 b (aJo (aHi (aHv e) (I.ok.cab x c hfn hc)))).trans e1⟩
  ·by_cases hj:j=i
   ·subst hj
    rw[hi] at e1;cases e1;rw[aIn hiσ] at e2;cases e2;exact⟨u,r,.inr ⟨.inl hk,c,hc,hc'⟩⟩
   ·rw[aHk (Ne.symm hj)] at e2
    obtain⟨u',r',q⟩:=hl j y v' e1 e2 e3;refine⟨u',r',?_⟩;rcases q with q | ⟨k,c',e,z'⟩
    ·exact .inl q
    ·refine .inr ⟨k,c',e,z'.sameBut hs ?_⟩
     rintro rfl;exact hj (AX hN e1 (I.ok.inj _ _ _ e hc ▸ hi))
  ·by_cases hcc:c'=c
   ·subst hcc;exact⟨_,hc'⟩
   ·obtain⟨w2,z2⟩:=I.cell y c' e
    exact⟨w2,z2.sameBut hs hcc⟩
  ·obtain⟨e,n,ne,nf,d⟩:=I.pin p hp
   refine⟨(hs.2 p.1 ?_).trans e,n,ne,nf,d⟩;intro q;rw[q,hoc] at e;have q':oc=p.2:=aHa e;exact d w' (by rw[<- q'];exact hocd)
theorem vB {M:Model}{A:Around}{E:Value->Shared->Prop}{i:Nat}{x:Str}{v:V}{u:Value}{Q:Unit->Shared->Prop}(I:Inv X pins σ H s) (hN:X.N.Nodup) (hi:X.N[i]?=some x) (hx:Loc X.env.scope x) (r:aX v u)
  (h:∀ s',Inv X pins (σ.set i (some v)) H s'->Q () s') (hf:X.fn x=true\/X.env.scope.names.lookup x=some .local:=by first | exact .inl rfl | exact .inr rfl | assumption):wpAny M A (storeName X.env x u) Q E s:=
 KS I hN hi hx r (fun s' I' _=>h s' I') hf
theorem Inv.call' {s':Shared}{ch:List Addr}(I:Inv X pins σ H s) (ho:s'.os=s.os) (u:Un (frs X.stack) ch H H' s.heap s'.heap) (hok:HOk X.prog X.w H' s'.heap) (hg:AllBare s'.gens)
  (hch:∀ b∈ch,(b∈X.ex\/X.s₀.heap.objs.size<=b)/\b≠X.env.locals/\(∀ x c,X.env.cells.lookup x=some c->c≠b)/\∀ p∈X.pn++pins,p.1≠b):Inv X pins σ H' s':=by
 obtain⟨h',g',d',t',o'⟩:=s';have e:o'=s.os:=ho;subst e;exact I.call (g':=g') (t':=t') (d':=d') u hok hg hch
end
abbrev XK:=Value->Option Addr->Hp->Prop
abbrev St:=List (Option V)
abbrev VK:=V->Hp->Prop
abbrev TE:=St->Hp->VK->Prop
abbrev TT:=St->Hp->(Bool->Hp->Prop)->Prop
abbrev TA:=St->Hp->(List V->Hp->Prop)->Prop
structure Ends where
 nx:St->Hp->Prop
 rt:VK
 bk:St->Hp->Prop:=fun _ _=>False
 ct:St->Hp->Prop:=fun _ _=>False
abbrev TS:=Ends->St->Hp->Prop
def EP (X:Cx) (pins:List (Addr × Obj)) (σ:St) (Q:VK) (u:Value) (s':Shared):Prop:=∃ v H',Inv X pins σ H' s'/\aX v u/\Q v H'
def TP (X:Cx) (pins:List (Addr × Obj)) (σ:St) (Q:Bool->Hp->Prop) (b:Bool) (s':Shared):Prop:=∃ H',Inv X pins σ H' s'/\Q b H'
def AP (X:Cx) (pins:List (Addr × Obj)) (σ:St) (Q:List V->Hp->Prop) (us:List Value) (s':Shared):Prop:=∃ vs H',Inv X pins σ H' s'/\aL vs us/\Q vs H'
def SP (X:Cx) (pins:List (Addr × Obj)) (D:Ends) (f:Flow) (s':Shared):Prop:=
 match f with
 | .next=>∃ σ' H',Inv X pins σ' H' s'/\D.nx σ' H'
 | .brk=>∃ σ' H',Inv X pins σ' H' s'/\D.bk σ' H'
 | .cont=>∃ σ' H',Inv X pins σ' H' s'/\D.ct σ' H'
 | .ret u=>∃ v σ' H',Inv X pins σ' H' s'/\aX v u/\D.rt v H'
def PE (X:Cx) (e:Expr) (t:TE):Prop:=
 ∀ (pins:List (Addr × Obj)) (s:Shared) (σ:St) (H:Hp) (Q:VK),Inv X pins σ H s->t σ H Q->wpAny (model X.prog X.w) X.A (eval e X.env) (EP X pins σ Q) X.xe s
def PT (X:Cx) (e:Expr) (t:TT):Prop:=
 ∀ (pins:List (Addr × Obj)) (s:Shared) (σ:St) (H:Hp) (Q:Bool->Hp->Prop),Inv X pins σ H s->t σ H Q->wpAny (model X.prog X.w) X.A (isTrue e X.env (eval e X.env)) (TP X pins σ Q) X.xe s
def PW (X:Cx) (e:Expr) (t:TT):Prop:=
 ∀ (whole:Sem Value) (pins:List (Addr × Obj)) (s:Shared) (σ:St) (H:Hp) (Q:Bool->Hp->Prop),Inv X pins σ H s->t σ H Q->wpAny (model X.prog X.w) X.A (isTrue e X.env whole) (TP X pins σ Q) X.xe s
theorem PW.pt {X:Cx}{e:Expr}{t:TT}(h:PW X e t):PT X e t:=h _
def PA (X:Cx) (es:List Expr) (t:TA):Prop:=
 ∀ (pos:Pos) (pins:List (Addr × Obj)) (s:Shared) (σ:St) (H:Hp) (Q:List V->Hp->Prop),Inv X pins σ H s->t σ H Q->wpAny (model X.prog X.w) X.A (spliced (backTo pos (starEach es X.env))) (AP X pins σ Q) X.xe s
def PS (X:Cx) (st:Stmt) (t:TS):Prop:=
 ∀ (pins:List (Addr × Obj)) (s:Shared) (σ:St) (H:Hp) (D:Ends),Inv X pins σ H s->t D σ H->wpAny (model X.prog X.w) X.A (exec st X.env) (SP X pins D) X.xe s
def PSs (X:Cx) (st:List Stmt) (t:TS):Prop:=
 ∀ (pins:List (Addr × Obj)) (s:Shared) (σ:St) (H:Hp) (D:Ends),Inv X pins σ H s->t D σ H->wpAny (model X.prog X.w) X.A (execs st X.env) (SP X pins D) X.xe s
theorem thn {α:Type}{t:Sem α}{Q Q':α->Shared->Prop}{M:Model}{A:Around}{E:Value->Shared->Prop}{s:Shared}(h:wpAny M A t Q E s) (hQ:∀ a s,Q a s->Q' a s):wpAny M A t Q' E s:=wpAny_mono h hQ fun _ _ x=>x
section
variable {X:Cx}
def LA (i:Nat):TE:=fun σ H Q=>∃ v,σ[i]?=some (some v)/\Q v H
def tC (v:V):TE:=fun _ H Q=>Q v H
theorem aB7 {i:Nat}{x:Str}{pos:Pos}(hN:X.N[i]?=some x) (hv:Vis X.env.scope x) (hd:(x == ("__debug__" : Str))=false:=by decide) (hcd:(x == ("__classdict__" : Str))=false:=by decide):PE X (.Name x pos) (LA i):=by
 intro pins s σ H Q I h;obtain⟨v,e,h⟩:=h;obtain⟨m,hn,hl⟩:=I.loc;obtain⟨u,r,l⟩:=hl i x v hN e hv;have fin:EP X pins σ Q u s:=⟨v,H,I,r,h⟩;rcases l with ⟨hk,hm⟩ | ⟨hk,c,hc,hcell⟩
 ·exact wpAny_Name (wpAny_loadName_local I.ok.kind hk hn hm fin) hd
 ·rcases hk with hk | hk
  ·exact wpAny_Name (wpAny_loadName_cell I.ok.kind hk hc hcell fin) hd
  ·exact wpAny_Name (wpAny_loadName_free I.ok.kind hk hc hcell fin hcd) hd
theorem aAx {i j pos}:PE X (.Constant (.int i) j pos) (tC (.int i)):=fun _ _ _ H _ I h=>wpAny_Constant_int ⟨.int i,H,I.tok _,⟨_,rfl⟩,h⟩
theorem aAt {b j pos}:PE X (.Constant (.bool b) j pos) (tC (.bl b)):=fun _ _ _ H _ I h=>Constant_bool ⟨.bl b,H,I,rfl,h⟩
theorem aB0 {j pos}:PE X (.Constant .none j pos) (tC .non):=fun _ _ _ H _ I h=>Constant_none ⟨.non,H,I,rfl,h⟩
theorem aB5 {x j pos}:PE X (.Constant (.str x) j pos) (tC (.str x)):=fun _ _ _ H _ I h=>Calls.Constant_str ⟨.str x,H,I.tok _,⟨_,rfl⟩,h⟩
def Gl (X:Cx) (x:Str):Prop:=X.env.kindOf x=some .globalImplicit
theorem rZ {E:Value->Shared->Prop}{pins:List (Addr × Obj)}{s:Shared}{σ:St}{H:Hp}{x:Str}{u:Value}{pos:Pos}{Q:Value->Shared->Prop}(I:Inv X pins σ H s) (hg:Gl X x) (hm:X.mg x=some u) (h:Q u s)
  (hd:(x == ("__debug__" : Str))=false:=by decide):wpAny (model X.prog X.w) X.A (eval (.Name x pos) X.env) Q E s:=
 Calls.Name_function_global I.ok.kind hg (Calls.loadGlobal_global (by rw[I.ok.glob];exact I.mod.glob.keeps I.bk) hm h) hd
theorem jF {E:Value->Shared->Prop}{pins:List (Addr × Obj)}{s:Shared}{σ:St}{H:Hp}{x:Str}{u:Value}{pos:Pos}{Q:Value->Shared->Prop}(I:Inv X pins σ H s) (hg:Gl X x) (hm:X.mg x=none) (hv:bootBuiltins x=some u) (h:Q u s)
  (hn:x ≠ "__name__" := by decide) (hd:(x == ("__debug__" : Str))=false:=by decide):wpAny (model X.prog X.w) X.A (eval (.Name x pos) X.env) Q E s:=by
 obtain⟨mb,h1,h2⟩:=I.mod.blt;exact Calls.Name_function_global I.ok.kind hg (Calls.loadGlobal_builtin (by rw[I.ok.glob];exact I.mod.glob.keeps I.bk) hm (by rw[I.ok.blt];exact h1.keeps I.bk) ((h2 x hn).trans hv) h) hd
theorem IV {x:Str}{v:V}{u:Value}{pos:Pos}(hg:Gl X x) (hm:X.mg x=some u) (r:aX v u) (hd:(x == ("__debug__" : Str))=false:=by decide):PE X (.Name x pos) (tC v):=
 fun _ _ _ H _ I h=>rZ I hg hm ⟨v,H,I,r,h⟩ hd
theorem IS {x:Str}{v:V}{u:Value}{pos:Pos}(hg:Gl X x) (hm:X.mg x=none) (hv:bootBuiltins x=some u) (r:aX v u) (hn:x ≠ "__name__" := by decide) (hd:(x == ("__debug__" : Str))=false:=by decide):PE X (.Name x pos) (tC v):=
 fun _ _ _ H _ I h=>jF I hg hm hv ⟨v,H,I,r,h⟩ hn hd
variable {a b:Expr}{ta tb:TE}{pos:Pos}
def tB (t:TE):TT:=fun σ H Q=>t σ H fun x H1=>∃ c,x=.bl c/\Q c H1
variable {tA tB':TT}{rest:List Expr}
def aDe (t u:TT):TT:=fun σ H Q=>t σ H fun c H1=>if c=true then u σ H1 Q else Q false H1
def aDw (t:TT):TT:=fun σ H Q=>t σ H fun c H1=>Q (!c) H1
theorem aC2 (ha:PT X a tA):PW X (.BoolOp .And [a] pos) tA:=by
 intro wh pins s σ H Q I h;refine isTrue_and (thn (ha pins s σ H Q I h) fun c s1 e=>?_);cases c with
 | true=>exact isTrue_and_nil e
 | false=>exact e
theorem aC1 (ha:PT X a tA) (hb:PW X (.BoolOp .And (b::rest) pos) tB'):PW X (.BoolOp .And (a::b::rest) pos) (aDe tA tB'):=by
 intro wh pins s σ H Q I h;refine isTrue_and (thn (ha pins s σ H _ I h) fun c s1 ⟨H1,I1,q1⟩=>?_);cases c with
 | true=>exact hb wh pins s1 σ H1 Q I1 q1
 | false=>exact⟨H1,I1,q1⟩
theorem aBz (ha:PT X a tA):PT X (.UnaryOp .Not a pos) (aDw tA):=by
 intro pins s σ H Q I h;exact isTrue_not (ha pins s σ H (fun c H1=>Q (!c) H1) I h)
def aDf (ta tb:TE):TE:=fun σ H Q=>ta σ H fun x H1=>∃ c,x=.bl c/\if c=true then tb σ H1 Q else Q (.bl false) H1
def aDy (ta tb:TE):TE:=fun σ H Q=>ta σ H fun x H1=>∃ c,x=.bl c/\if c=true then Q (.bl true) H1 else tb σ H1 Q
def aDx (ta:TE):TE:=fun σ H Q=>ta σ H fun x H1=>∃ c,x=.bl c/\Q (.bl (!c)) H1
theorem aB2 {op}{t:TE}(h:PE X a t):PE X (.BoolOp op [a] pos) t:=fun pins s σ H Q I hw=>BoolOp_one (h pins s σ H Q I hw)
theorem aAs (ha:PE X a ta) (hb:PE X (.BoolOp .And (b::rest) pos) tb):PE X (.BoolOp .And (a::b::rest) pos) (aDf ta tb):=by
 intro pins s σ H Q I h;refine BoolOp_and (thn (ha pins s σ H _ I h) fun v s1 ⟨x,H1,I1,r1,q1⟩=>?_);obtain⟨c,rfl,q1⟩:=q1;cases r1;refine wpAny_truthy_bool ?_;cases c with
 | true=>exact hb pins s1 σ H1 Q I1 q1
 | false=>exact⟨.bl false,H1,I1,rfl,q1⟩
theorem aB3 (ha:PE X a ta) (hb:PE X (.BoolOp .Or (b::rest) pos) tb):PE X (.BoolOp .Or (a::b::rest) pos) (aDy ta tb):=by
 intro pins s σ H Q I h;refine BoolOp_or (thn (ha pins s σ H _ I h) fun v s1 ⟨x,H1,I1,r1,q1⟩=>?_);obtain⟨c,rfl,q1⟩:=q1;cases r1;refine wpAny_truthy_bool ?_;cases c with
 | false=>exact hb pins s1 σ H1 Q I1 q1
 | true=>exact⟨.bl true,H1,I1,rfl,q1⟩
theorem aB1 (ha:PE X a ta):PE X (.UnaryOp .Not a pos) (aDx ta):=by
 intro pins s σ H Q I h;refine UnaryOp_ (thn (ha pins s σ H _ I h) fun v s1 ⟨x,H1,I1,r1,q1⟩=>?_);obtain⟨c,rfl,q1⟩:=q1;cases r1;exact not_of (wpAny_truthy_bool ⟨.bl (!c),H1,I1,rfl,q1⟩)
def tIf (t:TT) (ta tb:TE):TE:=fun σ H Q=>t σ H fun c H1=>if c=true then ta σ H1 Q else tb σ H1 Q
theorem aAw {c:Expr}(hc:PT X c tA) (ha:PE X a ta) (hb:PE X b tb):PE X (.IfExp c a b pos) (tIf tA ta tb):=by
 intro pins s σ H Q I h;refine wpAny_IfExp (thn (hc pins s σ H _ I h) fun d s1 ⟨H1,I1,q1⟩=>?_);cases d with
 | true=>exact ha pins s1 σ H1 Q I1 q1
 | false=>exact hb pins s1 σ H1 Q I1 q1
end
def SqL (K:PySem.W.Frag) (H:Hp) (a:Addr) (xs:List V):Prop:=
 Rd H a (.lst xs) \/
  ∃ (o:Obj) (its:Array Value) (n:Nat),K.lookup a=some o/\o.cls=.type "list" /\ o.dict=none/\o.data=.seq its n/\its.size<=sizeLine/\aL xs its.toList
def SqT (K:PySem.W.Frag) (H:Hp) (a:Addr) (xs:List V):Prop:=
 Rd H a (.tup xs) \/
  ∃ (o:Obj) (its:Array Value) (n:Nat),K.lookup a=some o/\o.cls=.type "tuple" /\ o.data=.seq its n/\its.size<=sizeLine/\aL xs its.toList
def OT:Value->Option V
 | .none=>some .non
 | .bool b=>some (.bl b)
 | .int i _=>some (.int i)
 | .str x _=>some (.str x)
 | .bytes b _=>some (.byt b)
 | .float b _=>some (.flt b)
 | .ref a=>some (.ref a)
 | .type n=>some (.ty n)
 | _=>none
theorem aX.abs {x:V}{u:Value}(r:aX x u):OT u=some x:=by
 cases x with
 | non=>cases r;rfl
 | bl _=>cases r;rfl
 | int _=>obtain⟨t,rfl⟩:=r;rfl
 | str _=>obtain⟨t,rfl⟩:=r;rfl
 | byt _=>obtain⟨t,rfl⟩:=r;rfl
 | flt _=>obtain⟨t,rfl⟩:=r;rfl
 | ref _=>cases r;rfl
 | ty _=>cases r;rfl
theorem aX.inj {x y:V}{u:Value}(r:aX x u) (q:aX y u):x=y:=aHa (r.abs.symm.trans q.abs)
theorem aL.inj:∀ {xs ys:List V}{us:List Value},aL xs us->aL ys us->xs=ys
 | _,_,_,.nil,.nil=>rfl
 | _,_,_,.cons r t,.cons r' t'=>by rw[r.inj r',aL.inj t t']
section
variable {X:Cx}{pins:List (Addr × Obj)}{σ:St}{H:Hp}{s:Shared}{a:Addr}{xs ys:List V}
theorem SqL.of {K:PySem.W.Frag}(h:H a=some (.lst xs)):SqL K H a xs:=.inl (.inl h)
theorem Inv.list (I:Inv X pins σ H s) (h:SqL X.K H a xs):∃ its:List Value,aL xs its/\PlainL s.heap a its.toArray/\xs.length<=sizeLine:=by
 rcases h with h | ⟨o,its,n,hk,hc,hd,hs,hz,r⟩
 ·obtain⟨z,its,n,r,e⟩:=h.ok I.hok
  exact⟨its,r,⟨_,n,e,rfl,rfl,rfl⟩,z⟩
 ·refine⟨its.toList,r,⟨o,n,I.kIn a o hk,hc,hd,by simpa using hs⟩,?_⟩
  have e:=r.length;simp only[Array.length_toList] at e;lia
theorem Inv.tuple (I:Inv X pins σ H s) (h:SqT X.K H a xs):∃ its:List Value,aL xs its/\IsTup s.heap a its.toArray/\xs.length<=sizeLine:=by
 rcases h with h | ⟨o,its,n,hk,hc,hs,hz,r⟩
 ·obtain⟨z,its,r,p⟩:=h.ok I.hok
  exact⟨its,r,p,z⟩
 ·refine⟨its.toList,r,⟨o,I.kIn a o hk,hc,n,by simpa using hs⟩,?_⟩
  have e:=r.length;simp only[Array.length_toList] at e;lia
theorem Inv.list_inj (I:Inv X pins σ H s) (h:SqL X.K H a xs) (h':SqL X.K H a ys):xs=ys:=by
 obtain⟨its,r,⟨o,n,e,_,_,d⟩,_⟩:=I.list h;obtain⟨its',r',⟨o',n',e',_,_,d'⟩,_⟩:=I.list h';rw[e] at e';cases e';rw[d] at d'
 injection d' with d1 _
 have:its=its':=by simpa using congrArg Array.toList d1
 subst this;exact r.inj r'
theorem Inv.tuple_inj (I:Inv X pins σ H s) (h:SqT X.K H a xs) (h':SqT X.K H a ys):xs=ys:=by
 obtain⟨its,r,⟨o,e,_,n,d⟩,_⟩:=I.tuple h;obtain⟨its',r',⟨o',e',_,n',d'⟩,_⟩:=I.tuple h';rw[e] at e';cases e';rw[d] at d'
 injection d' with d1 _
 have:its=its':=by simpa using congrArg Array.toList d1
 subst this;exact r.inj r'
end
abbrev Cx.wish (X:Cx) (E:Value->Shared->Prop):Cx:={ X with xe:=E }
abbrev Cx.nox (X:Cx):Cx:=X.wish fun _ _=>False
theorem Cx.Ok.wish {X:Cx}(ok:X.Ok) (E:Value->Shared->Prop):(X.wish E).Ok:=
 ⟨ok.mod,ok.kind,ok.glob,ok.blt,ok.above,ok.inj,ok.has,ok.cab,ok.hd,ok.frames,ok.stk,ok.exf,ok.bs,ok.bsz,ok.noex,ok.exfs,ok.funs,ok.frf⟩
theorem Cx.Ok.unwish {X:Cx}{E:Value->Shared->Prop}(ok:(X.wish E).Ok):X.Ok:=
 ⟨ok.mod,ok.kind,ok.glob,ok.blt,ok.above,ok.inj,ok.has,ok.cab,ok.hd,ok.frames,ok.stk,ok.exf,ok.bs,ok.bsz,ok.noex,ok.exfs,ok.funs,ok.frf⟩
section
variable {X:Cx}{pins:List (Addr × Obj)}{σ:St}{H:Hp}{s:Shared}{E:Value->Shared->Prop}
theorem Inv.wish (I:Inv X pins σ H s) (E:Value->Shared->Prop):Inv (X.wish E) pins σ H s:=⟨I.ok.wish E,I.os,I.bare,I.base,I.loc,I.cell,I.free,I.freeC,I.pin,I.hok,I.len⟩
theorem Inv.unwish (I:Inv (X.wish E) pins σ H s):Inv X pins σ H s:=⟨I.ok.unwish,I.os,I.bare,I.base,I.loc,I.cell,I.free,I.freeC,I.pin,I.hok,I.len⟩
theorem SP.unwish {D:Ends}{f:Flow}{s':Shared}(h:SP (X.wish E) pins D f s'):SP X pins D f s':=by
 cases f with
 | next=>obtain⟨σ',H',I,q⟩:=h;exact⟨σ',H',I.unwish,q⟩
 | brk=>obtain⟨σ',H',I,q⟩:=h;exact⟨σ',H',I.unwish,q⟩
 | cont=>obtain⟨σ',H',I,q⟩:=h;exact⟨σ',H',I.unwish,q⟩
 | ret u=>obtain⟨v,σ',H',I,r,q⟩:=h;exact⟨v,σ',H',I.unwish,r,q⟩
theorem PSs.nox {st:List Stmt}{t:TS}(h:PSs X.nox st t):PSs X st t:=fun pins s σ H D I hw=>
 wpAny_mono (h pins s σ H D (I.wish _) hw) (fun _ _ q=>q.unwish) fun _ _ z=>False.elim z
end
section
variable {X:Cx}{st:Stmt}{rest:List Stmt}{t u:TS}{e:Expr}{te:TE}{pos:Pos}
def aDt:TS:=fun D σ H=>D.nx σ H
def aE3 (t u:TS):TS:=fun D σ H=>t { D with nx:=u D } σ H
theorem aBr:PSs X [] aDt:=fun _ _ σ H _ I h=>wpAny_execs_nil ⟨σ,H,I,h⟩
theorem aBq (h1:PS X st t) (h2:PSs X rest u):PSs X (st::rest) (aE3 t u):=by
 intro pins s σ H D I h;refine wpAny_execs_cons (thn (h1 pins s σ H { D with nx:=u D } I h) fun f s1 q=>?_);cases f with
 | next=>
  obtain⟨σ',H',I',q⟩:=q;exact h2 pins s1 σ' H' D I' q
 | ret v=>exact q
 | brk=>exact q
 | cont=>exact q
theorem aBs (h1:PS X st t):PSs X [st] t:=by
 intro pins s σ H D I h;refine wpAny_execs_cons (thn (h1 pins s σ H D I h) fun f s1 q=>?_);cases f with
 | next=>exact wpAny_execs_nil q
 | ret v=>exact q
 | brk=>exact q
 | cont=>exact q
theorem Inv.quiet {pins:List (Addr × Obj)}{σ:St}{H:Hp}{s:Shared}(I:Inv X pins σ H s):interactive X.env=false:=by simp[interactive,I.ok.kind]
def aDk (te:TE):TS:=fun D σ H=>te σ H fun _ H1=>D.nx σ H1
theorem JD (he:PE X e te) (hs:swapsWith e none pos.line X.env=pure false:=by rfl):PS X (.Expr e pos) (aDk te):=by
 intro pins s σ H D I h;exact wpAny_Expr_any (thn (he pins s σ H _ I h) fun v s1 ⟨x,H1,I1,r1,q1⟩=>⟨σ,H1,I1,q1⟩) I.quiet hs
def aE1 (te:TE):TS:=fun D σ H=>te σ H D.rt
theorem aBn (he:PE X e te):PS X (.Return (some e) pos) (aE1 te):=by
 intro pins s σ H D I h;exact wpAny_Return_some (thn (he pins s σ H _ I h) fun v s1 ⟨x,H1,I1,r1,q1⟩=>⟨x,σ,H1,I1,r1,q1⟩)
def aDq (c:TT) (t u:TS):TS:=fun D σ H=>c σ H fun b H1=>if b=true then t D σ H1 else u D σ H1
theorem aBm {c:Expr}{a b:List Stmt}{tc:TT}(hc:PT X c tc) (ha:PSs X a t) (hb:PSs X b u):PS X (.If c a b pos) (aDq tc t u):=by
 intro pins s σ H D I h;refine wpAny_If (thn (hc pins s σ H _ I h) fun d s1 ⟨H1,I1,q1⟩=>?_);cases d with
 | true=>exact ha pins s1 σ H1 D I1 q1
 | false=>exact hb pins s1 σ H1 D I1 q1
end
abbrev TG:=V->St->Hp->(St->Hp->Prop)->Prop
abbrev TGs:=List V->St->Hp->(St->Hp->Prop)->Prop
def PG (X:Cx) (target:Expr) (t:TG):Prop:=
 ∀ (pins:List (Addr × Obj)) (s:Shared) (σ:St) (H:Hp) (v:V) (u:Value) (Q:St->Hp->Prop),Inv X pins σ H s->aX v u->t v σ H Q ->
  wpAny (model X.prog X.w) X.A (assign target X.env u) (fun _ s'=>∃ σ' H',Inv X pins σ' H' s'/\Q σ' H') X.xe s
def PGs (X:Cx) (ts:List Expr) (t:TGs):Prop:=
 ∀ (pins:List (Addr × Obj)) (s:Shared) (σ:St) (H:Hp) (vs:List V) (us:List Value) (Q:St->Hp->Prop),Inv X pins σ H s->aL vs us->t vs σ H Q ->
  wpAny (model X.prog X.w) X.A (assignInOrder ((assignEach ts X.env).map (·.2)) us) (fun _ s'=>∃ σ' H',Inv X pins σ' H' s'/\Q σ' H') X.xe s
abbrev yU:=V->V->V->Hp->(Hp->Prop)->Prop
def DJ (X:Cx) (t:yU):Prop:=
 ∀ (pins:List (Addr × Obj)) (s:Shared) (σ:St) (H:Hp) (o i v:V) (ov iv u:Value) (Q:Hp->Prop),Inv X pins σ H s->aX o ov->aX i iv->aX v u->t o i v H Q ->
  wpAny (model X.prog X.w) X.A (setItem ov iv u) (fun _ s'=>∃ H',Inv X pins σ H' s'/\Q H') X.xe s
section
variable {X:Cx}{pos:Pos}
def jP (i:Nat):TG:=fun v σ H Q=>Q (σ.set i (some v)) H
theorem xD {i:Nat}{x:Str}(hN:X.N.Nodup) (hi:X.N[i]?=some x) (hx:Loc X.env.scope x) (hf:X.fn x=true\/X.env.scope.names.lookup x=some .local:=by first | exact .inl rfl | exact .inr rfl | assumption):PG X (.Name x pos) (jP i):=by
 intro pins s σ H v u Q I r h;exact wpAny_assign_Name (vB I hN hi hx r (fun s' I'=>⟨_,H,I',h⟩) hf)
def TC:TGs:=fun vs σ H Q=>vs=[]/\Q σ H
def SZ (t:TG) (u:TGs):TGs:=fun vs σ H Q=>∃ v r,vs=v::r/\t v σ H fun σ' H'=>u r σ' H' Q
theorem aBa:PGs X [] TC:=by
 intro pins s σ H vs us Q I r h;obtain⟨e,h⟩:=h;subst e;cases r;exact assignInOrder_nil ⟨σ,H,I,h⟩
theorem aB9 {e:Expr}{es:List Expr}{t:TG}{u:TGs}(h1:PG X e t) (h2:PGs X es u)
  (hs:(assignEach (e::es) X.env).map (·.2)=assign e X.env::(assignEach es X.env).map (·.2):=by rfl):PGs X (e::es) (SZ t u):=by
 intro pins s σ H vs us Q I r h;obtain⟨v,vr,e1,h⟩:=h;subst e1;cases r with
 | cons r rr=>
  rw[hs];refine assignInOrder_cons (thn (h1 pins s σ H _ _ _ I r h) fun _ s1 ⟨σ1,H1,I1,q1⟩=>?_);exact h2 pins s1 σ1 H1 _ _ Q I1 rr q1
def mO (K:PySem.W.Frag) (n:Nat) (t:TGs):TG:=fun v σ H Q=>∃ a xs,v=.ref a/\SqT K H a xs/\xs.length=n/\t xs σ H Q
theorem JA {es:List Expr}{k:Nat}{t:TGs}{n:Nat}(hc:X.calm=true) (h:PGs X es t)
  (hn:(assignEach es X.env).length=n:=by rfl) (hst:(assignEach es X.env).findIdx? (·.1)=none:=by rfl):PG X (.Tuple es k pos) (mO X.K n t):=by
 intro pins s σ H v u Q I r hw;obtain⟨a,xs,e1,hq,hl,hw⟩:=hw;subst e1;cases r;obtain⟨its,rv,ht,hz⟩:=I.tuple hq;refine assign_Tuple_tuple (I.ok.hd hc) ht (by simp[hn,<- hl,rv.length]) hst fun h' hx=>?_;have I1:Inv X pins σ H { s with heap:=h' }:=I.kept (t':=s.toks) fun b o e=>hx b o (aJo (aHv e)) e;exact h pins _ σ H xs _ Q I1 (by simpa using rv) hw
def TD (to ti:TE) (t:yU):TG:=fun v σ H Q=>to σ H fun o H1=>ti σ H1 fun i H2=>t o i v H2 fun H3=>Q σ H3
theorem aB8 {o i:Expr}{to ti:TE}{t:yU}(ho:PE X o to) (hi:PE X i ti) (hs:DJ X t)
  (ha:∀ v,assign (.Subscript o i pos) X.env v=(do
   let ov <- holding [v] (eval o X.env)
   let iv <- holding [v,ov] (eval i X.env)
   standAt pos
   holding [v,ov,iv] (setItem ov iv v)
   release [v,ov,iv] []):=by intro _;rfl):PG X (.Subscript o i pos) (TD to ti t):=by
 intro pins s σ H v u Q I r h;rw[ha];refine wpAny_bind (wpAny_holding (thn (ho pins s σ H _ I h) fun ov s1 ⟨x,H1,I1,r1,q1⟩=>?_));refine wpAny_bind (wpAny_holding (thn (hi pins s1 σ H1 _ I1 q1) fun iv s2 ⟨y,H2,I2,r2,q2⟩=>?_));refine wpAny_bind (wpAny_standAt (wpAny_bind (wpAny_holding (thn (hs pins s2 σ H2 x y v ov iv u _ I2 r1 r2 r q2) fun _ s3 ⟨H3,I3,q3⟩=>?_))));exact wpAny_release ⟨σ,H3,I3,q3⟩
def yK (te:TE) (g:TG):TS:=fun D σ H=>te σ H fun x H1=>g x σ H1 D.nx
theorem aBl {tg e:Expr}{te:TE}{g:TG}(he:PE X e te) (hg:PG X tg g) (hs:swapsWithSole [tg] e pos.line X.env=pure false:=by rfl) (hw:swappedStores [tg] e X.env=pure none:=by rfl)
  (h1:(assignEach [tg] X.env).map (·.2)=[assign tg X.env]:=by rfl):PS X (.Assign [tg] e pos) (yK te g):=by
 intro pins s σ H D I h;refine wpAny_Assign_stores (thn (he pins s σ H _ I h) fun v s1 ⟨x,H1,I1,r1,q1⟩=>?_) hs hw;rw[h1];exact thn (hg pins s1 σ H1 x v _ I1 r1 q1) fun _ s2 q=>q
theorem JF {i:Nat}{x:Str}{e:Expr}{te:TE}{pos':Pos}(hN:X.N.Nodup) (hi:X.N[i]?=some x) (hx:Loc X.env.scope x) (he:PE X e te) (hs:swapsWith e (some (.Name x pos')) pos.line X.env=pure false:=by rfl) (hf:X.fn x=true\/X.env.scope.names.lookup x=some .local:=by first | exact .inl rfl | exact .inr rfl | assumption):
  PS X (.Assign [.Name x pos'] e pos) (yK te (jP i)):=by
 intro pins s σ H D I h;refine wpAny_Assign_Name (thn (he pins s σ H _ I h) fun v s1 ⟨y,H1,I1,r1,q1⟩=>?_) hs;exact vB I1 hN hi hx r1 (fun s2 I2=>⟨_,H1,I2,q1⟩) hf
end
section
variable {X:Cx}{pos:Pos}
def aE8 (c:TT) (tb:TS):TS:=fun D σ H=>∃ W:Nat->St->Hp->Prop,(∃ m,W m σ H)/\∀ m σ H,W m σ H ->
 c σ H fun b H1=>if b=true then ∃ N:St->Hp->Prop,(∀ σ' H',N σ' H'->∃ m',m'<m/\W m' σ' H')/\tb { D with nx:=N,ct:=N,bk:=D.nx } σ H1 else D.nx σ H1
theorem aBp {c:Expr}{body:List Stmt}{tc:TT}{tb:TS}(hp:PassesOwn (model X.prog X.w) X.A X.env X.xe) (hc:PT X c tc) (hb:PSs X body tb):PS X (.While c body [] pos) (aE8 tc tb):=by
 intro pins s σ H D I h;obtain⟨W,⟨m0,w0⟩,turn⟩:=h;refine wpAny_While (codeAny_whileLoop (fun n s'=>∃ σ' H',Inv X pins σ' H' s'/\W n σ' H') ?_ m0 ⟨σ,H,I,w0⟩);rintro n s1 ⟨σ1,H1,I1,w1⟩;refine wpAny_passesOwn hp (thn (hc pins s1 σ1 H1 _ I1 (turn n σ1 H1 w1)) fun b s2 ⟨H2,I2,q2⟩=>?_);cases b with
 | true=>
  obtain⟨N,hN,q2⟩:=q2;rw[if_pos rfl];refine wpAny_passesOwn hp (thn (hb pins s2 σ1 H2 _ I2 q2) fun f s3 q3=>?_);cases f with
  | next=>
   obtain⟨σ3,H3,I3,n3⟩:=q3;obtain⟨m',hm,w3⟩:=hN σ3 H3 n3;exact⟨m',hm,σ3,H3,I3,w3⟩
  | cont=>
   obtain⟨σ3,H3,I3,n3⟩:=q3;obtain⟨m',hm,w3⟩:=hN σ3 H3 n3;exact⟨m',hm,σ3,H3,I3,w3⟩
  | brk=>exact q3
  | ret v=>exact q3
 | false=>
  rw[if_neg aHr];exact wpAny_execs_nil ⟨σ1,H2,I2,q2⟩
end
structure It where
 go:Nat->Hp->Prop
 yld:Nat->Hp->V->Hp->Prop
 stop:Nat->Hp->Prop
def eS (X:Cx) (pins:List (Addr × Obj)) (H:Hp) (b:Addr):Prop:=
 H b=none/\b≠X.env.locals/\b ∉ X.fs/\(b∈X.ex\/X.s₀.heap.objs.size<=b)/\(∀ x c,X.env.cells.lookup x=some c->c≠b)/\∀ p∈X.pn++pins,p.1≠b
theorem Inv.fpOk {X:Cx}{pins:List (Addr × Obj)}{σ:St}{H H':Hp}{s:Shared}{b:Addr}(I:Inv X pins σ H s) (hb:s.heap.objs.size<=b) (hn:H' b=none):eS X pins H' b:=by
 refine⟨hn,aJn (aHi I.lt hb),I.nofs hb,.inr (aJg I.sz hb),fun x c e z=>?_,fun p hp z=>?_⟩
 ·obtain⟨v,q⟩:=I.cell x c e
  exact absurd (aHi q.lt (by rw[z];exact hb)) (aJh _)
 ·exact absurd (aHi (aHv (I.pin p hp).1) (by rw[z];exact hb)) (aJh _)
structure Turn (P:Program) (w:World) (K:PySem.W.Frag) (tg:Expr) (J:It) (fp:List Addr) (it:Addr) (tn:Nat->Heap->Prop):Prop where
 mem:it∈fp
 obj:∀ i h,tn i h->∀ b∈fp,∃ o,h.get? b=some o/\∀ v,o.data≠.cell v
 keep:∀ i h h',tn i h->(∀ b∈fp,∀ o,h.get? b=some o->h'.get? b=some o)->tn i h'
 item:∀ (X:Cx),X.prog=P->X.w=w->X.K=K->X.calm=true->∀ (i:Nat) (pins:List (Addr × Obj)) (s:Shared) (σ:St) (H:Hp) (E:Value->Shared->Prop),Inv X pins σ H s->(∀ b∈fp,eS X pins H b)->tn i s.heap->J.go i H ->
  wpAny (model P w) X.A (pyNext (.ref it)) (fun r s1=>∃ u,r=some u /\
   wpAny (model P w) X.A (letOwnedTupleGo tg (.ref it) u) (fun _ s2=>∃ x H',Inv X pins σ H' s2/\aX x u/\J.yld i H x H'/\tn (i+1) s2.heap/\∀ b∈fp,H' b=none) E s1) E s
 done:∀ (X:Cx),X.prog=P->X.w=w->X.K=K->X.calm=true->∀ (i:Nat) (pins:List (Addr × Obj)) (s:Shared) (σ:St) (H:Hp) (E:Value->Shared->Prop),Inv X pins σ H s->(∀ b∈fp,eS X pins H b)->tn i s.heap->J.stop i H ->
  wpAny (model P w) X.A (pyNext (.ref it)) (fun r s1=>r=none/\Inv X pins σ H s1) E s
 self:∀ (A:Around) (i:Nat) (s:Shared) (Q:Value->Shared->Prop) (E:Value->Shared->Prop),tn i s.heap->Q (.ref it) s->wpAny (model P w) A (pyIter (.ref it)) Q E s
abbrev TI:=St->Hp->(It->Hp->Prop)->Prop
def PIE (X:Cx) (pins:List (Addr × Obj)) (σ:St) (tg:Expr) (R:It->Hp->Prop) (itv:Value) (s2:Shared):Prop:=
 ∃ (it:Addr) (fp:List Addr) (tn:Nat->Heap->Prop) (J:It) (H':Hp),itv=.ref it/\Inv X pins σ H' s2/\Turn X.prog X.w X.K tg J fp it tn/\tn 0 s2.heap/\(∀ b∈fp,eS X pins H' b)/\R J H'
def PI (X:Cx) (tg iter:Expr) (wi:TI):Prop:=
 ∀ (pins:List (Addr × Obj)) (s:Shared) (σ:St) (H:Hp) (R:It->Hp->Prop),Inv X pins σ H s->wi σ H R ->
  wpAny (model X.prog X.w) X.A (eval iter X.env) (fun v s1=>wpAny (model X.prog X.w) X.A (pyIter v) (PIE X pins σ tg R) X.xe s1) X.xe s
theorem GD {M:Model}{A:Around}{E:Value->Shared->Prop}{s:Shared}{tg:Expr}{it:Addr}{u:Value}{o:Obj}{n:String}{vs:Array Value}{Q:Unit->Shared->Prop}(ho:s.heap.get? it=some o) (hc:o.cls=.type n) (hd:o.data=.fields vs)
    (hn:["enumerate","zip","dict_itemiterator","dict_reverseitemiterator","odict_iterator","itertools.zip_longest","itertools.pairwise"].contains n=false) (hQ:Q () s):wpAny M A (letOwnedTupleGo tg (.ref it) u) Q E s:=by
  unfold letOwnedTupleGo;cases tg<;>first
    | exact wpAny_pure hQ
    | (cases u<;>first
        | exact wpAny_pure hQ
        | (refine wpAny_bind (wpAny_load ho ?_)
           rw[hc,hd];show wpAny M A (if (["enumerate","zip","dict_itemiterator","dict_reverseitemiterator","odict_iterator","itertools.zip_longest","itertools.pairwise"].contains n&&vs[0]? == some (rawInt _))=true then _ else _) Q E s;rw[if_neg (by intro h;rw[hn,Bool.false_and] at h;cases h)];exact wpAny_pure hQ))
def Itl (K:PySem.W.Frag) (a:Addr):It:=
 ⟨fun i H=>∃ xs x,SqL K H a xs/\xs[i]?=some x,fun i H x H'=>H'=H/\∀ xs,SqL K H a xs->xs[i]?=some x,fun i H=>∃ xs,SqL K H a xs/\xs.length<=i⟩
def Itr (lo:Int) (n:Nat):It:=⟨fun i _=>i<n,fun i H x H'=>H'=H/\x=.int (lo+i),fun i _=>n<=i⟩
theorem aEk {P:Program}{w:World}{K:PySem.W.Frag}{tg:Expr}(a it:Addr):Turn P w K tg (Itl K a) [it] it (fun i h=>h.IsListIter it a i) where
 mem:=by simp
 obj:=fun i h st b hb=>by
  have e:b=it:=by simpa using hb
  subst e;obtain⟨o,e,c,d⟩:=st;exact⟨o,e,fun v z=>by rw[d] at z;cases z⟩
 keep:=fun i h h' st k=>st.at fun o e=>k it (by simp) o e
 item:=by
  intro X hP hw hK hc i pins s σ H E I hf st hg;subst hP hw hK;obtain⟨xs,x,hq,hx⟩:=hg;obtain⟨its,rv,p,hz⟩:=I.list hq;obtain⟨u,hu,ru⟩:=rv.get hx;obtain⟨f0,f1,f2,f3,f4,f5⟩:=hf it (by simp);refine wpAny_pyNext_list_item st p.isList (x:=u) (by simpa using hu) fun h' st' sb=>?_;have I1:Inv X pins σ H { s with heap:=h' }:=I.turned (t':=s.toks) (fun b o hb e=>(sb.2 b hb).trans e) f0 f1 f3 f4 f5;obtain⟨o,e,c,d⟩:=id st';exact⟨u,rfl,GD (s:={ s with heap:=h' }) e c d (by decide) ⟨x,H,I1,ru,⟨rfl,fun ys hy=>by rw[I.list_inj hy hq];exact hx⟩,st',fun b hb=>(hf b hb).1⟩⟩
 done:=by
  intro X hP hw hK hc i pins s σ H E I hf st hg;subst hP hw hK;obtain⟨xs,hq,hx⟩:=hg;obtain⟨its,rv,p,hz⟩:=I.list hq;obtain⟨f0,f1,f2,f3,f4,f5⟩:=hf it (by simp);have hl:=rv.length;exact wpAny_pyNext_list_end (I.ok.hd hc) st p.isList (by simp;lia) fun h' eb=>⟨rfl,I.turned (t':=s.toks) (fun b o hb e=>eb b o hb e) f0 f1 f3 f4 f5⟩
 self:=fun _ _ _ _ _ st h=>wpAny_pyIter_listiter st h
theorem aEl {P:Program}{w:World}{K:PySem.W.Frag}{tg:Expr}(it:Addr) (lo:Int) (n:Nat):Turn P w K tg (Itr lo n) [it] it (fun i h=>IsRangeIter h it (lo+(i:Nat)*1) ((n:Int)-(i:Nat)) 1) where
 mem:=by simp
 obj:=fun i h st b hb=>by
  have e:b=it:=by simpa using hb
  subst e;exact⟨_,st,fun v z=>by
   have z':Data.fields _=Data.cell v:=z;cases z'⟩
 keep:=fun i h h' st k=>k it (by simp) _ st
 item:=by
  intro X hP hw hK hc i pins s σ H E I hf st hg;subst hP hw hK;obtain⟨f0,f1,f2,f3,f4,f5⟩:=hf it (by simp);have W:=Walks.range (prog:=X.prog) (w:=X.w) (I.ok.hd hc) it lo 1 n;refine W.item i s _ _ hg st fun v h' tk hv st' kk=>?_;obtain⟨t,rfl⟩:=hv;have I1:Inv X pins σ H { s with heap:=h',toks:=tk }:=I.turned (fun b o hb e=>kk b o (by simpa using hb) e) f0 f1 f3 f4 f5;refine⟨_,rfl,GD (s:={ s with heap:=h',toks:=tk }) (n := "range_iterator") st' rfl rfl (by decide) ⟨.int (lo+i),H,I1,⟨t,?_⟩,⟨rfl,rfl⟩,st',fun b hb=>(hf b hb).1⟩⟩;rw[Int.mul_one]
 done:=by
  intro X hP hw hK hc i pins s σ H E I hf st hg;subst hP hw hK;obtain⟨f0,f1,f2,f3,f4,f5⟩:=hf it (by simp);exact wpAny_pyNext_range_end (I.ok.hd hc) st (by have:n<=i:=hg;lia) fun h' eb=>⟨rfl,I.turned (t':=s.toks) (fun b o hb e=>eb b o hb e) f0 f1 f3 f4 f5⟩
 self:=fun _ _ _ _ _ st h=>wpAny_pyIter_rangeiter st h
section
variable {X:Cx}{tg:Expr}
theorem JN {pins:List (Addr × Obj)}{σ:St}{H:Hp}{s:Shared}{R:It->Hp->Prop}{E:Value->Shared->Prop}{lo hi:Int}{t u v:Tok}{tk:Nat}(I:Inv X pins σ H s) (h1 : -(2^62)<=lo) (h2:lo<2^62) (h3 : -(2^62)<=hi) (h4:hi<2^62)
  (q:R (Itr lo (hi-lo).toNat) H):wpAny (model X.prog X.w) X.A (pyIter (.ref s.heap.objs.size)) (PIE X pins σ tg R) E { s with heap:=s.heap.push { cls:=.type "range",data:=.fields #[.int lo t,.int hi u,.int 1 v] },toks:=tk }:=by
 refine wpAny_pyIter_range (IsRange.new ..) (small_one h1 h2 h3 h4) ?_;have I1:Inv X pins σ H { s with heap:=s.heap.push { cls:=.type "range",data:=.fields #[.int lo t,.int hi u,.int 1 v] },toks:=tk }:=I.kept fun b o e=>aHl _ e;refine⟨(s.heap.push { cls:=.type "range",data:=.fields #[.int lo t,.int hi u,.int 1 v] }).objs.size,[(s.heap.push { cls:=.type "range",data:=.fields #[.int lo t,.int hi u,.int 1 v] }).objs.size],_,_,H,rfl,
  I1.kept (t':=tk) fun b o e=>aHl _ e,aEl _ lo (hi-lo).toNat,?_,fun b hb=>?_,q⟩
 ·have e1:lo+((0:Nat):Int)*1=lo:=by simp
  have e2:(((hi-lo).toNat:Nat):Int)-((0:Nat):Int)=Builtin.Range.rangeSize lo hi 1:=by rw[rangeSize_one];split<;>lia
  show IsRangeIter _ _ (lo+((0:Nat):Int)*1) ((((hi-lo).toNat:Nat):Int)-((0:Nat):Int)) 1;rw[e1,e2];exact aHu _ rfl
 ·have e:b=(s.heap.push { cls:=.type "range",data:=.fields #[.int lo t,.int hi u,.int 1 v] }).objs.size:=by simpa using hb
  subst e;exact I1.fpOk (aJf _) (I1.hok.fresh (aJf _))
def VM (ta:TA):TI:=fun σ H R=>ta σ H fun vs H1=>∃ j:Int,vs=[.int j] /\ -(2^62)<=j/\j<2^62/\R (Itr 0 j.toNat) H1
def VN (ta:TA):TI:=fun σ H R=>ta σ H fun vs H1=>∃ i j:Int,vs=[.int i,.int j]/\(-(2^62)<=i/\i<2^62 /\ -(2^62)<=j/\j<2^62)/\R (Itr i (j-i).toNat) H1
theorem aBc {a:Expr}{ta:TA}{p pos:Pos}(hg:Gl X "range") (hm:X.mg "range" = none) (ha:PA X [a] ta) (hs:starEach [a] X.env=[(false,eval a X.env)]:=by rfl):PI X tg (.Call (.Name "range" p) [a] [] pos) (VM ta):=by
 intro pins s σ H R I h;refine Call_ (jF I hg hm boot_range (PyProof.Rows.callWith_type1 (thn (ha pos pins s σ H _ I h) fun us s1 ⟨vs,H1,I1,r1,q1⟩=>?_) hs rfl));obtain⟨j,e,q1,q2,q⟩:=q1;subst e;cases r1 with
 | cons r rr=>
  cases rr;obtain⟨t,rfl⟩:=r;exact call_range_1 (JN I1 (by lia) (by lia) q1 q2 (by simpa using q))
theorem aBd {a b:Expr}{ta:TA}{p pos:Pos}(hg:Gl X "range") (hm:X.mg "range" = none) (ha:PA X [a,b] ta) (hs:starEach [a,b] X.env=[(false,eval a X.env),(false,eval b X.env)]:=by rfl) (hs2:starEach [b] X.env=[(false,eval b X.env)]:=by rfl):
  PI X tg (.Call (.Name "range" p) [a,b] [] pos) (VN ta):=by
 intro pins s σ H R I h;refine Call_ (jF I hg hm boot_range (PyProof.Rows.callWith_type1 (thn (ha pos pins s σ H _ I h) fun us s1 ⟨vs,H1,I1,r1,q1⟩=>?_) (by rw[hs,hs2]) (by rw[hs2];rfl)));obtain⟨i,j,e,⟨q1,q2,q3,q4⟩,q⟩:=q1;subst e;cases r1 with
 | cons r rr=>
  cases rr with
  | cons r' rr=>
   cases rr;obtain⟨t,rfl⟩:=r;obtain⟨t',rfl⟩:=r';exact call_range_2 (JN I1 q1 q2 q3 q4 q)
def aDm (wi:TI) (g:TG) (tb:TS):TS:=fun D σ H=>wi σ H fun J H1=>∃ W:Nat->Nat->St->Hp->Prop,(∃ m,W 0 m σ H1)/\∀ i m σ H,W i m σ H ->
 (J.stop i H/\D.nx σ H)\/(J.go i H/\∃ N:St->Hp->Prop,(∀ σ' H',N σ' H'->∃ m',m'<m/\W (i+1) m' σ' H')/\∀ x H',J.yld i H x H'->g x σ H' fun σ2 H2=>tb { D with nx:=N,ct:=N,bk:=D.nx } σ2 H2)
def sR (fp:List Addr) (h:Heap):List (Addr × Obj):=fp.filterMap fun b=>(h.get? b).map fun o=>(b,o)
theorem wJ {fp:List Addr}{h:Heap}{b:Addr}{o:Obj}(hb:b∈fp) (e:h.get? b=some o):(b,o)∈sR fp h:=aJ5.mpr ⟨b,hb,by rw[e];rfl⟩
theorem YR {fp:List Addr}{h:Heap}{p:Addr × Obj}(hp:p∈sR fp h):p.1∈fp/\h.get? p.1=some p.2:=by
 obtain⟨b,hb,e⟩:=aJ5.mp hp;cases q:h.get? b with
 | none=>rw[q] at e;cases e
 | some o=>
  rw[q] at e;have e':(b,o)=p:=aHa e;subst e';exact⟨hb,q⟩
theorem Inv.pinned {pins:List (Addr × Obj)}{σ:St}{H:Hp}{s:Shared}{fp:List Addr}(I:Inv X pins σ H s) (hf:∀ b∈fp,eS X pins H b) (ho:∀ b∈fp,∃ o,s.heap.get? b=some o/\∀ v,o.data≠.cell v):Inv X (pins++sR fp s.heap) σ H s:=
 I.pins_of fun p hp=>(aJ1.mp hp).elim (fun z=>I.pin p (aJ3 _ z)) fun z=>by
  obtain⟨hb,e⟩:=YR z;obtain⟨f0,f1,f2,_⟩:=hf p.1 hb;obtain⟨o,e',d⟩:=ho p.1 hb;rw[e] at e';cases e';exact⟨e,f0,f1,f2,d⟩
theorem Inv.unpinned {pins pl:List (Addr × Obj)}{σ:St}{H:Hp}{s:Shared}(I:Inv X (pins++pl) σ H s):Inv X pins σ H s:=I.pins_of fun p hp=>I.pin p (aJ3 _ (aJ2 _ hp))
theorem JE {iter : Expr} {body : List Stmt} {wi : TI} {g : TG} {tb : TS} {pos : Pos} (hp : PassesOwn (model X.prog X.w) X.A X.env X.xe) (hc : X.calm = true) (hi : PI X tg iter wi) (hg : PG X tg g) (hb : PSs X body tb)
  (hs : ∀ x, foldedSetIterable iter X.env x = pure x := by intro _; rfl) : PS X (.For tg iter body [] pos) (aDm wi g tb) := by
 intro pins s σ H D I h;refine wpAny_For (thn (hi pins s σ H _ I h) fun v s1 h1 => thn h1 fun itv s2 h2 => ?_) hs;obtain ⟨it, fp, tn, J, H2, e, I2, T, st2, f2, W, ⟨m0, w0⟩, turn⟩ := h2;subst e
 -- what stays true of the iterator's objects through the loop
 have stat : ∀ {H' : Hp}, (∀ b ∈ fp, H' b = none) -> ∀ b ∈ fp, eS X pins H' b := fun hn b hb => ⟨hn b hb, (f2 b hb).2⟩;refine codeAny_forLoop_any (fun n s' => ∃ i σ' H', Inv X pins σ' H' s' /\ tn i s'.heap /\ (∀ b ∈ fp, H' b = none) /\ W i n σ' H') ?_ m0 ⟨0, σ, H2, I2, st2, fun b hb => (f2 b hb).1, w0⟩;rintro n s3 ⟨i, σ3, H3, I3, st3, fr3, w3⟩;rcases turn i n σ3 H3 w3 with ⟨stop, qn⟩ | ⟨go, N, hN, step⟩
 ·refine wpAny_passesOwn hp (thn (T.done X rfl rfl rfl hc i pins s3 σ3 H3 X.xe I3 (stat fr3) st3 stop) fun r s4 ⟨hr, I4⟩ => ?_)
  subst hr;exact wpAny_execs_nil ⟨σ3, H3, I4, qn⟩
 ·refine wpAny_passesOwn hp (thn (T.item X rfl rfl rfl hc i pins s3 σ3 H3 X.xe I3 (stat fr3) st3 go) fun r s4 ⟨u, hr, h4⟩ => ?_)
  subst hr;refine wpAny_passesOwn hp (thn h4 fun _ s5 ⟨x, H5, I5, r5, y5, st5, fr5⟩ => ?_);have I5' := I5.pinned (stat fr5) (T.obj _ _ st5);refine wpAny_passesOwn hp (thn (hg _ s5 σ3 H5 x u _ I5' r5 (step x H5 y5)) fun _ s6 ⟨σ6, H6, I6, q6⟩ => ?_);refine wpAny_passesOwn hp (thn (hb _ s6 σ6 H6 _ I6 q6) fun f s7 q7 => ?_);have again : ∀ {σ7 : St} {H7 : Hp}, Inv X (pins ++ sR fp s5.heap) σ7 H7 s7 -> N σ7 H7 -> ∃ m, m < n /\ ∃ i σ' H', Inv X pins σ' H' s7 /\ tn i s7.heap /\ (∀ b ∈ fp, H' b = none) /\ W i m σ' H' := fun {σ7 H7} I7 n7 => by
   obtain ⟨m', hm, w7⟩ := hN σ7 H7 n7;refine ⟨m', hm, i + 1, σ7, H7, I7.unpinned, T.keep _ _ _ st5 fun b hb o e => (I7.pin (b, o) (aJ3 _ (aJ3 _ (wJ hb e)))).1, fun b hb => ?_, w7⟩;obtain ⟨o, e, d⟩ := T.obj _ _ st5 b hb;exact (I7.pin (b, o) (aJ3 _ (aJ3 _ (wJ hb e)))).2.1
  cases f with
  | next => obtain ⟨σ7, H7, I7, n7⟩ := q7; exact again I7 n7
  | cont => obtain ⟨σ7, H7, I7, n7⟩ := q7; exact again I7 n7
  | brk => obtain ⟨σ7, H7, I7, q7⟩ := q7; exact ⟨σ7, H7, I7.unpinned, q7⟩
  | ret v => obtain ⟨x7, σ7, H7, I7, r7, q7⟩ := q7; exact ⟨x7, σ7, H7, I7.unpinned, r7, q7⟩
end
abbrev R2:=V->V->Hp->VK->Prop
def OpR (X:Cx) (f:Value->Value->Sem Value) (r:R2):Prop:=
 ∀ (pins:List (Addr × Obj)) (s:Shared) (σ:St) (H:Hp) (x y:V) (v u:Value) (Q:VK),Inv X pins σ H s->aX x v->aX y u->r x y H Q ->
  wpAny (model X.prog X.w) X.A (f v u) (EP X pins σ Q) X.xe s
def UnR (X:Cx) (f:Value->Sem Value) (r:V->Hp->VK->Prop):Prop:=
 ∀ (pins:List (Addr × Obj)) (s:Shared) (σ:St) (H:Hp) (x:V) (v:Value) (Q:VK),Inv X pins σ H s->aX x v->r x H Q ->
  wpAny (model X.prog X.w) X.A (f v) (EP X pins σ Q) X.xe s
def fI (X:Cx) (f:Value) (r:List V->Hp->VK->Prop):Prop:=
 ∀ (pins:List (Addr × Obj)) (s:Shared) (σ:St) (H:Hp) (xs:List V) (us:List Value) (Q:VK),Inv X pins σ H s->aL xs us->r xs H Q ->
  wpAny (model X.prog X.w) X.A (call f us) (EP X pins σ Q) X.xe s
def OR (X:Cx) (r:V->Hp->(Bool->Hp->Prop)->Prop):Prop:=
 ∀ (pins:List (Addr × Obj)) (s:Shared) (σ:St) (H:Hp) (x:V) (v:Value) (Q:Bool->Hp->Prop),Inv X pins σ H s->aX x v->r x H Q ->
  wpAny (model X.prog X.w) X.A (truthy v) (TP X pins σ Q) X.xe s
def tOp (r:R2) (ta tb:TE):TE:=fun σ H Q=>ta σ H fun x H1=>tb σ H1 fun y H2=>r x y H2 Q
def tUn (r:V->Hp->VK->Prop) (ta:TE):TE:=fun σ H Q=>ta σ H fun x H1=>r x H1 Q
def rI (C:Int->Int->Prop) (g:Int->Int->V):R2:=fun x y H Q=>∃ i j,x=.int i/\y=.int j/\C i j/\Q (g i j) H
def rI0 (g:Int->Int->V):R2:=fun x y H Q=>∃ i j,x=.int i/\y=.int j/\Q (g i j) H
def rU (g:Int->V):V->Hp->VK->Prop:=fun x H Q=>∃ i,x=.int i/\Q (g i) H
section
variable {X:Cx}{a b c:Expr}{ta tb tc:TE}{pos:Pos}
theorem yZ (ha:PE X a ta) (hb:PE X b tb) {pins:List (Addr × Obj)}{s:Shared}{σ:St}{H:Hp}{R:V->V->Hp->Prop}(I:Inv X pins σ H s)
  (h:ta σ H fun x H1=>tb σ H1 fun y H2=>R x y H2) {Q:Value->Shared->Prop} {f:Value->Value->Sem Value}
  (hf:∀ v u s2 x y H2,Inv X pins σ H2 s2->aX x v->aX y u->R x y H2->wpAny (model X.prog X.w) X.A (f v u) Q X.xe s2):
  wpAny (model X.prog X.w) X.A (eval a X.env) (fun v s₁=>wpAny (model X.prog X.w) X.A (eval b X.env) (fun u s₂=>wpAny (model X.prog X.w) X.A (f v u) Q X.xe s₂) X.xe s₁) X.xe s:=by
 refine thn (ha pins s σ H _ I h) fun v s1 ⟨x,H1,I1,r1,q1⟩=>?_;refine thn (hb pins s1 σ H1 _ I1 q1) fun u s2 ⟨y,H2,I2,r2,q2⟩=>?_;exact hf v u s2 x y H2 I2 r1 r2 q2
theorem BG {op:Operator}{r:R2}(ho:OpR X (binaryOp op) r) (ha:PE X a ta) (hb:PE X b tb):PE X (.BinOp a op b pos) (tOp r ta tb):=by
 intro pins s σ H Q I h;exact wpAny_BinOp (yZ ha hb I h fun v u s2 x y H2 I2 rx ry q=>ho pins s2 σ H2 x y v u Q I2 rx ry q)
theorem aB6 {op:UnaryOp}{r:V->Hp->VK->Prop}(ho:UnR X (unaryOp op) r) (ha:PE X a ta):PE X (.UnaryOp op a pos) (tUn r ta):=by
 intro pins s σ H Q I h;exact UnaryOp_ (thn (ha pins s σ H _ I h) fun v s1 ⟨x,H1,I1,r1,q1⟩=>ho pins s1 σ H1 x v Q I1 r1 q1)
theorem opI {f:Value->Value->Sem Value}{C:Int->Int->Prop}{g:Int->Int->Int}
  (rule:∀ (i j:Int) (t u:Tok) (s:Shared) (Q:Value->Shared->Prop) (E:Value->Shared->Prop),C i j->Q (.int (g i j) s.toks) { s with toks:=s.toks+1 }->wpAny (model X.prog X.w) X.A (f (.int i t) (.int j u)) Q E s):
  OpR X f (rI C fun i j=>.int (g i j)):=by
 intro pins s σ H x y v u Q I rx ry h;obtain⟨i,j,rfl,rfl,hc,q⟩:=h;obtain⟨t,rfl⟩:=rx;obtain⟨t',rfl⟩:=ry;exact rule i j t t' s _ _ hc ⟨.int (g i j),H,I.tok _,⟨_,rfl⟩,q⟩
theorem sK {f:Value->Value->Sem Value}{g:Int->Int->Int}
  (rule:∀ (i j:Int) (t u:Tok) (s:Shared) (Q:Value->Shared->Prop) (E:Value->Shared->Prop),Q (.int (g i j) s.toks) { s with toks:=s.toks+1 }->wpAny (model X.prog X.w) X.A (f (.int i t) (.int j u)) Q E s):
  OpR X f (rI0 fun i j=>.int (g i j)):=by
 intro pins s σ H x y v u Q I rx ry h;obtain⟨i,j,rfl,rfl,q⟩:=h;obtain⟨t,rfl⟩:=rx;obtain⟨t',rfl⟩:=ry;exact rule i j t t' s _ _ ⟨.int (g i j),H,I.tok _,⟨_,rfl⟩,q⟩
theorem IL {f:Value->Value->Sem Value}{g:Int->Int->Bool}
  (rule:∀ (i j:Int) (t u:Tok) (s:Shared) (Q:Value->Shared->Prop) (E:Value->Shared->Prop),Q (.bool (g i j)) s->wpAny (model X.prog X.w) X.A (f (.int i t) (.int j u)) Q E s):
  OpR X f (rI0 fun i j=>.bl (g i j)):=by
 intro pins s σ H x y v u Q I rx ry h;obtain⟨i,j,rfl,rfl,q⟩:=h;obtain⟨t,rfl⟩:=rx;obtain⟨t',rfl⟩:=ry;exact rule i j t t' s _ _ ⟨.bl (g i j),H,I,rfl,q⟩
def CS (i j:Int):Prop:=0<=j/\j<=1000000/\i.natAbs<2^64
theorem aEn (k:Nat):(0:Int)<=2^k:=by
 rw[two_pow_cast];exact Int.natCast_nonneg _
theorem aAb:OpR X (binaryOp .Add) (rI0 fun i j=>.int (i+j)):=sK fun _ _ _ _ _ _ _ q=>add_int q
theorem aAn:OpR X (binaryOp .Sub) (rI0 fun i j=>.int (i-j)):=sK fun _ _ _ _ _ _ _ q=>sub_int q
theorem aAf:OpR X (binaryOp .Mod) (rI (fun _ j=>0<j) fun i j=>.int (i%j)):=opI fun i j _ _ _ _ _ hc q=>by
 have h1:(0:Int)<j:=hc;exact mod_int' (by lia) (by rw[Int.fmod_eq_emod_of_nonneg i (by lia)];exact q)
theorem aAl:OpR X (binaryOp .LShift) (rI CS fun i j=>.int (i*2^j.toNat)):=opI fun _ _ _ _ _ _ _ hc q=>lshift_int_small hc.1 hc.2.1 hc.2.2 q
theorem aAm:OpR X (binaryOp .RShift) (rI (fun _ j=>0<=j) fun i j=>.int (i / 2^j.toNat)):=opI fun i j _ _ _ _ _ hc q=>
 rshift_int hc (by rw[Int.fdiv_eq_ediv_of_nonneg i (aEn _)];exact q)
theorem aAc:OpR X (binaryOp .BitAnd) (rI0 fun i j=>.int (Builtin.bitAnd i j)):=sK fun _ _ _ _ _ _ _ q=>and_int q
theorem aAi:OpR X (binaryOp .BitOr) (rI0 fun i j=>.int (Builtin.bitOr i j)):=sK fun _ _ _ _ _ _ _ q=>or_int q
theorem aAo:OpR X (binaryOp .BitXor) (rI0 fun i j=>.int (Builtin.bitXor i j)):=sK fun _ _ _ _ _ _ _ q=>xor_int q
theorem unI {f:Value->Sem Value}{g:Int->Int}
  (rule:∀ (i:Int) (t:Tok) (s:Shared) (Q:Value->Shared->Prop) (E:Value->Shared->Prop),Q (.int (g i) s.toks) { s with toks:=s.toks+1 }->wpAny (model X.prog X.w) X.A (f (.int i t)) Q E s):
  UnR X f (rU fun i=>.int (g i)):=by
 intro pins s σ H x v Q I rx h;obtain⟨i,rfl,q⟩:=h;obtain⟨t,rfl⟩:=rx;exact rule i t s _ _ ⟨.int (g i),H,I.tok _,⟨_,rfl⟩,q⟩
theorem aEo:UnR X (unaryOp .USub) (rU fun i=>.int (-i)):=unI fun _ _ _ _ _ q=>neg_int q
end
def scal:V->V->Bool
 | .non,.non=>true | .non,.int _=>true | .int _,.non=>true | .non,.bl _=>true | .bl _,.non=>true | .non,.str _=>true | .str _,.non=>true
 | .int _,.int _=>true | .bl _,.bl _=>true | .str _,.str _=>true | .byt _,.byt _=>true
 | .int _,.str _=>true | .str _,.int _=>true | .bl _,.str _=>true | .str _,.bl _=>true
 | _,_=>false
section
variable {X:Cx}{a b c:Expr}{ta tb tc:TE}{pos:Pos}
theorem EU {pins:List (Addr × Obj)}{σ:St}{H:Hp}{s:Shared}{Q:VK}{k k':Bool}(I:Inv X pins σ H s) (q:Q (.bl k) H) (e:k=k'):EP X pins σ Q (.bool k') s:=by
 subst e;exact⟨.bl k,H,I,rfl,q⟩
theorem IO:OpR X (compareOp .Lt) (rI0 fun i j=>.bl (decide (i<j))):=IL fun _ _ _ _ _ _ _ q=>lt_int q
theorem aAe:OpR X (compareOp .Gt) (rI0 fun i j=>.bl (decide (j<i))):=IL fun _ _ _ _ _ _ _ q=>gt_int q
theorem IN:OpR X (compareOp .Is) (fun x y H Q=>y=.non/\Q (.bl (decide (x=.non))) H):=by
 intro pins s σ H x y v u Q I rx ry h;obtain⟨rfl,q⟩:=h;cases ry;refine is_none_gen (EU I q ?_);cases x<;>first
  | (cases rx;rfl)
  | (obtain⟨t,rfl⟩:=rx;rfl)
theorem aAh:OpR X (compareOp .IsNot) (fun x y H Q=>y=.non/\Q (.bl (!decide (x=.non))) H):=by
 intro pins s σ H x y v u Q I rx ry h;obtain⟨rfl,q⟩:=h;cases ry;refine isnot_none_gen (EU I q ?_);cases x<;>first
  | (cases rx;rfl)
  | (obtain⟨t,rfl⟩:=rx;rfl)
theorem jG (b:Expr) {op:CmpOp}(h:op≠.In:=by decide) (h2:op≠.NotIn:=by decide):behindInMarks op b=false:=by
 have e1:(op == CmpOp.In)=false:=by cases op<;>first | rfl | exact absurd rfl h
 have e2:(op == CmpOp.NotIn)=false:=by cases op<;>first | rfl | exact absurd rfl h2
 cases b<;>simp[behindInMarks,e1,e2]
theorem IU {op:CmpOp}{r:R2}(ho:OpR X (compareOp op) r) (ha:PE X a ta) (hb:PE X b tb) (hm:behindInMarks op b=false):PE X (.Compare a [op] [b] pos) (tOp r ta tb):=by
 intro pins s σ H Q I h;exact wpAny_Compare1 (yZ ha hb I h fun v u s2 x y H2 I2 rx ry q=>ho pins s2 σ H2 x y v u Q I2 rx ry q) hm
def aE6 (t:TE):TT:=fun σ H Q=>t σ H fun x H'=>∃ k,x=.bl k/\Q k H'
theorem aBy {op:CmpOp}{r:R2}(ho:OpR X (compareOp op) r) (ha:PE X a ta) (hb:PE X b tb) (hm:behindInMarks op b=false):PT X (.Compare a [op] [b] pos) (aE6 (tOp r ta tb)):=by
 intro pins s σ H Q I h;refine wpAny_isTrue_Compare1 (thn (ha pins s σ H _ I h) fun v s1 ⟨x,H1,I1,r1,q1⟩=>thn (hb pins s1 σ H1 _ I1 q1) fun u s2 ⟨y,H2,I2,r2,q2⟩=>
  thn (ho pins s2 σ H2 x y v u _ I2 r1 r2 q2) fun c s3 ⟨z,H3,I3,r3,k,e,q3⟩=>?_) hm
 subst e;cases r3;exact wpAny_truthy_bool ⟨H3,I3,q3⟩
def yV (K:PySem.W.Frag) (x:V) (H:Hp) (k:Bool):Prop:=
 match x with
 | .non=>k=false
 | .bl b=>k=b
 | .int i=>k=(i != 0)
 | .str y=>y.length<=sizeLine/\k=((y.length:Int) != 0)
 | .byt y=>y.size<=sizeLine/\k=((y.size:Int) != 0)
 | .ref p=>(∃ xs,SqL K H p xs/\k=!xs.isEmpty)\/(∃ xs,SqT K H p xs/\k=!xs.isEmpty)\/∃ kvs,H p=some (.dK kvs)/\k=!kvs.isEmpty
 | _=>False
theorem VZ {κ:Type}{kvs:List (κ × V)}{vs:List (κ × Value)}(r:KV kvs vs):(!vs.isEmpty)=!kvs.isEmpty:=by
 cases r<;>rfl
theorem HP {xs:List V}{its:List Value}(r:aL xs its):(!its.toArray.isEmpty)=!xs.isEmpty:=by
 cases r<;>simp
theorem qM:(sizeLine:Nat)<2^63:=by rw[sizeLine_eq];decide
theorem aEh:OR X (fun x H Q=>∃ k,yV X.K x H k/\Q k H):=by
 intro pins s σ H x v Q I rx h;obtain⟨k,e,q⟩:=h;have hl:=qM;have hs:sizeLine=16777216:=sizeLine_eq;cases x with
 | non=>
  cases rx;have e':k=false:=e;subst e';exact truthy_none ⟨H,I,q⟩
 | bl b=>
  cases rx;have e':k=b:=e;subst e';exact wpAny_truthy_bool ⟨H,I,q⟩
 | int i=>
  obtain⟨t,rfl⟩:=rx;have e':k=(i != 0):=e;subst e';exact PySem.P.truthy_int ⟨H,I,q⟩
 | str y=>
  obtain⟨t,rfl⟩:=rx;obtain⟨hy,e'⟩:y.length<=sizeLine/\k=((y.length:Int) != 0):=e;subst e';exact PySem.P.truthy_str (by lia) ⟨H,I.tok _,q⟩
 | byt y=>
  obtain⟨t,rfl⟩:=rx;obtain⟨hy,e'⟩:y.size<=sizeLine/\k=((y.size:Int) != 0):=e;subst e';exact PySem.W.truthy_bytes (by lia) ⟨H,I.tok _,q⟩
 | ref p=>
  cases rx;have e':(∃ xs,SqL X.K H p xs/\k=!xs.isEmpty)\/(∃ xs,SqT X.K H p xs/\k=!xs.isEmpty)\/∃ kvs,H p=some (.dK kvs)/\k=!kvs.isEmpty:=e;rcases e' with ⟨xs,hx,e'⟩ | ⟨xs,hx,e'⟩ | ⟨kvs,hx,e'⟩
  ·subst e'
   obtain⟨its,r,pl,hz⟩:=I.list hx;have hlen:=r.length;exact wpAny_truthy_list pl.isList (by simp only[aHj];lia) ⟨H,I.tok _,by rw[HP r];exact q⟩
  ·subst e'
   obtain⟨its,r,pl,hz⟩:=I.tuple hx;have hlen:=r.length;exact truthy_tuple pl (by simp only[aHj];lia) ⟨H,I.tok _,by rw[HP r];exact q⟩
  ·subst e'
   obtain⟨hz,hS,vs,r,m⟩:kvs.length<=sizeLine/\(p == sysModules)=false/\∃ vs,KV kvs vs/\s.heap.DictOf (sC X.prog X.w) p vs:=I.hok p _ hx;have hlen:kvs.length=vs.length:=Paired.length r;exact wpAny_truthy_dict hS m (by lia) ⟨H,I.tok _,by rw[VZ r];exact q⟩
 | _=>exact (show False from e).elim
theorem aC0 (ha:PE X a ta) (he:∀ whole,isTrue a X.env whole=(do let v <- whole;standAt a.pos;holding [v] (truthy v))):
  PT X a (fun σ H Q=>ta σ H fun x H'=>∃ k,yV X.K x H' k/\Q k H'):=by
 intro pins s σ H Q I h;exact isTrue_plain (thn (ha pins s σ H _ I h) fun v s1 ⟨x,H1,I1,r1,q1⟩=>aEh pins s1 σ H1 x v Q I1 r1 q1) (he _)
theorem vF {x:V}{us:List Value}(r:aL [x] us):∃ u,us=[u]/\aX x u:=by
 cases r with
 | cons r1 r2=>cases r2;exact⟨_,rfl,r1⟩
theorem yN {x y:V}{us:List Value}(r:aL [x,y] us):∃ u w',us=[u,w']/\aX x u/\aX y w':=by
 cases r with
 | cons r1 r2=>
  cases r2 with
  | cons r3 r4=>cases r4;exact⟨_,_,rfl,r1,r3⟩
theorem PU (hc:X.calm=true):fI X (.builtin "min") (fun xs H Q=>∃ i j,xs=[.int i,.int j]/\Q (.int (if j<i then j else i)) H):=by
 intro pins s σ H xs us Q I r h;obtain⟨i,j,rfl,q⟩:=h;obtain⟨u,w',rfl,⟨t,rfl⟩,⟨t',rfl⟩⟩:=yN r;refine min_two_ints (I.ok.hd hc) fun h' tk k=>⟨_,H,I.kept k,?_,q⟩
 by_cases hj:j<i
 ·rw[if_pos hj,if_pos hj];exact⟨_,rfl⟩
 ·rw[if_neg hj,if_neg hj];exact⟨_,rfl⟩
end
section
variable {prog:Program}{w:World}{A:Around}{E:Value->Shared->Prop}{s:Shared}{K:PySem.W.Frag}{x dx C f:Addr}{mA:Str->Option Value}{name:Str}{v:Value}
end
section
variable {P:Program}{w:World}{H H':Hp}{h h':Heap}{a C dx:Addr}{fs fs':List (Str × V)}
end
section
variable {X:Cx}{pins:List (Addr × Obj)}{σ:St}{H:Hp}{s:Shared}{a C dx:Addr}{fs:List (Str × V)}{f:Str}{v:V}{A:Around}{E:Value->Shared->Prop}
end
section
variable {X:Cx}{o e value:Expr}{f:Str}{pos pos' tpos:Pos}{ta tv:TE}
end
section
variable {X:Cx}{pins:List (Addr × Obj)}{σ:St}{H:Hp}{s:Shared}{A:Around}{E:Value->Shared->Prop}{Q:Value->Shared->Prop}{c:Value}{b:Bool}
end
structure Room (k:Nat) (A:Around):Prop where
 hd:A.handled=none
 dp:A.depth+3*k+5<recursionLimit
 un:A.units+16*k+200<cLine
theorem Room.mono {j k:Nat}{A:Around}(r:Room k A) (h:j<=k):Room j A:=⟨r.hd,by have:=r.dp;lia,by have:=r.un;lia⟩
theorem Room.deeper {k:Nat}{A:Around}(r:Room (k+1) A) (env:Env):Room k (A.deeper env):=
 ⟨r.hd,by have:=r.dp;show A.depth+1+3*k+5<_;lia,by have:=r.un;show A.units+3+16*k+200<_;lia⟩
theorem Room.in1 {k:Nat}{A:Around}(r:Room (k+1) A):Room k A.in1:=
 ⟨r.hd,by have:=r.dp;show A.depth+3*k+5<_;lia,by have:=r.un;show A.units+1+16*k+200<_;lia⟩
theorem Room.depth {k:Nat}{A:Around}(r:Room k A):A.depth<recursionLimit:=by have:=r.dp;lia
theorem Room.units {k:Nat}{A:Around}(r:Room k A):A.units+64<cLine:=by have:=r.un;lia
def aDu:TA:=fun _ H Q=>Q [] H
def aDj (ta:TE) (tr:TA):TA:=fun σ H Q=>ta σ H fun x H1=>tr σ H1 fun xs H2=>Q (x::xs) H2
section
variable {X:Cx}{e:Expr}{es:List Expr}{te:TE}{t:TA}{pos:Pos}
theorem fW:PA X [] aDu:=fun _ _ _ _ H Q I h=>Calls.spliced_nil ⟨[],H,I,.nil,h⟩
theorem eB (ha:PE X e te) (hr:PA X es t) (hs:starEach (e::es) X.env=(false,eval e X.env)::starEach es X.env:=by rfl):PA X (e::es) (aDj te t):=by
 intro pos pins s σ H Q I h;rw[hs];show wpAny _ _ (spliced ((false,eval e X.env)::backTo pos (starEach es X.env))) _ _ s;refine Calls.spliced_cons (thn (ha pins s σ H _ I h) fun u s1 ⟨x,H1,I1,r1,q1⟩=>?_);exact thn (hr pos pins s1 σ H1 _ I1 q1) fun us s2 ⟨xs,H2,I2,r2,q2⟩=>⟨x::xs,H2,I2,.cons r1 r2,q2⟩
def aE7 (t:TA):TE:=fun σ H Q=>t σ H fun xs H1=>xs.length<=sizeLine/\∀ p,H1 p=none->Q (.ref p) (upd H1 p (.tup xs))
def aDs (t:TA):TE:=fun σ H Q=>t σ H fun xs H1=>xs.length<=sizeLine/\∀ p,H1 p=none->Q (.ref p) (upd H1 p (.lst xs))
theorem BH {x1}(h:PA X es t):PE X (.Tuple es x1 pos) (aE7 t):=by
 intro pins s σ H Q I hq;refine wpAny_Tuple_spliced (thn (h pos pins s σ H _ I hq) fun us s1 ⟨xs,H1,I1,r,z,q⟩=>⟨by rw[<- r.length];exact z,?_⟩);have hf:H1 s1.heap.objs.size=none:=I1.hok.fresh (aJf _);refine⟨.ref s1.heap.objs.size,upd H1 s1.heap.objs.size (.tup xs),I1.laid (t':=s1.toks) (fun b u e=>aHl _ e) (aJf _) ?_,rfl,q _ hf⟩;exact⟨z,us,r,⟨_,aHu _ rfl,rfl,_,rfl⟩⟩
theorem aAz (h:PA X es t):PE X (.List es pos) (aDs t):=by
 intro pins s σ H Q I hq;refine wpAny_List_spliced (thn (h pos pins s σ H _ I hq) fun us s1 ⟨xs,H1,I1,r,z,q⟩=>⟨by rw[<- r.length];exact z,?_⟩);have hf:H1 s1.heap.objs.size=none:=I1.hok.fresh (aJf _);refine⟨.ref s1.heap.objs.size,upd H1 s1.heap.objs.size (.lst xs),I1.laid (t':=s1.toks) (fun b u e=>aHl _ e) (aJf _) ?_,rfl,q _ hf⟩;exact⟨z,us,0,r,aHu _ rfl⟩
end
abbrev Sp:=List V->Hp->VK->XK->Prop
abbrev CXT:=List Env->Hp->Shared->XK->Value->Shared->Prop
structure Env0 (P:Program) (w:World) (K:PySem.W.Frag) (mg:Str->Option Value) (base:Heap) (A:Around) (outer:List Env) (s:Shared) (H:Hp):Prop where
 frames:A.frames=some outer
 mod:Mod K mg base
 bs:∀ b o,base.get? b=some o->s.heap.get? b=some o/\H b=none
 bsz:base.objs.size<=s.heap.objs.size
 funs:s.heap.FunFrames base outer
 frf:∀ b∈frs outer,H b=none
 hok:HOk P w H s.heap
 bare:AllBare s.gens
def CE (outer:List Env) (P:Program) (w:World) (H:Hp) (s:Shared) (Q:VK) (u:Value) (s':Shared):Prop:=
 ∃ v H',s'.os=s.os/\AllBare s'.gens/\Un (frs outer) [] H H' s.heap s'.heap/\HOk P w H' s'.heap/\aX v u/\Q v H'
def CR (CX:CXT) (outer:List Env) (P:Program) (w:World) (H:Hp) (s:Shared) (Q:VK) (E:XK) (r:Result) (s':Shared):Prop:=
 match r with
 | .ok (.ret u)=>CE outer P w H s Q u s'
 | .ok _=>False
 | .error e=>CX outer H s E e s'
structure FnOk (P:Program) (w:World) (K:PySem.W.Frag) (mg:Str->Option Value) (base:Heap) (CX:CXT) (k:Nat) (f:Addr) (fd:FuncData) (ps:List Str) (sp:Sp):Prop where
 len:∀ vs H Q E,sp vs H Q E->vs.length=ps.length
 run:∀ (A:Around) (outer:List Env) (s:Shared) (H:Hp) (args:Args) (us:List Value) (vs:List V) (Q:VK) (E:XK),Room k A->Env0 P w K mg base A outer s H->BindsTo s fd args (ps.zip us)->aL vs us->sp vs H Q E ->
  codeAny (model P w) A (.call (.ref f) args) (CR CX outer P w H s Q E) s
theorem Env0.in1 {P:Program}{w:World}{K:PySem.W.Frag}{mg:Str->Option Value}{base:Heap}{A:Around}{outer:List Env}{s:Shared}{H:Hp}(e:Env0 P w K mg base A outer s H):
  Env0 P w K mg base A.in1 outer s H:=⟨e.frames,e.mod,e.bs,e.bsz,e.funs,e.frf,e.hok,e.bare⟩
section
variable {X:Cx}{pins:List (Addr × Obj)}{σ:St}{H:Hp}{s s':Shared}
theorem Inv.env0 (I:Inv X pins σ H s):Env0 X.prog X.w X.K X.mg X.base X.A X.stack s H:=
 ⟨I.ok.frames,I.ok.mod,I.bs,aJg I.ok.bsz I.sz,I.stack,I.stkFree,I.hok,I.bare⟩
theorem Inv.after {Q:VK}{u:Value}(I:Inv X pins σ H s) (h:CE X.stack X.prog X.w H s Q u s'):EP X pins σ Q u s':=by
 obtain⟨v,H',os,bare,un,hok,r,q⟩:=h;obtain⟨hh,g,d,t,os'⟩:=s';obtain rfl:os'=s.os:=os;exact⟨v,H',I.call (h':=hh) (g':=g) (d':=d) (t':=t) (ch:=[]) un hok bare (fun b z=>absurd z (by simp)),r,q⟩
end
def aDh (sp:Sp) (dvs:List V) (E:XK) (t:TA):TE:=fun σ H Q=>t σ H fun vs H1=>sp (vs++dvs) H1 Q E
def fH (K:PySem.W.Frag) (fd:FuncData) (ps:List Str) (ds:List Value):Prop:=
 ∀ (s:Shared) (us:List Value),K.In s.heap->(us++ds).length=ps.length->BindsTo s fd ⟨us,[]⟩ (ps.zip (us++ds))
theorem fH.all {K:PySem.W.Frag}{fd:FuncData}{ps:List Str}(h:∀ us:List Value,us.length=ps.length->bindArgs fd ⟨us,[]⟩=pure (ps.zip us)):fH K fd ps []:=fun s us _ hl=>by
 rw[aI8] at hl ⊢;exact .of_eq (h us hl)
def yT (CX:CXT) (X:Cx) (E:XK):Prop:=∀ (pins:List (Addr × Obj)) (σ:St) (H:Hp) (s:Shared) (e:Value) (s':Shared),Inv X pins σ H s->CX X.stack H s E e s'->X.xe e s'
section
variable {X:Cx}{CX:CXT}{k:Nat}{f C:Addr}{fd:FuncData}{ps:List Str}{sp:Sp}{dvs:List V}{ds:List Value}{E:XK}{x m:Str}{p pos apos:Pos}{e o:Expr}{es:List Expr}{ta:TE}{t:TA}
theorem aCh {pins:List (Addr × Obj)}{σ:St}{H:Hp}{s:Shared}{Q:VK}{us:List Value}{vs:List V}(F:FnOk X.prog X.w X.K X.mg X.base CX k f fd ps sp) (hr:Room k X.A) (hb:fH X.K fd ps ds) (hd:aL dvs ds) (hx:yT CX X E)
  (I:Inv X pins σ H s) (r:aL vs us) (h:sp (vs++dvs) H Q E):wpAny (model X.prog X.w) X.A (call (.ref f) us) (EP X pins σ Q) X.xe s:=by
 have r2:aL (vs++dvs) (us++ds):=r.append hd;have hl:(us++ds).length=ps.length:=by rw[<- r2.length];exact F.len _ _ _ _ h
 refine wpAny_call (codeAny_mono (F.run X.A X.stack s H ⟨us,[]⟩ (us++ds) (vs++dvs) Q E hr I.env0 (hb s us I.kIn hl) r2 h) fun r s' hq=>?_);cases r with
 | error e=>exact hx pins σ H s e s' I hq
 | ok fl=>
  cases fl with
  | ret u=>exact I.after hq
  | next=>exact False.elim hq
  | brk=>exact False.elim hq
  | cont=>exact False.elim hq
theorem IT (F:FnOk X.prog X.w X.K X.mg X.base CX k f fd ps sp) (hr:Room k X.A) (hg:Gl X x) (hm:X.mg x=some (.ref f)) (hk:PySem.W.keepIn X.K (.ref f)=true) (hb:fH X.K fd ps ds) (hd:aL dvs ds) (hx:yT CX X E)
  (ha:PA X (e::es) t) (hdb:(x == ("__debug__" : Str))=false:=by decide) (he:starEach (e::es) X.env=(false,eval e X.env)::starEach es X.env:=by rfl) (hpl:(backTo pos (starEach es X.env)).any (·.1)=false:=by rfl):
  PE X (.Call (.Name x p) (e::es) [] pos) (aDh sp dvs E t):=by
 intro pins s σ H Q I h;refine wpAny_Call_Name_kw (rZ I hg hm ?_ hdb);refine PySem.W.callWith_K (h₀:=X.base) I.ok.mod.kin hk (thn (ha pos pins s σ H _ I h) fun us s1 ⟨vs,H1,I1,r,q⟩=>⟨I1.kIn,?_⟩) he hpl;exact aCh F hr hb hd hx I1 r q
end
section
variable {X:Cx}{CX:CXT}{k:Nat}{f C:Addr}{fd:FuncData}{ps ks:List Str}{sp:Sp}{E:XK}{x m:Str}{p pos apos kpos:Pos}{e o:Expr}{es:List Expr}{kws:List Keyword}{te ta:TE}{t tk:TA}{nm:Option Str}
variable {g:List Value->List Value->List Value}{gV:List V->List V->List V}
end
structure FnScope (N P:List Str) (sc:Scope):Prop where
 kind:sc.kind=.function
 co:sc.isCoroutine=false
 gen:sc.isGenerator=false
 nd:N.Nodup
 pre:N.take P.length=P
 par:∀ x∈P,sc.names.lookup x=some .local\/sc.names.lookup x=some .cell
 nofree:∀ y∈sc.names,y.2≠.free
theorem DT {kindOf:Str->Option NameKind}{x:Str}:∀ {binds:List (Str × Value)}{m:Str->Option Value},(∀ v,(x,v) ∉ binds)->bindL kindOf binds m x=m x
 | [],_,_=>rfl
 | (n,v)::r,m,h=>by
  unfold bindL;rw[DT fun w hw=>h w (aHd _ hw)]
  split
  ·have:x≠n:=by rintro rfl;exact h v aHe
   simp[this]
  ·rfl
theorem DR {kindOf:Str->Option NameKind}{x:Str}:∀ {binds:List (Str × Value)}{m:Str->Option Value},(∀ v,(x,v) ∉ binds)->bindC kindOf binds m x=m x
 | [],_,_=>rfl
 | (n,v)::r,m,h=>by
  unfold bindC;rw[DR fun w hw=>h w (aHd _ hw)]
  split
  ·rfl
  ·have:x≠n:=by rintro rfl;exact h v aHe
   simp[this]
theorem DS {kindOf:Str->Option NameKind}{x:Str}{v:Value}:∀ {P:List Str}{vs:List Value}{i:Nat}{m:Str->Option Value},P.Nodup->P[i]?=some x->vs[i]?=some v->kindOf x=some .local ->
  bindL kindOf (P.zip vs) m x=some v
 | [],_,_,_,_,h,_,_=>by simp at h
 | _::_,[],_,_,_,_,h,_=>by simp at h
 | p::P,w::vs,0,m,nd,h1,h2,hk=>by
  simp at h1 h2;subst h1;subst h2;show bindL kindOf ((p,w)::P.zip vs) m p=_;unfold bindL;rw[DT fun v hv=>(aJb.mp nd).1 (List.of_mem_zip hv).1,if_pos hk];simp
 | p::P,w::vs,i+1,m,nd,h1,h2,hk=>by
  show bindL kindOf ((p,w)::P.zip vs) m x=_;unfold bindL;exact DS (i:=i) (aJb.mp nd).2 (by simpa using h1) (by simpa using h2) hk
theorem DQ {kindOf:Str->Option NameKind}{x:Str}{v:Value}:∀ {P:List Str}{vs:List Value}{i:Nat}{m:Str->Option Value},P.Nodup->P[i]?=some x->vs[i]?=some v->kindOf x≠some .local ->
  bindC kindOf (P.zip vs) m x=some v
 | [],_,_,_,_,h,_,_=>by simp at h
 | _::_,[],_,_,_,_,h,_=>by simp at h
 | p::P,w::vs,0,m,nd,h1,h2,hk=>by
  simp at h1 h2;subst h1;subst h2;show bindC kindOf ((p,w)::P.zip vs) m p=_;unfold bindC;rw[DR fun v hv=>(aJb.mp nd).1 (List.of_mem_zip hv).1,if_neg hk];simp
 | p::P,w::vs,i+1,m,nd,h1,h2,hk=>by
  show bindC kindOf ((p,w)::P.zip vs) m x=_;unfold bindC;exact DQ (i:=i) (aJb.mp nd).2 (by simpa using h1) (by simpa using h2) hk
def start (N:List Str) (vs:List V):St:=vs.map some++List.replicate (N.length-vs.length) none
def aV (CX:CXT) (P:Program) (w:World) (K:PySem.W.Frag) (mg:Str->Option Value) (base:Heap) (N:List Str) (qual:Str) (scope:Scope) (f:Addr) (cd:Value) (A:Around) (outer:List Env) (s:Shared) (H:Hp) (E:XK):Cx where
 prog:=P
 w:=w
 K:=K
 mg:=mg
 base:=base
 A:=A.deeper (envOfC qual scope s.heap.objs.size f cd)
 N:=N
 s₀:=s
 H₀:=H
 env:=envOfC qual scope s.heap.objs.size f cd
 outer:=outer
 stack:=envOfC qual scope s.heap.objs.size f cd::outer
 ex:=[]
 calm:=true
 fn:=fun _=>true
 pn:=[]
 xe:=fun e s'=>wpAny (model P w) (A.deeper (envOfC qual scope s.heap.objs.size f cd)) (leaving (envOfC qual scope s.heap.objs.size f cd) e) (fun _ s''=>CX outer H s E e s'') (fun e' s''=>CX outer H s E e' s'') s'
theorem DY {sc:Scope}{n:Nat}{x:Str}(h:sc.names.lookup x=some .cell):∃ c,(cellsFrom n sc.names []).lookup x=some c:=by
 have q:=PySem.W.cellsFrom_some sc.names n [] (.inl h);exact Option.isSome_iff_exists.mp q
theorem VY {CX:CXT}{P:Program}{w:World}{K:PySem.W.Frag}{mg:Str->Option Value}{base:Heap}{N ps:List Str}{qual:Str}{scope:Scope}{f:Addr}{cd:Value}{A:Around}{outer:List Env}{s s1:Shared}{H:Hp}{E:XK}{us:List Value}{vs:List V}
  (S:FnScope N ps scope) (hd:A.handled=none) (e0:Env0 P w K mg base A outer s H) (hl:vs.length=ps.length) (r:aL vs us)
  (x:InCallC s s.heap.objs.size (bindL (envOfC qual scope s.heap.objs.size f cd).kindOf (ps.zip us) fun _=>none) (cellsFrom (s.heap.objs.size+1) scope.names []) (bindC (envOfC qual scope s.heap.objs.size f cd).kindOf (ps.zip us) fun _=>none) s1):
  Inv (aV CX P w K mg base N qual scope f cd A outer s H E) [] (start N vs) H s1:=by
 have hpl:ps.length<=N.length:=by have:=congrArg List.length S.pre;rw[aIw] at this;lia
 obtain⟨h1,tk,rfl,hk⟩:=x.done;have noA:∀ b:Addr,b ∉ (aV CX P w K mg base N qual scope f cd A outer s H E).ex:=fun b z=>absurd (show b∈([]:List Addr) from z) (by simp);refine⟨⟨e0.mod,S.kind,rfl,rfl,aJf _,fun y z c h1 h2=>?_,fun y hy=>?_,fun y c _ h=>?_,fun _=>hd,Around.frames_deeper e0.frames,.inr ⟨rfl,rfl⟩,fun b z=>absurd z (noA b),e0.bs,e0.bsz,fun b _ _=>noA b,fun b z=>absurd z (noA b),e0.funs,e0.frf⟩,
  rfl,e0.bare,Un.kept hk,⟨_,x.toInCall.ns,fun i y v h1 h2 h3=>?_⟩,fun y c h=>⟨_,x.cell y c h⟩,e0.hok.fresh (aJf _),fun y c h=>?_,fun p hp=>absurd (show p∈([]:List (Addr × Obj)) from hp) (by simp),e0.hok.kept hk,?_⟩
 ·exact name_of_addr x.apart (PySem.mem_of_lookup h1) (PySem.mem_of_lookup h2)
 ·have hy:scope.names.lookup y=some .cell\/scope.names.lookup y=some .free:=hy
  rcases hy with hy | hy
  ·exact DY hy
  ·exact absurd rfl (S.nofree _ (PySem.mem_of_lookup hy))
 ·exact aJe (x.above y c (PySem.mem_of_lookup h))
 ·have hi:i<vs.length:=by
   unfold start at h2
   by_cases hi:i<vs.length
   ·exact hi
   ·rw[List.getElem?_append_right (by simpa using hi)] at h2
    rw[List.getElem?_replicate] at h2;split at h2<;>cases h2
  have ha:vs[i]?=some v:=by
   unfold start at h2;rw[List.getElem?_append_left (by simpa using hi),aIl] at h2;cases e:vs[i]? with
   | none=>rw[e] at h2;cases h2
   | some a=>rw[e] at h2;cases h2;rfl
  obtain⟨u,hu,rv⟩:=r.get ha;have hp:ps[i]?=some y:=by
   rw[<- S.pre,List.getElem?_take_of_lt (by lia)];exact h1
  have ndP:ps.Nodup:=by rw[<- S.pre];exact S.nd.sublist (List.take_sublist _ _)
  refine⟨u,rv,?_⟩;rcases S.par y (List.mem_of_getElem? hp) with k | k
  ·exact .inl ⟨k,DS ndP hp hu k⟩
  ·obtain⟨c,e⟩:=DY (n:=s.heap.objs.size+1) k
   refine .inr ⟨.inl k,c,e,?_⟩;have q:=x.cell y c e;rw[DQ ndP hp hu (by show scope.names.lookup y≠_;rw[k];decide)] at q;exact q
 ·exact e0.hok.fresh (aJe (x.above y c (PySem.mem_of_lookup h)))
 ·unfold start
  show _=N.length;rw[aIo,aIr,aIu];lia
theorem zS {CX:CXT}{P:Program}{w:World}{K:PySem.W.Frag}{mg:Str->Option Value}{base:Heap}{k:Nat}{f:Addr}{name qual:Str}{params:Arguments}{body:List Stmt}{scope:Scope}{dV kV doc pm cdv ct oc:Value}{an od:Option Addr}
  {osl:Array (Option Value)} {N ps:List Str} {sp:Sp} (lk:K.lookup f=some ⟨oc,od,.func (PySem.W.fnOf name qual params body scope dV kV doc pm an cdv ct),osl⟩) (hcd:PySem.W.codeIn K cdv qual=true) (S:FnScope N ps scope)
  (len:∀ vs H Q E,sp vs H Q E->vs.length=ps.length)
  (hbody:∀ (A:Around) (outer:List Env) (s:Shared) (H:Hp) (vs:List V) (Q:VK) (E:XK),Room k (A.deeper (envOfC qual scope s.heap.objs.size f cdv))->sp vs H Q E ->
   ∃ t,PSs (aV CX P w K mg base N qual scope f cdv A outer s H E) body t/\t { nx:=fun _ H'=>Q .non H',rt:=Q } (start N vs) H):
  FnOk P w K mg base CX (k+1) f (PySem.W.fnOf name qual params body scope dV kV doc pm an cdv ct) ps sp:=by
 refine⟨len,fun A outer s H args us vs Q E hr e0 hb r hsp=>?_⟩;have hl:=len _ _ _ _ hsp;have KX:K.In s.heap:=e0.mod.kin.keeps fun b o e=>(e0.bs b o e).1;have lim:s.heap.NoLimit:=e0.mod.nolimit.keeps fun b o e=>(e0.bs b o e).1;have hkind:∀ y∈ps.zip us,scope.names.lookup y.1=some .local\/(scope.names.lookup y.1=some .cell/\((cellsFrom (s.heap.objs.size+1) scope.names []).lookup y.1).isSome=true):=fun ⟨n,v⟩ hy=>by
  rcases S.par n (List.of_mem_zip hy).1 with q | q
  ·exact .inl q
  ·exact .inr ⟨q,PySem.W.cellsFrom_some _ _ _ (.inl q)⟩
 refine codeAny_call_function hr.depth (KX _ _ lk) rfl S.co S.gen rfl (PySem.W.codeRec_of KX hcd) (hb _ _ _ _ ?_);refine wpAny_newFunctionEnv_cells S.kind hkind fun env he s1 x=>?_;subst he;refine⟨lim.keeps x.toInCall.keep,codeAny_func ?_⟩;obtain⟨t,ht,hq⟩:=hbody A outer s H vs Q E (hr.deeper _) hsp;have I:Inv (aV CX P w K mg base N qual scope f cdv A outer s H E) [] (start N vs) H s1:=VY S hr.hd e0 hl r x;refine wpAny_mono (ht [] s1 (start N vs) H _ I hq) (fun fl s' hs=>?_) fun e s' hs=>hs;have fin:∀ {σ':St} {H':Hp} {v:V} {u:Value},Inv (aV CX P w K mg base N qual scope f cdv A outer s H E) [] σ' H' s'->aX v u->Q v H'->CE outer P w H s Q u s':=
  fun {σ' H' v u} J rv q=>⟨v,H',J.os,J.bare,J.base,J.hok,rv,q⟩
 cases fl with
 | ret u=>
  obtain⟨v,σ',H',J,rv,q⟩:=hs;exact fin J rv q
 | next=>
  obtain⟨σ',H',J,q⟩:=hs;exact fin (v:=V.non) (u:=Value.none) J rfl q
 | brk=>
  obtain⟨_,_,_,q⟩:=hs;exact False.elim q
 | cont=>
  obtain⟨_,_,_,q⟩:=hs;exact False.elim q
section
variable {X:Cx}{x:Str}{p pos:Pos}{e:Expr}{es:List Expr}{t:TA}{id T:String}{r:List V->Hp->VK->Prop}
def tCB (r:List V->Hp->VK->Prop) (t:TA):TE:=fun σ H Q=>t σ H fun vs H1=>r vs H1 Q
theorem jZ (hc:fI X (.builtin id) r) (hg:Gl X x) (hm:X.mg x=none) (hv:bootBuiltins x=some (.builtin id)) (ha:PA X (e::es) t) (hn:x ≠ "__name__" := by decide) (hdb:(x == ("__debug__" : Str))=false:=by decide)
  (he:starEach (e::es) X.env=(false,eval e X.env)::starEach es X.env:=by rfl) (hpl:(backTo pos (starEach es X.env)).any (·.1)=false:=by rfl):PE X (.Call (.Name x p) (e::es) [] pos) (tCB r t):=by
 intro pins s σ H Q I h;refine wpAny_Call_Name_kw (jF I hg hm hv ?_ hn hdb);exact PyProof.Rows.callWith_builtin1 (thn (ha pos pins s σ H _ I h) fun us s1 ⟨vs,H1,I1,r1,q1⟩=>hc pins s1 σ H1 vs us Q I1 r1 q1) he hpl
theorem aAv (hc:fI X (.type T) r) (hg:Gl X x) (hm:X.mg x=none) (hv:bootBuiltins x=some (.type T)) (ha:PA X (e::es) t) (hn:x ≠ "__name__" := by decide) (hdb:(x == ("__debug__" : Str))=false:=by decide)
  (he:starEach (e::es) X.env=(false,eval e X.env)::starEach es X.env:=by rfl) (hpl:(backTo pos (starEach es X.env)).any (·.1)=false:=by rfl):PE X (.Call (.Name x p) (e::es) [] pos) (tCB r t):=by
 intro pins s σ H Q I h;refine wpAny_Call_Name_kw (jF I hg hm hv ?_ hn hdb);exact PyProof.Rows.callWith_type1 (thn (ha pos pins s σ H _ I h) fun us s1 ⟨vs,H1,I1,r1,q1⟩=>hc pins s1 σ H1 vs us Q I1 r1 q1) he hpl
end
end L2
namespace HT
open PySem PyProof.Rows
section
open PySem.SeqAt
open PySem.AutoSeq1 (wpAny_loadPart')
open PySem.MeetsSeq PySem.MeetsSeq2 PySem.MeetsSeq3
end
section
variable {prog:Program}{w:World}{A:Around}{E:Value->Shared->Prop}{s:Shared}
end
end HT
namespace L2
open PySem PySem.Spec PyProof.Rows
abbrev TO:=St->Hp->(Option Int->Hp->Prop)->Prop
def PO (X:Cx) (e:Option Expr) (t:TO):Prop:=
 ∀ (pins:List (Addr × Obj)) (s:Shared) (σ:St) (H:Hp) (Q:Option Int->Hp->Prop),Inv X pins σ H s->t σ H Q ->
  wpAny (model X.prog X.w) X.A (evalPart e X.env) (fun u s'=>∃ o H',Inv X pins σ H' s'/\IsPart u o/\Q o H') X.xe s
def aDv:TO:=fun _ H Q=>Q none H
def aDz (t:TE):TO:=fun σ H Q=>t σ H fun x H1=>∃ i,x=.int i/\Q (some i) H1
section
variable {X:Cx}{e:Expr}{te:TE}{lo hi:Option Expr}{tl th:TO}{pos p2:Pos}
theorem aBh:PO X none aDv:=by
 intro pins s σ H Q I h;rw[evalPart_none];exact wpAny_pure ⟨none,H,I,.none,h⟩
theorem aBi (h:PE X e te):PO X (some e) (aDz te):=by
 intro pins s σ H Q I hw;rw[evalPart_some];refine thn (h pins s σ H _ I hw) fun u s1 ⟨x,H1,I1,r1,q1⟩=>?_;obtain⟨i,rfl,q⟩:=q1;obtain⟨t,rfl⟩:=r1;exact⟨some i,H1,I1,.int i t,q⟩
end
def ixN (n:Nat) (i:Int):Option Nat:=if 0<=i then (if i<n then some i.toNat else none) else if -(n:Int)<=i then some (i+n).toNat else none
def atI {α:Type} (xs:List α) (i:Int):Option α:=(ixN xs.length i).bind fun j=>xs[j]?
theorem HR {n:Nat}{i:Int}{j:Nat}(h:ixN n i=some j):seqIndex? i n=some j/\j<n /\ -(n:Int)<=i/\i<n:=by
 unfold ixN at h
 by_cases h0:0<=i
 ·rw[if_pos h0] at h
  by_cases h1:i<n
  ·rw[if_pos h1] at h
   have e:i.toNat=j:=aHa h;exact⟨by rw[seqIndex_of h0 h1,e],by lia,by lia,h1⟩
  ·rw[if_neg h1] at h;cases h
 ·rw[if_neg h0] at h
  by_cases h1 : -(n:Int)<=i
  ·rw[if_pos h1] at h
   have e:(i+n).toNat=j:=aHa h;exact⟨by rw[seqIndex_neg (by lia) h1,e],by lia,h1,by lia⟩
  ·rw[if_neg h1] at h;cases h
theorem yY {α:Type}{xs:List α}{i:Int}{v:α}(h:atI xs i=some v):∃ j,seqIndex? i xs.length=some j/\xs[j]?=some v/\j<xs.length /\ -(xs.length:Int)<=i/\i<xs.length:=by
 unfold atI at h;cases e:ixN xs.length i with
 | none=>rw[e] at h;cases h
 | some j=>
  rw[e] at h;obtain⟨h1,h2,h3,h4⟩:=HR e;exact⟨j,h1,h,h2,h3,h4⟩
theorem OY {α:Type}{xs:List α}{j:Nat}{v:α}(h:xs[j]?=some v):atI xs (j:Int)=some v:=by
 have hj:j<xs.length:=(aHf.mp h).1;have e:ixN xs.length (j:Int)=some j:=by
  unfold ixN;rw[if_pos (by lia),if_pos (by lia)];simp
 unfold atI;rw[e];exact h
def DK (b:Expr):Prop:=∀ o i,subscripted b false o i=operate [o,i] (getItem o i)
def IxR (X:Cx) (r:R2):Prop:=
 ∀ (value slice:Expr) (pins:List (Addr × Obj)) (s:Shared) (σ:St) (H:Hp) (x y:V) (v u:Value) (Q:VK),Inv X pins σ H s->aX x v->aX y u->r x y H Q ->
  subscripted slice false v u=operate [v,u] (getItem v u)->wpAny (model X.prog X.w) X.A (subscriptTail value slice v u) (EP X pins σ Q) X.xe s
def MtR (X:Cx) (id:String) (r:V->List V->Hp->VK->Prop):Prop:=
 ∀ (pins:List (Addr × Obj)) (s:Shared) (σ:St) (H:Hp) (x:V) (xs:List V) (v:Value) (us:List Value) (Q:VK),Inv X pins σ H s->aX x v->aL xs us->r x xs H Q ->
  wpAny (model X.prog X.w) X.A (call (.builtin id) (v::us)) (EP X pins σ Q) X.xe s
section
variable {X:Cx}{a b:Expr}{ta tb:TE}{pos:Pos}
theorem IxR.or {r r':R2}(h:IxR X r) (h':IxR X r'):IxR X (fun x y H Q=>r x y H Q\/r' x y H Q):=by
 intro value slice pins s σ H x y v u Q I rx ry q hs;rcases q with q | q
 ·exact h value slice pins s σ H x y v u Q I rx ry q hs
 ·exact h' value slice pins s σ H x y v u Q I rx ry q hs
theorem aAy {r:R2}(hr:IxR X r) (ha:PE X a ta) (hb:PE X b tb) (hs:DK b):PE X (.Subscript a b pos) (tOp r ta tb):=by
 intro pins s σ H Q I h;exact Subscript_ (yZ ha hb I h fun v u s2 x y H2 I2 rx ry q=>hr a b pins s2 σ H2 x y v u Q I2 rx ry q (hs _ _))
def JJ (K:PySem.W.Frag):R2:=fun x y H Q=>∃ p xs i v,x=.ref p/\y=.int i/\SqL K H p xs/\atI xs i=some v/\Q v H
def JL (K:PySem.W.Frag):R2:=fun x y H Q=>∃ p xs i v,x=.ref p/\y=.int i/\SqT K H p xs/\atI xs i=some v/\Q v H
def JK:R2:=fun x y H Q=>∃ z i c,x=.str z/\y=.int i/\z.length<=sizeLine/\atI z.cps.toList i=some c/\Q (.str ⟨#[c]⟩) H
theorem WE:IxR X (JJ X.K):=by
 intro value slice pins s σ H x y v u Q I rx ry h hs;obtain⟨p,xs,i,z,rfl,rfl,hq,he,q⟩:=h;cases rx;obtain⟨t,rfl⟩:=ry;obtain⟨its,r,pl,hz⟩:=I.list hq;obtain⟨j,h1,h2,h3,h4,h5⟩:=yY he;obtain⟨w,ew,rw'⟩:=r.get h2;have hl:=r.length;have hn:=qM;have fin:EP X pins σ Q w s:=⟨z,H,I,rw',q⟩
 by_cases h0:0<=i
 ·have hj:i.toNat=j:=by
   rw[seqIndex_of h0 h5] at h1;exact aHa h1
  exact item_listR pl.isList h0 (by lia) (by rw[hj];simpa using ew) fin hs
 ·have hj:(i+(its.toArray.size:Int)).toNat=j:=by
   rw[seqIndex_neg (by lia) h4] at h1;rw[aHj,<- hl];exact aHa h1
  exact subscriptTail_builtinR (x:=w) pl.isList.typeIs slot_list_getitem.lookup
   (wpAny_getItem_list_neg (Q:=fun r s'=>r=w/\EP X pins σ Q r s') pl.isList (by lia) (by rw[aHj]<;>lia) (by lia) (by rw[hj];simpa using ew) ⟨rfl,fin⟩) hs
theorem WH:IxR X (JL X.K):=by
 intro value slice pins s σ H x y v u Q I rx ry h hs;obtain⟨p,xs,i,z,rfl,rfl,hq,he,q⟩:=h;cases rx;obtain⟨t,rfl⟩:=ry;obtain⟨its,r,pl,hz⟩:=I.tuple hq;obtain⟨j,h1,h2,h3,h4,h5⟩:=yY he;obtain⟨w,ew,rw'⟩:=r.get h2;have hl:=r.length;have hn:=qM;have fin:EP X pins σ Q w s:=⟨z,H,I,rw',q⟩;exact subscriptTail_builtinR (x:=w) pl.typeIs slot_tuple_getitem.lookup
  (getItem_tuple (j:=j) (Q:=fun r s'=>r=w/\EP X pins σ Q r s') pl (by lia) (by lia) (by rw[aHj,<- hl];exact h1) (by simpa using ew) ⟨rfl,fin⟩) hs
theorem WG:IxR X JK:=by
 intro value slice pins s σ H x y v u Q I rx ry h hs;obtain⟨z,i,c,rfl,rfl,hz,he,q⟩:=h;obtain⟨t,rfl⟩:=rx;obtain⟨t',rfl⟩:=ry;obtain⟨j,h1,h2,h3,h4,h5⟩:=yY he;have hl:z.cps.toList.length=z.length:=by simp[Str.length]
 rw[hl] at h1 h4 h5;have hn:=qM;exact tail_any (typeIs_str s z t) slot_str_getitem.lookup (getItem_str (c:=c) (by
  have e1:decide (i < -(2^63:Int))=false:=decide_eq_false (by lia);have e2:decide (i >= 2^63)=false:=decide_eq_false (by lia);rw[e1,e2,Bool.or_false]) (by rw[h1];simpa using h2) ⟨.str ⟨#[c]⟩,H,I.tok _,⟨_,rfl⟩,q⟩) hs
def rIx (K:PySem.W.Frag):R2:=fun x y H Q=>JJ K x y H Q\/JL K x y H Q\/JK x y H Q
theorem WF:IxR X (rIx X.K):=WE.or (WH.or WG)
theorem XI (its:List Value) (n j:Nat) (u:Value):Obj.mapSeq (·.setIfInBounds j u) { cls:=.type "list",data:=.seq its.toArray n }={ cls:=.type "list",data:=.seq (its.set j u).toArray n }:=by
 simp[Obj.mapSeq]
theorem Inv.lst {pins:List (Addr × Obj)}{σ:St}{H:Hp}{s:Shared}{p:Addr}{xs:List V}(I:Inv X pins σ H s) (h:H p=some (.lst xs)):
  ∃ (its:List Value) (n:Nat),aL xs its/\s.heap.get? p=some { cls:=.type "list",data:=.seq its.toArray n }/\xs.length<=sizeLine:=by
 obtain⟨z,its,n,r,e⟩:=I.hok p _ h;exact⟨its,n,r,e,z⟩
theorem Inv.lstUpd {pins:List (Addr × Obj)}{σ:St}{H:Hp}{s:Shared}{p:Addr}{xs ys:List V}{its its':List Value}{n n':Nat}{f:Obj->Obj}(I:Inv X pins σ H s) (h:H p=some (.lst xs))
  (ho:s.heap.get? p=some { cls:=.type "list",data:=.seq its.toArray n }) (hf:f { cls:=.type "list",data:=.seq its.toArray n }={ cls:=.type "list",data:=.seq its'.toArray n' }) (r:aL ys its') (hz:ys.length<=sizeLine) (t:Nat):
  Inv X pins σ (upd H p (.lst ys)) { s with heap:=s.heap.update p f,toks:=t }:=by
 have e:(s.heap.update p f).get? p=some { cls:=.type "list",data:=.seq its'.toArray n' }:=by
  rw[Heap.get?_update_self f ho (by rw[hf]<;>rfl),hf]
 refine I.write (x:=p) (e:=p) (by rw[h];trivial) (.inl rfl) (fun b u hb q=>(Heap.get?_update_other _ _ (Ne.symm hb)).trans q) ⟨_,e⟩ ?_;exact⟨hz,its',n',r,e⟩
def aC9:V->V->V->Hp->(Hp->Prop)->Prop:=fun o i v H Q=>∃ p xs k j,o=.ref p/\i=.int k/\H p=some (.lst xs)/\ixN xs.length k=some j/\Q (upd H p (.lst (xs.set j v)))
theorem aD2:DJ X aC9:=by
 intro pins s σ H o i v ov iv u Q I ro ri rv h;obtain⟨p,xs,k,j,rfl,rfl,hp,hj,q⟩:=h;cases ro;obtain⟨t,rfl⟩:=ri;obtain⟨its,n,r,ho,hz⟩:=I.lst hp;obtain⟨h1,h2,h3,h4⟩:=HR hj;have hl:=r.length;have hn:=qM;have I':Inv X pins σ (upd H p (.lst (xs.set j v))) { s with heap:=s.heap.update p (Obj.mapSeq (·.setIfInBounds j u)) }:=
  I.lstUpd hp ho (XI its n j u) (r.set rv j) (by rw[aIv];exact hz) s.toks
 by_cases h0:0<=k
 ·have hk:k.toNat=j:=by
   rw[seqIndex_of h0 h4] at h1;exact aHa h1
  exact PySem.W.ki_setAt ho h0 (by lia) (by rw[aHj,<- hl];exact h4) (by rw[hk];exact⟨_,I',q⟩)
 ·have hk:(k+(its.toArray.size:Int)).toNat=j:=by
   rw[seqIndex_neg (by lia) h3] at h1;rw[aHj,<- hl];exact aHa h1
  exact PySem.W.ki_setBack ho (by lia) (by rw[aHj,<- hl];exact h3) (by lia) (by rw[hk];exact⟨_,I',q⟩)
theorem PQ:fI X (.builtin "len") (fun xs H Q=>∃ p ys,xs=[.ref p]/\(SqL X.K H p ys\/SqT X.K H p ys)/\Q (.int ys.length) H):=by
 intro pins s σ H xs us Q I r h;obtain⟨p,ys,rfl,hq,q⟩:=h;obtain⟨u,rfl,rx⟩:=vF r;cases rx;have hn:=qM;rcases hq with hq | hq
 ·obtain⟨its,r',pl,hz⟩:=I.list hq
  have hlen:=r'.length;exact Calls.call_len_list pl.isList (by simp only[aHj]<;>lia) ⟨.int ys.length,H,I.tok _,⟨s.toks+1,by rw[aHj,hlen]⟩,q⟩
 ·obtain⟨its,r',pl,hz⟩:=I.tuple hq
  have hlen:=r'.length;exact len_tuple pl (by simp only[aHj]<;>lia) ⟨.int ys.length,H,I.tok _,⟨s.toks+1,by rw[aHj,hlen]⟩,q⟩
theorem PR:fI X (.type "list") (fun xs H Q=>∃ p ys,xs=[.ref p]/\(SqL X.K H p ys\/SqT X.K H p ys)/\∀ l,H l=none->Q (.ref l) (upd H l (.lst ys))):=by
 intro pins s σ H xs us Q I r h;obtain⟨p,ys,rfl,hq,q⟩:=h;obtain⟨u,rfl,rx⟩:=vF r;cases rx;have fin:∀ (its:List Value),aL ys its->ys.length<=sizeLine->∀ (h':Heap) (c':Nat),(∀ b o',s.heap.get? b=some o'->h'.get? b=some o') ->
   h'.get? s.heap.objs.size=some { cls:=.type "list",dict:=none,data:=.seq its.toArray c',slots:=#[] }->EP X pins σ Q (.ref s.heap.objs.size) { s with heap:=h' }:=fun its r' hz h' c' kp e=>
  ⟨.ref s.heap.objs.size,_,I.laid (t':=s.toks) kp (aJf _) (show cL X.prog X.w _ h' _ (.lst ys) from ⟨hz,its,c',r',e⟩),rfl,q _ (I.hok.fresh (aJf _))⟩
 rcases hq with hq | hq
 ·obtain⟨its,r',pl,hz⟩:=I.list hq
  have hlen:=r'.length;obtain⟨o,ho,hc,n,hd⟩:=pl.isList;exact call_list_seq p (.inl rfl) ho hc hd (fun h' c' kp e=>fin its r' hz h' c' kp e) (by simp only[aHj]<;>lia)
 ·obtain⟨its,r',pl,hz⟩:=I.tuple hq
  have hlen:=r'.length;obtain⟨o,ho,hc,n,hd⟩:=pl;exact call_list_seq p (.inr rfl) ho hc hd (fun h' c' kp e=>fin its r' hz h' c' kp e) (by simp only[aHj]<;>lia)
def tyV (K : PySem.W.Frag) (T : String) (x : V) (H : Hp) : Prop := match x with
 | .str _ => T = "str"
 | .int _ => T = "int"
 | .ref p => (T = "list" /\ ∃ xs, SqL K H p xs) \/ (T = "tuple" /\ ∃ o, K.lookup p = some o /\ o.cls = .type "tuple" /\ o.dict = none) \/
   (T = "dict" /\ ((∃ kvs, H p = some (.dK kvs)) \/ ∃ kvs, H p = some (.dT kvs))) \/ (T = "set" /\ ∃ S n, H p = some (.set S n))
 | _ => False
theorem LT {pins:List (Addr × Obj)}{σ:St}{H:Hp}{s:Shared}{T:String}{x:V}{v:Value}(I:Inv X pins σ H s) (r:aX x v) (ty:tyV X.K T x H):
  s.TypeIs v T/\∀ a,v=.ref a->∃ ob,s.heap.get? a=some ob/\ob.dict=none:=by
 cases x with
 | str z=>
  obtain⟨t,rfl⟩:=r;cases (show T = "str" from ty);exact⟨typeIs_str s z t,fun _ e=>nomatch e⟩
 | int i=>
  obtain⟨t,rfl⟩:=r;cases (show T = "int" from ty);exact⟨typeIs_int s i t,fun _ e=>nomatch e⟩
 | ref p=>
  cases r;rcases ty with ⟨rfl,xs,hq⟩ | ⟨rfl,o,hk,hc,hd⟩ | ⟨rfl,hk⟩ | ⟨rfl,S,n,hk⟩
  ·obtain⟨its,_,pl,_⟩:=I.list hq
   refine⟨pl.isList.typeIs,fun a e=>?_⟩;cases e;obtain⟨o,n,e,c,hd,_⟩:=pl;exact⟨o,e,hd⟩
  ·refine⟨⟨o,I.kIn p o hk,hc⟩,fun a e=>?_⟩
   cases e;exact⟨o,I.kIn _ o hk,hd⟩
  ·have z:∃ o,s.heap.get? p=some o/\o.ExactDict:=by
    rcases hk with ⟨kvs,hk⟩ | ⟨kvs,hk⟩
    ·obtain⟨_,_,_,_,o,_,_,e,ex,_⟩:=I.hok p _ hk
     exact⟨o,e,ex⟩
    ·obtain⟨_,_,_,_,o,_,_,e,ex,_⟩:=I.hok p _ hk
     exact⟨o,e,ex⟩
   obtain⟨o,e,ex⟩:=z;refine⟨⟨o,e,ex.1⟩,fun a e2=>?_⟩;cases e2;exact⟨o,e,ex.2.1⟩
  ·obtain⟨o,_,_,_,e,ex,_⟩:=I.hok p _ hk
   refine⟨⟨o,e,ex.1⟩,fun a e2=>?_⟩;cases e2;exact⟨o,e,ex.2.1⟩
 | _=>exact False.elim ty
def aDg (K:PySem.W.Frag) (T:String) (r:V->List V->Hp->VK->Prop) (to:TE):TE:=fun σ H Q=>to σ H fun x H1=>tyV K T x H1/\r x [] H1 Q
def tBM (K:PySem.W.Frag) (T:String) (r:V->List V->Hp->VK->Prop) (to:TE) (t:TA):TE:=fun σ H Q=>to σ H fun x H1=>tyV K T x H1/\t σ H1 fun xs H2=>r x xs H2 Q
variable {o e:Expr}{es:List Expr}{to:TE}{t:TA}{name:Str}{apos cpos:Pos}{T id:String}{r:V->List V->Hp->VK->Prop}
theorem aAu (pa:PlainAttrs T) (slot:Slot T name id) (hty:typeOf (.builtin id)=pure (.type "method_descriptor")) (hm:MtR X id r) (ho:PE X o to)
  (hbase:attributeBase o name X.env (eval o X.env)=eval o X.env:=by rfl) (hline:(apos.endLine == cpos.line)=true:=by rfl):PE X (.Call (.Attribute o name apos) [] [] cpos) (aDg X.K T r to):=by
 intro pins s σ H Q I h;refine wpAny_Call_method0_late hbase hline (thn (ho pins s σ H _ I h) fun v s1 ⟨x,H1,I1,r1,ty,q1⟩=>?_);obtain⟨h1,h2⟩:=LT I1 r1 ty;exact⟨T,id,pa,slot,hty,h1,h2,Calls.callWith_builtin rfl (PySem.evalArgs_none (hm pins s1 σ H1 x [] v [] Q I1 r1 .nil q1))⟩
theorem sO (pa:PlainAttrs T) (slot:Slot T name id) (hty:typeOf (.builtin id)=pure (.type "method_descriptor")) (hm:MtR X id r) (ho:PE X o to) (ha:PA X (e::es) t)
  (hbase:attributeBase o name X.env (eval o X.env)=eval o X.env:=by rfl)
  (hfew:((backTo cpos (starEach (e::es) X.env)).all (fun x=>!x.1)&&(backToKw cpos (keywordEach [] X.env)).all (fun x=>x.1.isSome)
   && decide ((e::es).length+([]:List Keyword).length+(if ([]:List Keyword).isEmpty then 0 else 1)<30))=true:=by rfl)
  (hline:(apos.endLine == cpos.line)=true:=by rfl) (hs:starEach (e::es) X.env=(false,eval e X.env)::starEach es X.env:=by rfl) (hplain:(backTo cpos (starEach es X.env)).any (·.1)=false:=by rfl):
  PE X (.Call (.Attribute o name apos) (e::es) [] cpos) (tBM X.K T r to t):=by
 intro pins s σ H Q I h;refine wpAny_Call_method_late hbase hfew hline rfl (thn (ho pins s σ H _ I h) fun v s1 ⟨x,H1,I1,r1,ty,q1⟩=>?_);obtain⟨h1,h2⟩:=LT I1 r1 ty;refine⟨T,id,pa,slot,hty,h1,h2,?_⟩;have hA:=ha cpos pins s1 σ H1 _ I1 q1;rw[hs] at hA ⊢;refine Calls.callWith_builtin (by show (false||(backTo cpos (starEach es X.env)).any (·.1))=false;rw[hplain]<;>rfl) (Calls.evalArgs_plain ?_)
 exact thn hA fun us s2 ⟨vs,H2,I2,r2,q2⟩=>hm pins s2 σ H2 x vs v us Q I2 r1 r2 q2
end
def MtM (X:Cx) (id:String) (r:V->List V->Hp->VK->Prop):Prop:=
 ∀ (pins:List (Addr × Obj)) (s:Shared) (σ:St) (H:Hp) (x:V) (xs:List V) (v:Value) (us:List Value) (Q:VK),Inv X pins σ H s->aX x v->aL xs us->r x xs H Q ->
  wpAny (model X.prog X.w) X.A (call (.builtin id) (v::us)) (EP X pins σ Q) X.xe s
theorem aL.one:∀ {x:V}{us:List Value},aL [x] us->∃ u,us=[u]/\aX x u
 | _,_,.cons r .nil=>⟨_,rfl,r⟩
theorem aL.two:∀ {x y:V}{us:List Value},aL [x,y] us->∃ u v,us=[u,v]/\aX x u/\aX y v
 | _,_,_,.cons r (.cons q .nil)=>⟨_,_,rfl,r,q⟩
theorem aL.rep {xs:List V}{us:List Value}(h:aL xs us):∀ k:Nat,aL (List.replicate k xs).flatten (List.replicate k us).flatten
 | 0=>.nil
 | k+1=>by
  rw[aJd,aJd,List.flatten_cons,List.flatten_cons];exact aL.append h (aL.rep h k)
theorem EZ (its:List Value):∀ (k:Nat) (acc:List Value),
  List.foldl (fun x1 x2=>x1++x2) acc.toArray (List.replicate k its.toArray)=(acc++(List.replicate k its).flatten).toArray
 | 0,acc=>by simp
 | k+1,acc=>by
  have e:acc.toArray++its.toArray=(acc++its).toArray:=by simp
  have e2:(acc++its)++(List.replicate k its).flatten=acc++(List.replicate (k+1) its).flatten:=by
   rw[aJd,List.flatten_cons,List.append_assoc]
  rw[<- e2,<- EZ its k (acc++its),<- e,aJd,List.foldl_cons]
section
variable {X:Cx}{pins:List (Addr × Obj)}{σ:St}{H:Hp}{s:Shared}{l b:Addr}{xs ys zs:List V}
theorem Inv.lset {its its':List Value}{n:Nat}{f:Array Value->Array Value}{t':Nat}(I:Inv X pins σ H s) (hH:H l=some (.lst xs))
  (e:s.heap.get? l=some { cls:=.type "list",data:=.seq its.toArray n }) (hf:f its.toArray=its'.toArray) (hv:aL ys its') (hz:ys.length<=sizeLine):
  Inv X pins σ (upd H l (.lst ys)) { s with heap:=s.heap.update l (Obj.mapSeq f),toks:=t' }:=by
 have q:=PySem.IsL.update e f;rw[hf] at q;refine I.write (x:=l) (e:=l) (by rw[hH];exact trivial) (.inl rfl) (fun b' u hb hu=>(Heap.get?_update_other s.heap (Obj.mapSeq f) (Ne.symm hb)).trans hu) ⟨_,q⟩ ?_;exact⟨hz,its',_,hv,q⟩
theorem Inv.lnew {its:List Value}{t':Nat}(I:Inv X pins σ H s) (hv:aL ys its) (hz:ys.length<=sizeLine):
  Inv X pins σ (upd H s.heap.objs.size (.lst ys)) { s with heap:=s.heap.push { cls:=.type "list",data:=.seq its.toArray },toks:=t' }:=
 I.laid (fun _ _ q=>aHl _ q) (aJf _) ⟨hz,its,0,hv,aHu _ rfl⟩
theorem Inv.fresh (I:Inv X pins σ H s):H s.heap.objs.size=none:=I.hok.fresh (aJf _)
theorem Inv.lstM (I:Inv X pins σ H s) (hH:H l=some (.lst xs)):xs.length<=sizeLine/\∃ (its:List Value) (n:Nat),aL xs its/\xs.length=its.length/\s.heap.get? l=some { cls:=.type "list",data:=.seq its.toArray n }:=by
 obtain⟨z,its,n,r,e⟩:=I.hok l _ hH;exact⟨z,its,n,r,r.length,e⟩
theorem YC {n:Nat}(h:n<=sizeLine):Builtin.List.listTooLong n=false:=by
 unfold Builtin.List.listTooLong;exact decide_eq_false (by lia)
end
section
variable {X:Cx}
def aC4:V->List V->Hp->VK->Prop:=fun x vs H Q=>∃ l xs y,x=.ref l/\vs=[y]/\H l=some (.lst xs)/\xs.length<sizeLine/\Q .non (upd H l (.lst (xs++[y])))
theorem IG:MtM X "list.append" aC4:=by
 intro pins s σ H x vs v us Q I rx rv h;obtain⟨l,xs,y,rfl,rfl,hH,hz,q⟩:=h;cases rx;obtain⟨u,rfl,ru⟩:=rv.one;obtain⟨z,its,n,r,hl,e⟩:=I.lstM hH;refine call_meets F.slot_list_append ⟨_,e,rfl⟩ F.entry_list_append (F.args_list_append_2 _ _) (PySem.list_append l its.toArray n u (by rw[aHj];lia)) ⟨e,?_⟩;refine⟨.non,_,I.lset (its':=its++[u]) hH e (by simp) (r.append (.cons ru .nil)) ?_,rfl,q⟩;rw[aIo,List.length_singleton];lia
def aC7:R2:=fun x y H Q=>∃ l k xs,x=.ref l/\y=.int k/\H l=some (.lst xs) /\ -(2^63)<=k/\k<2^63/\xs.length*k.toNat<=sizeLine /\
 ∀ p,H p=none->Q (.ref p) (upd H p (.lst (List.replicate k.toNat xs).flatten))
theorem WY {α:Type}(xs:List α) (k:Nat):(List.replicate k xs).flatten.length=k*xs.length:=by
 induction k with
 | zero=>simp
 | succ k ih=>rw[aJd,List.flatten_cons,aIo,ih,Nat.succ_mul,Nat.add_comm]
theorem aAj:OpR X (binaryOp .Mult) aC7:=by
 intro pins s σ H x y v u Q I rx ry h;obtain⟨l,k,xs,rfl,rfl,hH,h1,h2,hz,q⟩:=h;cases rx;obtain⟨t,rfl⟩:=ry;obtain⟨z,its,n,r,hl,e⟩:=I.lstM hH;have hlen:its.toArray.size*k.toNat<=sizeLine:=by rw[aHj,<- hl];exact hz
 have hcap:¬ its.toArray.size*k.toNat > (2^63-1) / 8:=by
  have:(sizeLine:Nat)<=(2^63-1) / 8:=by decide
  lia
 have hfit:¬ (!Builtin.List.listFitsIndex k)=true:=by
  rw[fitsIndex_both h1 h2];exact aHr
 have hlong:¬ Builtin.List.listTooLong (its.toArray.size*k.toNat)=true:=by
  rw[YC hlen];exact aHr
 have hnew:List.foldl (fun x1 x2=>x1++x2) #[] (List.replicate (if its.toArray.isEmpty=true then 0 else k.toNat) its.toArray)=(List.replicate k.toNat its).flatten.toArray:=by
  have f0:∀ m:Nat,List.foldl (fun x1 x2=>x1++x2) #[] (List.replicate m its.toArray)=(List.replicate m its).flatten.toArray:=fun m=>by
   have:=EZ its m [];rw[List.nil_append] at this;exact this
  rw[f0];cases its with
  | nil=>simp
  | cons a r'=>rw[if_neg (by simp)]
 refine wpAny_binaryOp_repeat_ref (T := "list") (U := "int") (by decide) ⟨_,e,rfl⟩ (fun s'=>typeIs_int s' k t) noFill_list_mul F.fills_int_mul F.slot_int_rmul repeat_list F.slot_int_index.lookup
  (call_meets F.slot_int_rmul (typeIs_int s k t) F.entry_int_rmul (F.args_int_rmul_2 _ _) (int___rmul___int_list k t l its.toArray n)
   ⟨e,rfl,⟨_,e,rfl⟩,call_meets F.slot_list_mul ⟨_,e,rfl⟩ F.entry_list_mul (F.args_list_mul_2 _ _) (AutoListH.list___mul___list_int_3 l its.toArray n k t hfit hcap hlong) ⟨e,?_⟩⟩)
 rw[hnew];exact⟨.ref _,_,I.lnew (t':=s.toks) (r.rep k.toNat) (by rw[WY,Nat.mul_comm];exact hz),rfl,q _ I.fresh⟩
end
section
variable {prog:Program}{w:World}{A:Around}{E:Value->Shared->Prop}{s:Shared}
set_option maxRecDepth 100000 in
end
section
variable {X:Cx}
end
end L2
namespace Att
open PySem PySem.W PySem.Calls PyProof.Rows
theorem VV {P:Params}{h:Heap}:∀ (ns:List Int) (vs:List Value),WellAll P h vs (ns.map WData.int)->IntsAre vs ns:=by
 intro ns
 induction ns with
 | nil=>
  intro vs w;rw[aJ0] at w;cases w;exact .nil
 | cons n ns ih=>
  intro vs w;rw[aIy] at w;cases w with
  | cons a b=>
   cases a;exact .cons _ _ (ih _ b)
theorem aD1 {l:OpenLaw}{n:Nat}(hn:l.most=some n) {P:Params}{h:Heap}{args:List WData}{vals:List Value}
  (hpre:l.row.toRowW.claim.pre args=true) (hwl:WellAll P h vals args):
  ∃ a vs ns,vals=[Value.ref a]/\args=[WData.list (ns.map WData.int)]/\h.get? a=some { cls:=.type "list",data:=.seq vs.toArray }/\IntsAre vs ns/\ns.length<=n:=by
 have hsh:WShape.hasAll [] args [.list .int]=true:=(pre_splitW hpre).1;have hc:l.pre.holds [] { args:=args }=true:=(pre_splitW hpre).2;obtain⟨d,r,rfl,h1,h2⟩:=hasAllW_cons hsh;obtain rfl:=hasAllW_nil h2;obtain⟨xs,rfl,h3⟩:=hasW_list h1;obtain⟨ns,rfl⟩:=items_int h3;have hlen:ns.length<=n:=by
  unfold OpenLaw.pre at hc;have h4:(WTm.not (.lt (.lit (.int (n:Int))) (.len (.arg 0)))).holds [] { args:=[.list (ns.map .int)] }=true:=by
   have h4:=(holds_andW hc).1;rw[hn] at h4;exact h4
  have h5:=condW_of h4 (w_not (w_lt w_lit (w_len_list (w_arg rfl))));rw[aIr] at h5;refine Nat.le_of_not_lt fun q=>?_;have q':(n:Int)<((ns.length:Nat):Int):=by lia
  first
   | (rw[decide_eq_true q'] at h5;exact absurd h5 (by decide))
   | (simp at h5;lia)
 cases hwl with
 | cons w1 w2=>
  cases w2;cases w1 with
  | list ho hall=>exact⟨_,_,ns,rfl,rfl,ho,VV ns _ hall,hlen⟩
theorem aBj (l:OpenLaw) (args:List WData):l.row.toRowW.claim.post args (.bool true) args=true:=
 postW_of (r:=l.row.toRowW) (X:=(true == true))
  (show WShape.has [] (.bool true) .bool=true by first | rfl | decide | simp[WShape.has,WShape.arms,WShape.armsAll])
  (show (WTm.eq .res (.lit (.bool true))).value [] { args:=args,res:=some (.bool true),after:=args }=some (.bool (true == true)) from w_eq_bool (w_res rfl) w_lit) rfl
theorem attach_call {l:OpenLaw}{n:Nat}{q:Program}{loose:List Str}{XP:(Str->Option Value)->Heap->Prop}{YP:World->Heap->Prop}{d:DefRec}
  (hn:l.most=some n) (hdf:d.params.defaults=[])
  (call:∀ (w:World) (s₀ s₁:Shared) (mg mb:Str->Option Value) (fa:Addr) (o:Obj) (pm cd doc:Value) (a:Addr) (vs:List Value) (ns:List Int),
   Ground q loose [] XP w s₀ mg mb s₁.heap->YP w s₁.heap ->
   s₁.heap.get? fa=some o->o.data=.func (docDef d.name d.params d.body d.scope pm cd doc)->s₁.heap.CodeRec cd d.name->mg d.name=some (.ref fa) ->
   s₁.heap.get? a=some { cls:=.type "list",data:=.seq vs.toArray }->IntsAre vs ns->ns.length<=n->s₁.gens=#[] ->
   codeAny (model l.prog w) callerA (.call (.ref fa) ⟨[.ref a],[]⟩) (fun r s'=>r=.ok (.ret (.bool true))/\OldK s₁.heap s'.heap/\s'.os=s₁.os/\AllBare s'.gens) s₁):
  WalkO q loose XP YP l.row.toRowW d [] (fun f vs=>PySem.call f vs):=by
 intro w s₀ s₁ mg mb G Y fa o pm cd doc dV kV ho hd hcd hD hmg hg args vals as hpre hlay hrd hwl hlo;obtain rfl:dV=.none:=Dflts.none hD hdf;obtain rfl:kV=.none:=Dflts.noKw hD;obtain⟨a,vs,ns,rfl,rfl,hobj,hints,hlen⟩:=aD1 hn hpre hwl;refine enter_call (codeAny_mono (call w s₀ s₁ mg mb fa o pm cd doc a vs ns G Y ho (fd_plain hd) hcd hmg hobj hints hlen hg) fun r s' hq=>?_);obtain⟨rfl,h2,h3,h4⟩:=hq;exact⟨.inl ⟨.bool true,.bool true,[],rfl,fun _=>rfl,.bool true,aBj l _,fun _=>⟨List.Pairwise.nil,fun _ hm=>(nomatch hm)⟩⟩,h2,h3,h4⟩
section
variable {prog:Program}{w:World}{A:Around}{E:Value->Shared->Prop}{s:Shared}{K:Frag}
end
end Att
namespace L2
open PySem PySem.Spec PyProof.Rows
def defArgs (s:Stmt):Arguments:=match s with
 | .FunctionDef _ a _ _ _ _ _ _ _ _=>a
 | _=>{ posonlyargs:=[],args:=[],vararg:=none,kwonlyargs:=[],kw_defaults:=[],kwarg:=none,defaults:=[] }
def defBody (s:Stmt):List Stmt:=match s with
 | .FunctionDef _ _ b _ _ _ _ _ _ _=>b
 | _=>[]
def defScope (s:Stmt):Scope:=match s with
 | .FunctionDef _ _ _ _ _ _ sc _ _ _=>sc
 | _=>{ kind:=.function,names:=[],isGenerator:=false,isCoroutine:=false }
abbrev CX0:CXT:=fun _ _ _ _ _ _=>False
abbrev E0:XK:=fun _ _ _=>False
theorem IQ {X:Cx}:yT CX0 X E0:=fun _ _ _ _ _ _ _ h=>h.elim
structure Fun (K:PySem.W.Frag) (x qual:Str) (st:Stmt) (f:Addr) (fd:FuncData):Prop where
 ex:∃ (oc:Value) (od:Option Addr) (kV doc pm:Value) (an:Option Addr) (cdv ct:Value) (osl:Array (Option Value)),
  fd=PySem.W.fnOf x qual (defArgs st) (defBody st) (defScope st) .none kV doc pm an cdv ct/\K.lookup f=some ⟨oc,od,.func fd,osl⟩/\PySem.W.codeIn K cdv qual=true
 kp:PySem.W.keepIn K (.ref f)=true
section
variable {P:Program}{w:World}{K:PySem.W.Frag}{mg:Str->Option Value}{base:Heap}
theorem Fun.ok {x qual:Str}{st:Stmt}{f:Addr}{fd:FuncData}{N ps:List Str}{k:Nat}{sp:Sp}(F:Fun K x qual st f fd) (S:FnScope N ps (defScope st)) (len:∀ vs H Q E,sp vs H Q E->vs.length=ps.length)
  (hbody:∀ (cdv:Value) (A:Around) (outer:List Env) (s:Shared) (H:Hp) (vs:List V) (Q:VK) (E:XK),Room k (A.deeper (envOfC qual (defScope st) s.heap.objs.size f cdv))->sp vs H Q E ->
   ∃ t,PSs (aV CX0 P w K mg base N qual (defScope st) f cdv A outer s H E).nox (defBody st) t/\t { nx:=fun _ H'=>Q .non H',rt:=Q } (start N vs) H):FnOk P w K mg base CX0 (k+1) f fd ps sp:=by
 obtain⟨oc,od,kV,doc,pm,an,cdv,ct,osl,rfl,lk,hcd⟩:=F.ex;refine zS lk hcd S len fun A outer s H vs Q E hr hsp=>?_;obtain⟨t,h,q⟩:=hbody cdv A outer s H vs Q E hr hsp;exact⟨t,h.nox,q⟩
theorem Fun.binds {x qual:Str}{st:Stmt}{f:Addr}{fd:FuncData}{ps:List Str}(F:Fun K x qual st f fd)
  (h:∀ (kV doc pm:Value) (an:Option Addr) (cdv ct:Value) (us:List Value),us.length=ps.length->bindArgs (PySem.W.fnOf x qual (defArgs st) (defBody st) (defScope st) .none kV doc pm an cdv ct) ⟨us,[]⟩=pure (ps.zip us)):fH K fd ps []:=by
 obtain⟨oc,od,kV,doc,pm,an,cdv,ct,osl,rfl,lk,hcd⟩:=F.ex;exact .all (h kV doc pm an cdv ct)
theorem bG {x qual:Str}{st:Stmt}{f:Addr}{oc:Value}{od an:Option Addr}{osl:Array (Option Value)}{kV doc pm cdv ct:Value}(l:K.lookup f=some ⟨oc,od,.func (PySem.W.fnOf x qual (defArgs st) (defBody st) (defScope st) .none kV doc pm an cdv ct),osl⟩)
  (c:PySem.W.codeIn K cdv qual=true) (k:PySem.W.keepIn K (.ref f)=true):Fun K x qual st f (PySem.W.fnOf x qual (defArgs st) (defBody st) (defScope st) .none kV doc pm an cdv ct):=⟨⟨oc,od,kV,doc,pm,an,cdv,ct,osl,rfl,l,c⟩,k⟩
end
section
variable {X:Cx}
theorem pv (i:Nat) {x:Str}{pos:Pos}(hN:X.N[i]?=some x:=by rfl) (hv:Vis X.env.scope x:=by first | exact Or.inl rfl | exact Or.inr (Or.inl rfl) | exact Or.inr (Or.inr rfl)) (hd:(x == ("__debug__" : Str))=false:=by decide)
  (hcd:(x == ("__classdict__" : Str))=false:=by decide):PE X (.Name x pos) (LA i):=aB7 hN hv hd hcd
end
theorem jC {A B:Prop}(h:B):if false=true then A else B:=by
 rw[if_neg aHr];exact h
theorem jD {A B:Prop}(h:A):if true=true then A else B:=by
 rw[if_pos rfl];exact h
def aP (H H':Hp):Prop:=∀ b o,H b=some o->H' b=some o
theorem aP.refl (H:Hp):aP H H:=fun _ _ h=>h
theorem aP.trans {H H1 H2:Hp}(a:aP H H1) (b:aP H1 H2):aP H H2:=fun c o h=>b c o (a c o h)
theorem aP.free {H H':Hp}(e:aP H H') {l:Addr}(h:H' l=Option.none):H l=Option.none:=by
 cases q:H l with
 | none=>rfl
 | some o=>
  rw[e l o q] at h;cases h
section
variable {κ:Type} [DecidableEq κ]
end
abbrev KT (H:Hp):List (List Key × V)->List (List Key × Addr × Value)->Prop:=Paired fun p q=>p.1=q.1/\H q.2.1=some (.tup (p.1.map kV))/\aX p.2 q.2.2
section
variable {P:Program}{w:World}{H:Hp}{h:Heap}{a:Addr}
theorem aCc {u:HO}(ok:HOk P w H h) (e:Rd H a u):cL P w H h a u:=e.ok ok
theorem SL {kvs:List (Key × V)}(ok:HOk P w H h) (e:Rd H a (.dK kvs)):kvs.length<=sizeLine/\(a == sysModules)=false/\∃ vs,KV kvs vs/\h.DictOf (sC P w) a vs:=
 show cL P w H h a (.dK kvs) from aCc ok e
theorem SK {kvs:List (Key × V)}(ok:HOk P w H h) (e:H a=some (.dK kvs)):kvs.length<=sizeLine/\(a == sysModules)=false/\∃ vs,KV kvs vs/\h.DictOf (sC P w) a vs:=SL ok (.inl e)
end
section
variable {X:Cx}{pins:List (Addr × Obj)}{σ:St}{H:Hp}{s:Shared}{a:Addr}{y v:V}{u r:Value}{o:Option V}{A:Around}{E:Value->Shared->Prop}
end
section
variable {X:Cx}{pins:List (Addr × Obj)}{σ:St}{H:Hp}{s:Shared}{a:Addr}{kvs:List (Key × V)}{k:Key}{u:Value}{A:Around}{E:Value->Shared->Prop}
end
section
variable {X:Cx}{o i e value:Expr}{pos pos' tpos:Pos}{td ty tv:TE}
end
section
variable {X:Cx}{pos:Pos}
end
structure M1 (X:Cx) (o:Expr) (m:Str) (apos:Pos) (e:Expr) (cpos:Pos):Prop where
 base:attributeBase o m X.env (eval o X.env)=eval o X.env
 few:((backTo cpos (starEach [e] X.env)).all (fun x=>!x.1)&&(backToKw cpos (keywordEach [] X.env)).all (fun x=>x.1.isSome)
  && decide (([e]:List Expr).length+([]:List Keyword).length+(if ([]:List Keyword).isEmpty then 0 else 1)<30))=true
 line:(apos.endLine == cpos.line)=true
 trees:backTo cpos (starEach [e] X.env)=[(false,eval e X.env)]
section
variable {X:Cx}{pins:List (Addr × Obj)}{σ:St}{H:Hp}{s:Shared}{a:Addr}{y d:V}{u r:Value}{o:Option V}{A:Around}{E:Value->Shared->Prop}
end
section
variable {X:Cx}{o e f:Expr}{apos cpos:Pos}{td ty tx:TE}
end
section
variable {X:Cx}{pins:List (Addr × Obj)}{σ:St}{H:Hp}{s:Shared}{a:Addr}{kvs:List (Key × V)}{A:Around}{E:Value->Shared->Prop}
end
section
variable {X:Cx}{pins:List (Addr × Obj)}{σ:St}{H:Hp}{s:Shared}{a:Addr}{y:V}{u:Value}{A:Around}{E:Value->Shared->Prop}
end
end L2
set_option maxHeartbeats 4000000
namespace L2
open PySem PySem.Spec PyProof.Rows
def pX (a:Addr) (cls:Value):HO:=.ext fun h=>∃ oe vs,h.get? a=some oe/\oe.cls=cls/\oe.data=.fields vs
end L2
namespace G
open PySem PySem.Spec PyProof.Rows L2
abbrev St:=L2.St
inductive T where
 | non | bl (b : Bool) | int (i : Int) | str (x : Str) | lst (xs : List T) | tup (xs : List T)
 /-- an exception, by its class's name -/
 | exc (nm : Str)
 /-- a dict of ints, all of them to True -/
 | dct (ks : List Int)
 /-- a list that one name alone has, with all that lies in it (only in a slot that changes) -/
 | own (ts : List T)
abbrev Rho:=List (Option T)
def KL (K:PySem.W.Frag) (a:Addr) (xs:List V):Prop:=
 ∃ (o:Obj) (its:Array Value) (n:Nat),K.lookup a=some o/\o.cls=.type "list" /\ o.dict=none/\o.data=.seq its n/\its.size<=sizeLine/\aL xs its.toList
def KT (K:PySem.W.Frag) (a:Addr) (xs:List V):Prop:=
 ∃ (o:Obj) (its:Array Value) (n:Nat),K.lookup a=some o/\o.cls=.type "tuple" /\ o.data=.seq its n/\its.size<=sizeLine/\aL xs its.toList
def eR (K:PySem.W.Frag) (nm:Str) (C:Addr):Prop:=
 PySem.W.nsIn K mainGlobals nm=some (some (.ref C))/\(∀ a:Addr,PySem.W.KitX K (.ref a) (.ref C) (fun h=>∃ oe,h.get? a=some oe/\oe.cls=.ref C)) /\
 ∀ c∈(["int","bool","list","tuple","str"]:List String),PySem.W.kitOne K (.ref C) (.type c)=some false
def dkv (ks:List Int):List (Key × V):=ks.map fun k=>(.inl k,.bl true)
mutual
def Rep (K:PySem.W.Frag) (H:Hp) (A:Addr->Prop):T->V->Prop
 | .non,v=>v=.non
 | .bl b,v=>v=.bl b
 | .int i,v=>v=.int i
 | .str x,v=>v=.str x
 | .lst ts,v=>∃ a xs,v=.ref a/\((A a/\Rd H a (.lst xs))\/KL K a xs)/\RepL K H A ts xs
 | .tup ts,v=>∃ a xs,v=.ref a/\(Rd H a (.tup xs)\/KT K a xs)/\RepL K H A ts xs
 | .exc nm,v=>∃ (a C:Addr),v=.ref a/\eR K nm C/\Rd H a (pX a (.ref C))
 | .dct ks,v=>∃ a,v=.ref a/\A a/\H a=some (.dK (dkv ks))
 | .own ts,v=>∃ a xs,v=.ref a/\A a/\H a=some (.lst xs)/\RepL K H A ts xs
def RepL (K:PySem.W.Frag) (H:Hp) (A:Addr->Prop):List T->List V->Prop
 | [],xs=>xs=[]
 | t::ts,xs=>∃ x r,xs=x::r/\Rep K H A t x/\RepL K H A ts r
end
theorem eL {H H':Hp}{a:Addr}{u:HO}(k:∀ o,H a=some o->H' a=some o) (h:Rd H a u):Rd H' a u:=by
 rcases h with h | ⟨o,h⟩
 ·exact .inl (k _ h)
 ·exact .inr ⟨o,k _ h⟩
abbrev Fix:={ u:HO // (∀ ys,u≠.lst ys)/\∀ ys,u≠.dK ys }
theorem gU {H:Hp}{a b:Addr}{xs ys:List V}{u:Fix}(ha:H a=some (.lst xs)) (h:Rd H b u.1):Rd (upd H a (.lst ys)) b u.1:=
 eL (fun o q=>by
  have:b≠a:=fun z=>by
   subst z;rcases h with h | ⟨o',h⟩<;>rw[ha] at h
   ·exact u.2.1 xs (aHa h).symm
   ·cases h
  rw[aR this];exact q) h
theorem xG {H:Hp}{a:Addr}{u:HO}(h:Rd H a u):H a≠none:=by
 rcases h with h | ⟨o,h⟩<;>rw[h]<;>simp
section
variable {K:PySem.W.Frag}{H H':Hp}{A A':Addr->Prop}
mutual
theorem Rep.keep (kt:∀ b (u:Fix),Rd H b u.1->Rd H' b u.1) (k:∀ b o,A b->H b=some o->H' b=some o) (hA:∀ b,A b->H b≠none->A' b):∀ (t:T) {v:V},Rep K H A t v->Rep K H' A' t v
 | .non,_,h=>h
 | .bl _,_,h=>h
 | .int _,_,h=>h
 | .str _,_,h=>h
 | .lst ts,_,h=>by
  obtain⟨a,xs,e,c,r⟩:=h;refine⟨a,xs,e,?_,RepL.keep kt k hA ts r⟩;rcases c with ⟨c1,c2⟩ | c
  ·exact .inl ⟨hA a c1 (xG c2),eL (fun o e=>k a o c1 e) c2⟩
  ·exact .inr c
 | .tup ts,_,h=>by
  obtain⟨a,xs,e,c,r⟩:=h;refine⟨a,xs,e,?_,RepL.keep kt k hA ts r⟩;rcases c with c | c
  ·exact .inl (kt a ⟨.tup xs,(fun _ z=>by cases z),fun _ z=>by cases z⟩ c)
  ·exact .inr c
 | .exc _,_,h=>by
  obtain⟨a,C,e,c,r⟩:=h;exact⟨a,C,e,c,kt a ⟨pX a (.ref C),(fun _ z=>by cases z),fun _ z=>by cases z⟩ r⟩
 | .dct _,_,h=>by
  obtain⟨a,e,c,r⟩:=h;exact⟨a,e,hA a c (by rw[r];simp),k a _ c r⟩
 | .own ts,_,h=>by
  obtain⟨a,xs,e,c,r,q⟩:=h;exact⟨a,xs,e,hA a c (by rw[r];simp),k a _ c r,RepL.keep kt k hA ts q⟩
theorem RepL.keep (kt:∀ b (u:Fix),Rd H b u.1->Rd H' b u.1) (k:∀ b o,A b->H b=some o->H' b=some o) (hA:∀ b,A b->H b≠none->A' b):∀ (ts:List T) {xs:List V},RepL K H A ts xs->RepL K H' A' ts xs
 | [],_,h=>h
 | t::ts,_,h=>by
  obtain⟨x,r,e,h1,h2⟩:=h;exact⟨x,r,e,Rep.keep kt k hA t h1,RepL.keep kt k hA ts h2⟩
end
theorem Rep.grow {t:T}{v:V}(s:aP H H') (h:Rep K H A t v):Rep K H' A t v:=Rep.keep (fun b _ e=>eL (fun o q=>s b o q) e) (fun b o _ e=>s b o e) (fun _ x _=>x) t h
theorem RepL.grow {ts:List T}{xs:List V}(s:aP H H') (h:RepL K H A ts xs):RepL K H' A ts xs:=RepL.keep (fun b _ e=>eL (fun o q=>s b o q) e) (fun b o _ e=>s b o e) (fun _ x _=>x) ts h
theorem Rep.weak {t:T}{v:V}(f:∀ b,A b->A' b) (h:Rep K H A t v):Rep K H A' t v:=Rep.keep (fun _ _ e=>e) (fun _ _ _ e=>e) (fun b x _=>f b x) t h
theorem RepL.weak {ts:List T}{xs:List V}(f:∀ b,A b->A' b) (h:RepL K H A ts xs):RepL K H A' ts xs:=RepL.keep (fun _ _ e=>e) (fun _ _ _ e=>e) (fun b x _=>f b x) ts h
theorem RepL.avoid {ts:List T}{xs:List V}{a:Addr}(n:H a=none) (h:RepL K H A ts xs):RepL K H (fun b=>A b/\b≠a) ts xs:=
 RepL.keep (fun _ _ e=>e) (fun _ _ _ e=>e) (fun b x y=>⟨x,fun z=>y (z ▸ n)⟩) ts h
theorem RepL.length:∀ {ts:List T}{xs:List V},RepL K H A ts xs->ts.length=xs.length
 | [],_,h=>by cases (show _=[] from h);rfl
 | _::ts,_,h=>by
  obtain⟨x,r,e,_,h2⟩:=h;subst e;simp[RepL.length h2]
theorem RepL.get:∀ {ts:List T}{xs:List V}{i:Nat}{t:T},RepL K H A ts xs->ts[i]?=some t->∃ x,xs[i]?=some x/\Rep K H A t x
 | [],_,_,_,_,e=>by simp at e
 | _::ts,_,0,_,h,e=>by
  obtain⟨x,r,e1,h1,_⟩:=h;subst e1;simp at e;subst e;exact⟨x,rfl,h1⟩
 | _::ts,_,i+1,_,h,e=>by
  obtain⟨x,r,e1,_,h2⟩:=h;subst e1;obtain⟨y,q,h3⟩:=RepL.get (i:=i) h2 (by simpa using e);exact⟨y,by simpa using q,h3⟩
theorem RepL.app:∀ {ts us:List T}{xs ys:List V},RepL K H A ts xs->RepL K H A us ys->RepL K H A (ts++us) (xs++ys)
 | [],_,_,_,h,q=>by cases (show _=[] from h);exact q
 | _::ts,_,_,_,h,q=>by
  obtain⟨x,r,e,h1,h2⟩:=h;subst e;exact⟨x,r++_,rfl,h1,RepL.app h2 q⟩
theorem RepL.one {t:T}{x:V}(h:Rep K H A t x):RepL K H A [t] [x]:=⟨x,[],rfl,h,rfl⟩
theorem RepL.take:∀ {ts:List T}{xs:List V}(n:Nat),RepL K H A ts xs->RepL K H A (ts.take n) (xs.take n)
 | _,_,0,_=>by simp[RepL]
 | [],_,_+1,h=>by cases (show _=[] from h);simp[RepL]
 | _::ts,_,n+1,h=>by
  obtain⟨x,r,e,h1,h2⟩:=h;subst e;exact⟨x,r.take n,rfl,h1,RepL.take n h2⟩
theorem RepL.drop:∀ {ts:List T}{xs:List V}(n:Nat),RepL K H A ts xs->RepL K H A (ts.drop n) (xs.drop n)
 | _,_,0,h=>by simpa using h
 | [],_,_+1,h=>by cases (show _=[] from h);simp[RepL]
 | _::ts,_,n+1,h=>by
  obtain⟨x,r,e,h1,h2⟩:=h;subst e
  simpa using RepL.drop n h2
theorem RepL.set:∀ {ts:List T}{xs:List V}{t:T}{x:V}(n:Nat),Rep K H A t x->RepL K H A ts xs->RepL K H A (ts.set n t) (xs.set n x)
 | [],_,_,_,n,_,h=>by cases (show _=[] from h);simp[RepL]
 | _::ts,_,_,_,0,q,h=>by
  obtain⟨x,r,e,h1,h2⟩:=h;subst e;exact⟨_,r,rfl,q,h2⟩
 | _::ts,_,_,_,n+1,q,h=>by
  obtain⟨x,r,e,h1,h2⟩:=h;subst e;exact⟨x,_,rfl,h1,RepL.set n q h2⟩
theorem Rep.sqL {ts:List T}{v:V}(h:Rep K H A (.lst ts) v):∃ a xs,v=.ref a/\SqL K H a xs/\RepL K H A ts xs:=by
 obtain⟨a,xs,e,c,r⟩:=h;refine⟨a,xs,e,?_,r⟩;rcases c with ⟨_,c⟩ | c
 ·exact .inl c
 ·exact .inr c
theorem Rep.sqT {ts:List T}{v:V}(h:Rep K H A (.tup ts) v):∃ a xs,v=.ref a/\SqT K H a xs/\RepL K H A ts xs:=by
 obtain⟨a,xs,e,c,r⟩:=h;exact⟨a,xs,e,c,r⟩
end
def scal:T->Bool
 | .lst _=>false
 | .tup _=>false
 | .exc _=>false
 | .dct _=>false
 | .own _=>false
 | _=>true
def tv:T->V
 | .non=>.non
 | .bl b=>.bl b
 | .int i=>.int i
 | .str x=>.str x
 | _=>.non
theorem JV {K:PySem.W.Frag}{H:Hp}{A:Addr->Prop}{t:T}{v:V}(h:scal t=true):Rep K H A t v ↔ v=tv t:=by
 cases t<;>first | exact Iff.rfl | (simp[scal] at h)
mutual
def im:T->Bool
 | .lst _=>false
 | .dct _=>false
 | .own _=>false
 | .tup ts=>imL ts
 | _=>true
def imL:List T->Bool
 | []=>true
 | t::ts=>im t&&imL ts
end
section
variable {K:PySem.W.Frag}{H H':Hp}{A A':Addr->Prop}
mutual
theorem xJ (kt:∀ b (u:Fix),Rd H b u.1->Rd H' b u.1):∀ (t:T) {v:V},im t=true->Rep K H A t v->Rep K H' A' t v
 | .non,_,_,h=>h
 | .bl _,_,_,h=>h
 | .int _,_,_,h=>h
 | .str _,_,_,h=>h
 | .lst _,_,e,_=>by simp[im] at e
 | .tup ts,_,e,h=>by
  obtain⟨a,xs,e1,c,r⟩:=h;refine⟨a,xs,e1,?_,repL_imk kt ts (by simpa [im] using e) r⟩;rcases c with c | c
  ·exact .inl (kt a ⟨.tup xs,(fun _ z=>by cases z),fun _ z=>by cases z⟩ c)
  ·exact .inr c
 | .exc _,_,_,h=>by
  obtain⟨a,C,e,c,r⟩:=h;exact⟨a,C,e,c,kt a ⟨pX a (.ref C),(fun _ z=>by cases z),fun _ z=>by cases z⟩ r⟩
 | .dct _,_,e,_=>by simp[im] at e
 | .own _,_,e,_=>by simp[im] at e
theorem repL_imk (kt:∀ b (u:Fix),Rd H b u.1->Rd H' b u.1):∀ (ts:List T) {xs:List V},imL ts=true->RepL K H A ts xs->RepL K H' A' ts xs
 | [],_,_,h=>h
 | t::ts,_,e,h=>by
  obtain⟨x,r,e1,h1,h2⟩:=h;have e':im t=true/\imL ts=true:=by simpa [imL] using e
  exact⟨x,r,e1,xJ kt t e'.1 h1,repL_imk kt ts e'.2 h2⟩
end
theorem qR (t:T) {v:V}(h:im t=true) (r:Rep K H A t v):Rep K H A' t v:=xJ (fun _ _ e=>e) t h r
end
def cH (ts:List T):Bool:=ts.all im
theorem xI {K:PySem.W.Frag}{H:Hp}{A A':Addr->Prop}:∀ {ts:List T}{xs:List V},cH ts=true->RepL K H A ts xs->RepL K H A' ts xs
 | [],_,_,h=>h
 | t::ts,_,f,h=>by
  obtain⟨x,r,e,h1,h2⟩:=h;have f':im t=true/\cH ts=true:=by simpa [cH] using f
  exact⟨x,r,e,qR t f'.1 h1,xI f'.2 h2⟩
theorem EX:∀ {ts:List T},cH ts=true->imL ts=true
 | [],_=>rfl
 | t::ts,f=>by
  have f':im t=true/\cH ts=true:=by simpa [cH] using f
  simp[imL,f'.1,EX f'.2]
def Ad (B H:Hp) (M:List Addr) (l:Nat) (a:Addr):Prop:=(1<=l->a ∉ M)/\(2<=l->B a=none)/\(3<=l->H a=none)
theorem Ad.le {B H:Hp}{M:List Addr}{l l':Nat}{a:Addr}(h:Ad B H M l a) (k:l'<=l):Ad B H M l' a:=
 ⟨fun z=>h.1 (by lia),fun z=>h.2.1 (by lia),fun z=>h.2.2 (by lia)⟩
theorem Ad.zero {B H:Hp}{M:List Addr}{a:Addr}:Ad B H M 0 a:=⟨fun z=>by lia,fun z=>by lia,fun z=>by lia⟩
def aO (K:PySem.W.Frag) (B H:Hp) (M:List Addr) (H':Hp):Bool->Nat->T->V->Prop
 | true,l,.lst ts,v=>∃ a xs,v=.ref a/\H a=none/\H' a=some (.lst xs)/\RepL K H' (fun b=>Ad B H M l b/\b≠a) ts xs
 | _,l,t,v=>Rep K H' (Ad B H M l) t v
def dG:T->Nat->List T->Prop
 | .lst ts,c,us=>c=0/\us=ts
 | .tup ts,c,us=>ts[c]?=some (.lst us)
 | .dct _,c,us=>c=0/\us=[]
 | .own ts,c,us=>us=[]/\c<=ts.length
 | _,_,_=>False
def jU:T->Bool
 | .own _=>true
 | _=>false
def gG (H:Hp):T->Addr->List V->Prop
 | .dct ks,a,_=>H a=some (.dK (dkv ks))
 | .own _,a,_=>H a≠none
 | _,a,xs=>H a=some (.lst xs)
theorem gG.keep {H H':Hp}{t:T}{a:Addr}{xs:List V}(k:∀ o,H a=some o->H' a=some o) (h:gG H t a xs):gG H' t a xs:=by
 cases t with
 | own ts=>
  cases e:H a with
  | none=>exact absurd e h
  | some o=>show H' a≠none;rw[k o e];simp
 | _=>exact k _ h
theorem gG.some {H:Hp}{t:T}{a:Addr}{xs:List V}(h:gG H t a xs):H a≠none:=by
 cases t with
 | own ts=>exact h
 | dct ks=>rw[show H a=Option.some (.dK (dkv ks)) from h];simp
 | _=>rw[show H a=Option.some (.lst xs) from h];simp
def eU (K:PySem.W.Frag) (H:Hp):T->V->(Nat->Addr)->Prop
 | .lst _,v,ga=>v=.ref (ga 0)
 | .dct _,v,ga=>v=.ref (ga 0)
 | .own ts,v,ga=>v=.ref (ga 0)/\∃ xs,H (ga 0)=some (.lst xs)/\ts.length=xs.length/\∀ (d:Nat) (t:T),ts[d]?=some t->ga (d+1)≠ga 0/\xs[d]?=some (.ref (ga (d+1)))/\∃ us ys,t=.lst us/\cH us=true/\H (ga (d+1))=some (.lst ys)/\RepL K H (fun _=>True) us ys
 | .tup ts,v,ga=>∃ p vs,v=.ref p/\Rd H p (.tup vs)/\ts.length=vs.length/\∀ (c:Nat) (t:T),ts[c]?=some t->(∃ us,t=.lst us/\vs[c]?=some (.ref (ga c)))\/(im t=true/\∃ w,vs[c]?=some w/\Rep K H (fun _=>True) t w)
 | _,_,_=>False
theorem eU.keep {K:PySem.W.Frag}{H H':Hp}{t:T}{v:V}{ga:Nat->Addr}(kt:∀ b (u:Fix),Rd H b u.1->Rd H' b u.1) (ko:jU t=true->∀ c o,dG t c []->H (ga c)=some o->H' (ga c)=some o) (h:eU K H t v ga):eU K H' t v ga:=by
 cases t with
 | tup ts=>
  obtain⟨p,vs,h1,h2,h3,h4⟩:=h;refine⟨p,vs,h1,kt p ⟨.tup _,(fun _ z=>by cases z),fun _ z=>by cases z⟩ h2,h3,fun c u e=>?_⟩;rcases h4 c u e with h | ⟨hi,w,e1,r⟩
  ·exact .inl h
  ·exact .inr ⟨hi,w,e1,xJ kt u hi r⟩
 | own ts=>
  obtain⟨h1,xs,h2,h3,h4⟩:=h;refine⟨h1,xs,ko rfl 0 _ ⟨rfl,aJx _⟩ h2,h3,fun d t e=>?_⟩;obtain⟨k1,k2,us,ys,k3,k4,k5,k6⟩:=h4 d t e;refine⟨k1,k2,us,ys,k3,k4,ko rfl (d+1) _ ⟨rfl,(aHf.mp e).1⟩ k5,repL_imk kt us ?_ k6⟩;exact EX k4
 | _=>exact h
theorem eU.grow {K:PySem.W.Frag}{H H':Hp}{t:T}{v:V}{ga:Nat->Addr}(s:aP H H') (h:eU K H t v ga):eU K H' t v ga:=h.keep (fun b _ e=>eL (fun o q=>s b o q) e) fun _ c o _ e=>s _ o e
theorem BS {K:PySem.W.Frag}{H:Hp}{A:Addr->Prop}:∀ {ts:List T}{vs:List V},ts.length=vs.length->(∀ (c:Nat) (t:T) (w:V),ts[c]?=some t->vs[c]?=some w->Rep K H A t w)->RepL K H A ts vs
 | [],[],_,_=>rfl
 | [],_::_,h,_=>by cases h
 | _::_,[],h,_=>by cases h
 | t::ts,v::vs,h,k=>⟨v,vs,rfl,k 0 t v rfl rfl,BS (by simpa using h) fun c u w e e'=>k (c+1) u w (by simpa using e) (by simpa using e')⟩
theorem eU.rep {K:PySem.W.Frag}{H:Hp}{A:Addr->Prop}{t:T}{v:V}{ga:Nat->Addr}(hA:∀ b,A b) (h:eU K H t v ga) (r:∀ c us,dG t c us->∃ xs,gG H t (ga c) xs/\RepL K H A us xs):Rep K H A t v:=by
 cases t with
 | lst ts=>
  obtain⟨xs,e,r⟩:=r 0 ts ⟨rfl,rfl⟩;exact⟨ga 0,xs,h,.inl ⟨hA _,.inl e⟩,r⟩
 | tup ts=>
  obtain⟨p,vs,h1,h2,h3,h4⟩:=h;refine⟨p,vs,h1,.inl h2,BS h3 fun c u w e e'=>?_⟩;rcases h4 c u e with ⟨us,rfl,e1⟩ | ⟨hi,w',e1,q⟩
  ·obtain⟨xs,e2,r⟩:=r c us e
   rw[e'] at e1;exact⟨ga c,xs,aHa e1,.inl ⟨hA _,.inl e2⟩,r⟩
  ·rw[e'] at e1
   cases (aHa e1);exact qR u hi q
 | non=>exact h.elim
 | bl _=>exact h.elim
 | int _=>exact h.elim
 | str _=>exact h.elim
 | exc _=>exact h.elim
 | dct ks=>
  obtain⟨xs,e,_⟩:=r 0 [] ⟨rfl,rfl⟩;exact⟨ga 0,h,hA _,e⟩
 | own ts=>
  obtain⟨h1,xs,h2,h3,h4⟩:=h;refine⟨ga 0,xs,h1,hA _,h2,BS h3 fun d t w e e'=>?_⟩;obtain⟨_,k2,us,ys,rfl,k4,k5,k6⟩:=h4 d t e;rw[k2] at e';exact⟨ga (d+1),ys,(aHa e').symm,.inl ⟨hA _,.inl k5⟩,k6.weak fun b _=>hA b⟩
def lc (fl:List Nat):Nat:=if fl.contains 3 then 1 else 2
theorem mT (fl:List Nat):lc fl<=2:=by unfold lc;split<;>decide
theorem qK (fl:List Nat):1<=lc fl:=by unfold lc;split<;>decide
def DI (K:PySem.W.Frag) (B:Hp) (lv:Nat) (M:List Addr) (H:Hp) (t:T) (v:V) (ga:Nat->Addr):Prop:=
 eU K H t v ga/\∀ c us,dG t c us->∃ xs,gG H t (ga c) xs/\RepL K H (Ad B H M lv) us xs/\ga c∈M
theorem rW {t:T}{c:Nat}{us:List T}(h:dG t c us):im t=false:=by
 cases t with
 | lst _=>rfl
 | dct _=>rfl
 | own _=>rfl
 | tup ts=>
  show imL ts=false;have:ts[c]?=some (.lst us):=h
  clear h
  induction ts generalizing c with
  | nil=>cases this
  | cons a r ih=>
   cases c with
   | zero=>cases (aHa (show some a=some (T.lst us) from this));simp[imL,im]
   | succ c=>simp[imL,ih (show r[c]?=some (T.lst us) from this)]
 | _=>exact h.elim
structure Sl (K:PySem.W.Frag) (B:Hp) (fl:List Nat) (Ex:List (T × V)) (σ:St) (ρ:Rho) (M:List Addr) (H:Hp):Prop where
 same:aP B H
 slot:∀ i t,ρ[i]?=some (some t)->(1<=fl.getD i 1\/im t=true)->∃ v,σ[i]?=some (some v)/\Rep K H (Ad B H M (min (fl.getD i 1) 2)) t v
 mu:∃ g:Nat->Nat->Addr,(∀ i t,ρ[i]?=some (some t)->fl.getD i 1=0->im t=false->∃ v,σ[i]?=some (some v)/\DI K B (lc fl) M H t v (g i)) /\
  ∀ i j c d t u us ws,(i≠j\/c≠d/\jU t=false)->ρ[i]?=some (some t)->ρ[j]?=some (some u)->fl.getD i 1=0->fl.getD j 1=0->dG t c us->dG u d ws->g i c≠g j d
 ex:∀ p∈Ex,Rep K H (Ad B H M 1) p.1 p.2
 mB:∀ a∈M,B a=none/\H a≠none
 len:fl.length<=σ.length
section
variable {K:PySem.W.Frag}{B H H' H1:Hp}{fl:List Nat}{Ex:List (T × V)}{σ:St}{ρ:Rho}{M:List Addr}{n:Bool}{l l':Nat}{t:T}{v:V}
theorem Ad.any {a:Addr}(h:Ad B H M l a) (k:l<=2):Ad B H1 M l a:=⟨h.1,h.2.1,fun z=>by lia⟩
theorem Sl.grow (S:Sl K B fl Ex σ ρ M H) (s:aP H H'):Sl K B fl Ex σ ρ M H' where
 same:=S.same.trans s
 slot:=fun i t e k=>by
  obtain⟨v,e1,r⟩:=S.slot i t e k;exact⟨v,e1,(r.grow s).weak fun b x=>x.any (by lia)⟩
 mu:=by
  obtain⟨g,hg,ap⟩:=S.mu;refine⟨g,fun i t e k hm=>?_,ap⟩;obtain⟨v,e1,e2,e3⟩:=hg i t e k hm;refine⟨v,e1,e2.grow s,fun c us h=>?_⟩;obtain⟨xs,q1,q2,q3⟩:=e3 c us h;exact⟨xs,q1.keep (s _),(q2.grow s).weak fun b x=>x.any (mT fl),q3⟩
 ex:=fun p hp=>((S.ex p hp).grow s).weak fun b x=>x.any (by lia)
 mB:=fun a ha=>⟨(S.mB a ha).1,fun z=>(S.mB a ha).2 (s.free z)⟩
 len:=S.len
theorem Sl.muL (S:Sl K B fl Ex σ ρ M H) (i:Nat) (us:List T) (e:ρ[i]?=some (some (.lst us))) (k:fl.getD i 1=0):∃ a ts xs,T.lst us=.lst ts/\σ[i]?=some (some (.ref a))/\H a=some (.lst xs)/\RepL K H (Ad B H M (lc fl)) ts xs/\a∈M:=by
 obtain⟨g,hg,_⟩:=S.mu;obtain⟨v,e1,e2,e3⟩:=hg i _ e k rfl;obtain⟨xs,q1,q2,q3⟩:=e3 0 us ⟨rfl,rfl⟩;cases (show v=.ref (g i 0) from e2);exact⟨g i 0,us,xs,rfl,e1,q1,q2,q3⟩
theorem aO.rep (S:Sl K B fl Ex σ ρ M H) (h:aO K B H M H' n l t v):Rep K H' (Ad B H M l) t v:=by
 cases n with
 | false=>cases t<;>exact h
 | true=>
  cases t with
  | lst ts=>
   obtain⟨a,xs,e,h1,h2,r⟩:=h;exact⟨a,xs,e,.inl ⟨⟨fun _ z=>(S.mB a z).2 h1,fun _=>S.same.free h1,fun _=>h1⟩,.inl h2⟩,r.weak fun b x=>x.1⟩
  | non=>exact h
  | bl _=>exact h
  | int _=>exact h
  | str _=>exact h
  | tup _=>exact h
  | exc _=>exact h
  | dct _=>exact h
  | own _=>exact h
theorem Ad.since {a:Addr}(s:aP H H1) (h:Ad B H1 M l a):Ad B H M l a:=⟨h.1,h.2.1,fun z=>s.free (h.2.2 z)⟩
theorem aO.since (s:aP H H1) (h:aO K B H1 M H' n l t v):aO K B H M H' n l t v:=by
 cases n with
 | false=>cases t<;>exact Rep.weak (fun b x=>Ad.since s x) h
 | true=>
  cases t with
  | lst ts=>
   obtain⟨a,xs,e,h1,h2,r⟩:=h;exact⟨a,xs,e,s.free h1,h2,r.weak fun b x=>⟨x.1.since s,x.2⟩⟩
  | non=>exact h
  | bl _=>exact h
  | int _=>exact h
  | str _=>exact h
  | tup _=>exact Rep.weak (fun b x=>Ad.since s x) h
  | exc _=>exact h
  | dct _=>exact Rep.weak (fun b x=>Ad.since s x) h
  | own _=>exact Rep.weak (fun b x=>Ad.since s x) h
theorem aO.scal (h:scal t=true):aO K B H M H' n l t v ↔ v=tv t:=by
 cases n<;>cases t<;>first | exact Iff.rfl | (simp[G.scal] at h)
theorem aO.laid {ts:List T}{xs:List V}{p:Addr}(s:aP H H1) (hp:H1 p=none) (r:RepL K H1 (Ad B H M l) ts xs):aO K B H M (upd H1 p (.lst xs)) true l (.lst ts) (.ref p):=by
 refine⟨p,xs,rfl,s.free hp,cP,?_⟩;exact (r.avoid hp).keep (fun b ys e=>eL (fun o q=>by rw[aR (fun z=>by rw[z,hp] at q;cases q)];exact q) e) (fun b o x e=>by rw[aR x.2];exact e) (fun b x _=>x) ts
end
theorem cX {H:Hp}{p:Addr}(h:H p=none) (o:HO):aP H (upd H p o):=fun b u q=>by rw[aR (fS q h)];exact q
def tG (K:PySem.W.Frag) (B:Hp) (fl:List Nat) (f:Rho->Option T) (n:Bool) (l:Nat):TE:=fun σ H Q=>
 ∃ Ex ρ M t,Sl K B fl Ex σ ρ M H/\f ρ=some t/\∀ v H',aP H H'->aO K B H M H' n l t v->Q v H'
def GE (X:Cx) (B:Hp) (fl:List Nat) (e:Expr) (f:Rho->Option T) (n:Bool) (l:Nat):Prop:=PE X e (tG X.K B fl f n l)
def tGT (K:PySem.W.Frag) (B:Hp) (fl:List Nat) (f:Rho->Option Bool):TT:=fun σ H Q=>
 ∃ Ex ρ M b,Sl K B fl Ex σ ρ M H/\f ρ=some b/\∀ H',aP H H'->Q b H'
def GT (X:Cx) (B:Hp) (fl:List Nat) (e:Expr) (f:Rho->Option Bool):Prop:=PT X e (tGT X.K B fl f)
def GW (X:Cx) (B:Hp) (fl:List Nat) (e:Expr) (f:Rho->Option Bool):Prop:=PW X e (tGT X.K B fl f)
def tGA (K:PySem.W.Frag) (B:Hp) (fl:List Nat) (f:Rho->Option (List T)) (l:Nat):TA:=fun σ H Q=>
 ∃ Ex ρ M ts,Sl K B fl Ex σ ρ M H/\f ρ=some ts/\∀ vs H',aP H H'->RepL K H' (Ad B H M l) ts vs->Q vs H'
def GA (X:Cx) (B:Hp) (fl:List Nat) (es:List Expr) (f:Rho->Option (List T)) (l:Nat):Prop:=PA X es (tGA X.K B fl f l)
theorem bB {X:Cx}{e:Expr}{t t':TE}(h:PE X e t) (k:∀ σ H Q,t' σ H Q->t σ H Q):PE X e t':=fun pins s σ H Q I q=>h pins s σ H Q I (k σ H Q q)
theorem BL {X:Cx}{e:Expr}{t t':TT}(h:PT X e t) (k:∀ σ H Q,t' σ H Q->t σ H Q):PT X e t':=fun pins s σ H Q I q=>h pins s σ H Q I (k σ H Q q)
theorem aC3 {X:Cx}{e:Expr}{t t':TT}(h:PW X e t) (k:∀ σ H Q,t' σ H Q->t σ H Q):PW X e t':=fun wh pins s σ H Q I q=>h wh pins s σ H Q I (k σ H Q q)
theorem xC {X:Cx}{es:List Expr}{t t':TA}(h:PA X es t) (k:∀ σ H Q,t' σ H Q->t σ H Q):PA X es t':=fun pos pins s σ H Q I q=>h pos pins s σ H Q I (k σ H Q q)
theorem eK {X:Cx}{st:Stmt}{t t':TS}(h:PS X st t) (k:∀ D σ H,t' D σ H->t D σ H):PS X st t':=fun pins s σ H D I q=>h pins s σ H D I (k D σ H q)
theorem JH {X:Cx}{st:List Stmt}{t t':TS}(h:PSs X st t) (k:∀ D σ H,t' D σ H->t D σ H):PSs X st t':=fun pins s σ H D I q=>h pins s σ H D I (k D σ H q)
def aA (i:Nat):Rho->Option T:=fun ρ=>(ρ[i]?).join
def fC (t:T):Rho->Option T:=fun _=>some t
def f1 (f:Rho->Option T) (F:T->Option T):Rho->Option T:=fun ρ=>(f ρ).bind F
def f2 (f g:Rho->Option T) (F:T->T->Option T):Rho->Option T:=fun ρ=>(f ρ).bind fun x=>(g ρ).bind fun y=>F x y
def aF:Rho->Option (List T):=fun _=>some []
def aC (f:Rho->Option T) (g:Rho->Option (List T)):Rho->Option (List T):=fun ρ=>(f ρ).bind fun x=>(g ρ).bind fun y=>some (x::y)
def aW:T->Option T:=fun t=>if im t then some t else none
def pY:T->Option T
 | .lst ts=>if cH ts then some (.lst ts) else none
 | .tup _=>none
 | .dct _=>none
 | .own _=>none
 | t=>some t
theorem bind_some {α β:Type}{o:Option α}{f:α->Option β}{y:β}(h:o.bind f=some y):∃ x,o=some x/\f x=some y:=by
 cases o with
 | none=>cases h
 | some x=>exact⟨x,rfl,h⟩
section
variable {X:Cx}{B:Hp}{fl:List Nat}{a b e:Expr}{f g:Rho->Option T}{n n':Bool}{l l':Nat}{pos:Pos}
theorem GE.sc (h:GE X B fl e f n l):GE X B fl e (f1 f aW) true 3:=by
 refine bB h ?_;rintro σ H Q ⟨Ex,ρ,M,t,S,hf,q⟩;obtain⟨x,hx,hg⟩:=bind_some hf;unfold aW at hg;split at hg
 ·rename_i hs
  have e:=aHa hg;subst e;refine⟨Ex,ρ,M,x,S,hx,fun v H' s r=>q v H' s ?_⟩;have r':=qR (A':=Ad B H M 3) x hs (r.rep S);cases x<;>first | exact r' | (simp[im] at hs)
 ·cases hg
theorem GE.flt (h:GE X B fl e f true l):GE X B fl e (f1 f pY) true 3:=by
 refine bB h ?_;rintro σ H Q ⟨Ex,ρ,M,t,S,hf,q⟩;obtain⟨x,hx,hg⟩:=bind_some hf;refine⟨Ex,ρ,M,x,S,hx,fun v H' s r=>q v H' s ?_⟩;cases x with
 | lst ts=>
  unfold pY at hg;dsimp only at hg;split at hg
  ·rename_i hs
   cases hg;obtain⟨a,xs,e,h1,h2,r⟩:=r;exact⟨a,xs,e,h1,h2,xI hs r⟩
  ·cases hg
 | tup ts=>cases hg
 | non=>cases hg;exact r
 | bl _=>cases hg;exact r
 | int _=>cases hg;exact r
 | str _=>cases hg;exact r
 | exc _=>cases hg;exact r
 | dct _=>cases hg
 | own _=>cases hg
theorem aB (i:Nat) {x:Str}(hN:X.N[i]?=some x:=by rfl) (hv:Vis X.env.scope x:=by first | exact Or.inl rfl | exact Or.inr (Or.inl rfl) | exact Or.inr (Or.inr rfl)) (hd:(x == ("__debug__" : Str))=false:=by decide)
  (hcd:(x == ("__classdict__" : Str))=false:=by decide):GE X B fl (.Name x pos) (aA i) false (min (fl.getD i 1) 2):=by
 refine bB (pv (X:=X) i hN hv hd hcd) ?_;rintro σ H Q ⟨Ex,ρ,M,t,S,hf,q⟩;have e:ρ[i]?=some (some t):=by
  unfold aA at hf;cases h:ρ[i]? with
  | none=>rw[h] at hf;cases hf
  | some o=>rw[h] at hf;cases (show o=some t from hf);rfl
 by_cases k:1<=fl.getD i 1\/im t=true
 ·obtain⟨v,e1,r⟩:=S.slot i t e k
  exact⟨v,e1,q v H (aP.refl H) (by cases t<;>exact r)⟩
 ·have k0:fl.getD i 1=0:=by lia
  have ki:im t=false:=by
   cases h:im t with
   | false=>rfl
   | true=>exact absurd (.inr h) k
  obtain⟨g,hg,_⟩:=S.mu;obtain⟨v,e1,e2,e3⟩:=hg i t e k0 ki;rw[k0] at q;exact⟨_,e1,q _ H (aP.refl H) (by
   have:=e2.rep (A:=Ad B H M 0) (fun _=>Ad.zero) fun c us h=>(by
    obtain⟨xs,q1,q2,_⟩:=e3 c us h;exact⟨xs,q1,q2.weak fun b _=>Ad.zero⟩)
   cases t<;>exact this)⟩
theorem aE {i:Int}{j:Nat}:GE X B fl (.Constant (.int i) j pos) (fC (.int i)) true 3:=
 bB aAx fun _ H _ ⟨_,_,_,_,_,hf,q⟩=>q _ H (aP.refl H) (by cases (aHa hf);rfl)
theorem pZ {i:Bool}{j:Nat}:GE X B fl (.Constant (.bool i) j pos) (fC (.bl i)) true 3:=
 bB aAt fun _ H _ ⟨_,_,_,_,_,hf,q⟩=>q _ H (aP.refl H) (by cases (aHa hf);rfl)
theorem qB {j:Nat}:GE X B fl (.Constant .none j pos) (fC .non) true 3:=
 bB aB0 fun _ H _ ⟨_,_,_,_,_,hf,q⟩=>q _ H (aP.refl H) (by cases (aHa hf);rfl)
theorem gN {i:Str}{j:Nat}:GE X B fl (.Constant (.str i) j pos) (fC (.str i)) true 3:=
 bB aB5 fun _ H _ ⟨_,_,_,_,_,hf,q⟩=>q _ H (aP.refl H) (by cases (aHa hf);rfl)
def SOp (r:R2) (F:T->T->Option T):Prop:=∀ x y t,F x y=some t->scal x=true/\scal y=true/\scal t=true/\∀ (H:Hp) (Q:VK),Q (tv t) H->r (tv x) (tv y) H Q
theorem eY {op:Operator}{r:R2}{F:T->T->Option T}(ho:OpR X (binaryOp op) r) (hF:SOp r F) (ha:GE X B fl a f n l) (hb:GE X B fl b g n' l'):GE X B fl (.BinOp a op b pos) (f2 f g F) true 3:=by
 refine bB (BG ho ha hb) ?_;rintro σ H Q ⟨Ex,ρ,M,t,S,hf,q⟩;obtain⟨x,hx,hf⟩:=bind_some hf;obtain⟨y,hy,hf⟩:=bind_some hf;obtain⟨sx,sy,st,k⟩:=hF x y t hf;refine⟨Ex,ρ,M,x,S,hx,fun vx H1 s1 rx=>⟨Ex,ρ,M,y,S.grow s1,hy,fun vy H2 s2 ry=>?_⟩⟩;rw[aO.scal sx] at rx;rw[aO.scal sy] at ry;subst rx ry;exact k H2 Q (q _ H2 (s1.trans s2) ((aO.scal st).mpr rfl))
theorem TM {op:CmpOp}{r:R2}{F:T->T->Option T}(ho:OpR X (compareOp op) r) (hF:SOp r F) (ha:GE X B fl a f n l) (hb:GE X B fl b g n' l') (hm:behindInMarks op b=false:=by first | exact jG _ | rfl):GE X B fl (.Compare a [op] [b] pos) (f2 f g F) true 3:=by
 refine bB (IU ho ha hb hm) ?_;rintro σ H Q ⟨Ex,ρ,M,t,S,hf,q⟩;obtain⟨x,hx,hf⟩:=bind_some hf;obtain⟨y,hy,hf⟩:=bind_some hf;obtain⟨sx,sy,st,k⟩:=hF x y t hf;refine⟨Ex,ρ,M,x,S,hx,fun vx H1 s1 rx=>⟨Ex,ρ,M,y,S.grow s1,hy,fun vy H2 s2 ry=>?_⟩⟩;rw[aO.scal sx] at rx;rw[aO.scal sy] at ry;subst rx ry;exact k H2 Q (q _ H2 (s1.trans s2) ((aO.scal st).mpr rfl))
def oI (C:Int->Int->Bool) (h:Int->Int->T):T->T->Option T
 | .int i,.int j=>if C i j then some (h i j) else none
 | _,_=>none
theorem pQ {C:Int->Int->Prop}{c:Int->Int->Bool}{gv:Int->Int->V}{h:Int->Int->T}(hc:∀ i j,c i j=true->C i j) (hs:∀ i j,scal (h i j)=true) (he:∀ i j,tv (h i j)=gv i j):SOp (rI C gv) (oI c h):=by
 intro x y t e;cases x<;>first | (cases e;done) | skip
 cases y<;>first | (cases e;done) | skip
 rename_i i j;unfold oI at e;dsimp only at e;split at e
 ·rename_i k
  cases e;exact⟨rfl,rfl,hs i j,fun H Q q=>⟨i,j,rfl,rfl,hc i j k,by rw[<- he i j];exact q⟩⟩
 ·cases e
theorem kD {gv:Int->Int->V}{h:Int->Int->T}(hs:∀ i j,scal (h i j)=true) (he:∀ i j,tv (h i j)=gv i j):SOp (rI0 gv) (oI (fun _ _=>true) h):=by
 intro x y t e;cases x<;>first | (cases e;done) | skip
 cases y<;>first | (cases e;done) | skip
 rename_i i j;cases (show some (h i j)=some t from e);exact⟨rfl,rfl,hs i j,fun H Q q=>⟨i,j,rfl,rfl,by rw[<- he i j];exact q⟩⟩
abbrev cT:Int->Int->Bool:=fun _ _=>true
def bS:T->T->Option T:=oI cT fun i j=>.int (i+j)
def cR:T->T->Option T:=oI cT fun i j=>.int (i-j)
def fG (i j:Int):Bool:=decide (i.natAbs<2^64)||decide (j.natAbs<2^64)||(decide (Builtin.Int.intBits i<=2^20)&&decide (Builtin.Int.intBits j<=2^20))
def bN:T->T->Option T:=oI fG fun i j=>.int (i*j)
def bK:T->T->Option T:=oI (fun _ j=>decide (0<j)&&decide (j<2^200)) fun i j=>.int (i / j)
def aS:T->T->Option T:=oI (fun _ j=>decide (0<j)) fun i j=>.int (i%j)
def jY:T->T->Option T:=oI (fun _ j=>decide (0<=j)) fun i j=>.int (i / 2^j.toNat)
def dF:T->T->Option T:=oI (fun i j=>decide (0<=j)&&decide (j<=1000000)&&decide (i.natAbs<2^64)) fun i j=>.int (i*2^j.toNat)
def cN:T->T->Option T:=oI (fun i j=>decide (0<=j)&&decide ((Builtin.Int.intBits i:Int)*j<=2^27)) fun i j=>.int (i^j.toNat)
def gQ:T->T->Option T:=oI cT fun i j=>.int (Builtin.bitAnd i j)
def oOr:T->T->Option T:=oI cT fun i j=>.int (Builtin.bitOr i j)
def BB:T->T->Option T:=oI cT fun i j=>.int (Builtin.bitXor i j)
def oLt:T->T->Option T:=oI cT fun i j=>.bl (decide (i<j))
def oLe:T->T->Option T:=oI cT fun i j=>.bl (decide (i<=j))
def oGt:T->T->Option T:=oI cT fun i j=>.bl (decide (j<i))
def oGe:T->T->Option T:=oI cT fun i j=>.bl (decide (j<=i))
theorem XY {i j:Int}(h:fG i j=true):IntMulOk i j:=by
 unfold fG at h;rcases Bool.or_eq_true_iff.mp h with h | h
 ·rcases Bool.or_eq_true_iff.mp h with h | h
  ·have h:=of_decide_eq_true h
   exact .of_left (intBits_le_64 (by lia) (by lia))
  ·have h:=of_decide_eq_true h
   exact .of_right (intBits_le_64 (by lia) (by lia))
 ·have h:=aHo.mp h
  exact .of_bits (of_decide_eq_true h.1) (of_decide_eq_true h.2)
theorem aA9:OpR X (binaryOp .Mult) (rI (fun i j=>fG i j=true) fun i j=>.int (i*j)):=opI fun _ _ _ _ _ _ _ hc q=>mul_int q (XY hc)
theorem aAa:OpR X (binaryOp .Pow) (rI (fun i j=>0<=j/\(Builtin.Int.intBits i:Int)*j<=2^27) fun i j=>.int (i^j.toNat)):=opI fun _ _ _ _ _ _ _ hc q=>pow_int hc.1 hc.2 q
theorem cB (ha:GE X B fl a f n l) (hb:GE X B fl b g n' l'):GE X B fl (.BinOp a .Add b pos) (f2 f g bS) true 3:=eY aAb (kD (fun _ _=>rfl) fun _ _=>rfl) ha hb
theorem dS (ha:GE X B fl a f n l) (hb:GE X B fl b g n' l'):GE X B fl (.BinOp a .Sub b pos) (f2 f g cR) true 3:=eY aAn (kD (fun _ _=>rfl) fun _ _=>rfl) ha hb
theorem dI (ha:GE X B fl a f n l) (hb:GE X B fl b g n' l'):GE X B fl (.BinOp a .Mult b pos) (f2 f g bN) true 3:=eY aA9 (pQ (fun _ _ k=>k) (fun _ _=>rfl) fun _ _=>rfl) ha hb
theorem hX (ha:GE X B fl a f n l) (hb:GE X B fl b g n' l'):GE X B fl (.BinOp a .Pow b pos) (f2 f g cN) true 3:=eY aAa (pQ (fun _ _ k=>by simpa using k) (fun _ _=>rfl) fun _ _=>rfl) ha hb
theorem bY (ha:GE X B fl a f n l) (hb:GE X B fl b g n' l'):GE X B fl (.BinOp a .Mod b pos) (f2 f g aS) true 3:=eY aAf (pQ (fun _ _ k=>of_decide_eq_true k) (fun _ _=>rfl) fun _ _=>rfl) ha hb
theorem vY (ha:GE X B fl a f n l) (hb:GE X B fl b g n' l'):GE X B fl (.BinOp a .RShift b pos) (f2 f g jY) true 3:=eY aAm (pQ (fun _ _ k=>of_decide_eq_true k) (fun _ _=>rfl) fun _ _=>rfl) ha hb
theorem eO (ha:GE X B fl a f n l) (hb:GE X B fl b g n' l'):GE X B fl (.BinOp a .LShift b pos) (f2 f g dF) true 3:=eY aAl (pQ (fun _ _ k=>by simpa [CS,and_assoc] using k) (fun _ _=>rfl) fun _ _=>rfl) ha hb
theorem jQ (ha:GE X B fl a f n l) (hb:GE X B fl b g n' l'):GE X B fl (.BinOp a .BitAnd b pos) (f2 f g gQ) true 3:=eY aAc (kD (fun _ _=>rfl) fun _ _=>rfl) ha hb
theorem vX (ha:GE X B fl a f n l) (hb:GE X B fl b g n' l'):GE X B fl (.BinOp a .BitOr b pos) (f2 f g oOr) true 3:=eY aAi (kD (fun _ _=>rfl) fun _ _=>rfl) ha hb
theorem UH (ha:GE X B fl a f n l) (hb:GE X B fl b g n' l'):GE X B fl (.BinOp a .BitXor b pos) (f2 f g BB) true 3:=eY aAo (kD (fun _ _=>rfl) fun _ _=>rfl) ha hb
theorem FU (ha:GE X B fl a f n l) (hb:GE X B fl b g n' l'):GE X B fl (.Compare a [.Lt] [b] pos) (f2 f g oLt) true 3:=TM IO (kD (fun _ _=>rfl) fun _ _=>rfl) ha hb
end
end G
namespace L2
open PySem PySem.Spec PyProof.Rows
def cM (cells:List (Str × Addr)):List (Str × NameKind)->List (Str × Addr)->Option (List (Str × Addr))
 | [],cs=>some cs
 | (n,k)::r,cs=>if k == .free then (match cells.lookup n with | some a=>cM cells r ((n,a)::cs) | none=>none) else cM cells r cs
theorem zF {scope:Scope}{env:Env}{cl:List (Str × Addr)}(h:cM env.cells scope.names []=some cl):closureFor scope env=pure cl:=by
 have key:∀ (ns:List (Str × NameKind)) (cs:List (Str × Addr)),cM env.cells ns cs=some cl ->
   (forIn ns cs (fun (x:Str × NameKind) (cs:List (Str × Addr))=>if x.2 == .free then (do let a <- cellOf env x.1;pure (ForInStep.yield ((x.1,a)::cs))) else pure (ForInStep.yield cs)):Sem (List (Str × Addr)))=pure cl:=by
  intro ns
  induction ns with
  | nil=>intro cs h;cases (aHa h);rfl
  | cons x r ih=>
   intro cs h;obtain⟨n,k⟩:=x;rw[List.forIn_cons];unfold cM at h;dsimp only at h ⊢
   by_cases hk:(k == NameKind.free)=true
   ·rw[if_pos hk] at h ⊢
    cases hl:env.cells.lookup n with
    | none=>rw[hl] at h;cases h
    | some a=>
     rw[hl] at h;have e:cellOf env n=pure a:=by unfold cellOf;rw[hl]
     rw[e];simp only[pure_bind];exact ih _ h
   ·rw[if_neg hk] at h ⊢
    simp only[pure_bind];exact ih _ h
 have q:=key scope.names [] h;unfold closureFor
 simpa using q
theorem zE {cells:List (Str × Addr)}:∀ {ns:List (Str × NameKind)}{cs cl:List (Str × Addr)},cM cells ns cs=some cl->(∀ x c,cs.lookup x=some c->cells.lookup x=some c)->∀ x c,cl.lookup x=some c->cells.lookup x=some c
 | [],cs,cl,h,k=>by cases (aHa h);exact k
 | (n,kd)::r,cs,cl,h,k=>by
  unfold cM at h
  by_cases hk:(kd == NameKind.free)=true
  ·rw[if_pos hk] at h
   cases hl:cells.lookup n with
   | none=>rw[hl] at h;cases h
   | some a=>
    rw[hl] at h;refine zE h fun x c e=>?_;rw[aIx] at e
    by_cases hx:(x == n)=true
    ·rw[hx] at e
     cases (aHa e);rw[eq_of_beq hx];exact hl
    ·have hx':(x == n)=false:=by simpa using hx
     rw[hx'] at e;exact k x c e
  ·rw[if_neg hk] at h
   exact zE h k
theorem vL {cells:List (Str × Addr)}{x:Str}:∀ {ns:List (Str × NameKind)}{cs cl:List (Str × Addr)},cM cells ns cs=some cl->((x,NameKind.free)∈ns\/∃ c,cs.lookup x=some c)->∃ c,cl.lookup x=some c
 | [],cs,cl,h,k=>by
  cases (aHa h);rcases k with k | k
  ·cases k
  ·exact k
 | (n,kd)::r,cs,cl,h,k=>by
  unfold cM at h;have old:∀ a,(∃ c,cs.lookup x=some c)->∃ c,((n,a)::cs).lookup x=some c:=fun a ⟨c,e⟩=>by
   rw[aIx]
   by_cases hx:(x == n)=true
   ·rw[hx];exact⟨_,rfl⟩
   ·have hx':(x == n)=false:=by simpa using hx
    rw[hx'];exact⟨c,e⟩
  by_cases hk:(kd == NameKind.free)=true
  ·rw[if_pos hk] at h
   cases hl:cells.lookup n with
   | none=>rw[hl] at h;cases h
   | some a=>
    rw[hl] at h;refine vL h ?_;rcases k with k | k
    ·rcases aHm.mp k with e | k
     ·cases e
      exact .inr ⟨a,by rw[aIx];simp⟩
     ·exact .inl k
    ·exact .inr (old a k)
  ·rw[if_neg hk] at h
   refine vL h ?_;rcases k with k | k
   ·rcases aHm.mp k with e | k
    ·cases e
     exact absurd rfl hk
    ·exact .inl k
   ·exact .inr k
theorem vM {cells:List (Str × Addr)}:∀ {ns:List (Str × NameKind)}{cs:List (Str × Addr)},(∀ n,(n,NameKind.free)∈ns->∃ c,cells.lookup n=some c)->∃ cl,cM cells ns cs=some cl
 | [],cs,_=>⟨cs,rfl⟩
 | (n,kd)::r,cs,k=>by
  unfold cM
  by_cases hk:(kd == NameKind.free)=true
  ·rw[if_pos hk]
   obtain⟨c,e⟩:=k n (by rw[eq_of_beq hk];exact aHe);rw[e];exact vM fun m hm=>k m (aHd _ hm)
  ·rw[if_neg hk]
   exact vM fun m hm=>k m (aHd _ hm)
def qI:Option NameKind->Bool
 | some .cell=>true
 | _=>false
theorem HN {o:Option NameKind}(h:qI o=true):o=some .cell:=by
 cases o with
 | none=>cases h
 | some k=>cases k<;>first | rfl | cases h
theorem jX {x y:Str}{n:Addr}{cs:List (Str × Addr)}:((y,n)::cs).lookup x=if (x == y)=true then some n else cs.lookup x:=by
 rw[aIx]
 by_cases h:(x == y)=true
 ·rw[h];rfl
 ·have h':(x == y)=false:=by simpa using h
  rw[h'];rfl
theorem wZ {x:Str}:∀ {ns:List (Str × NameKind)}{n n0:Nat}{cs:List (Str × Addr)},n0<=n->(ns.lookup x=some .cell\/∃ c,cs.lookup x=some c/\n0<=c)->∃ c,(cellsFrom n ns cs).lookup x=some c/\n0<=c
 | [],n,n0,cs,_,h=>by
  rcases h with h | h
  ·cases h
  ·exact h
 | (y,k)::r,n,n0,cs,hn,h=>by
  unfold cellsFrom
  by_cases hk:(k == NameKind.cell)=true
  ·rw[if_pos hk]
   refine wZ (Nat.le_succ_of_le hn) ?_
   by_cases hx:(x == y)=true
   ·exact .inr ⟨n,by rw[jX,if_pos hx],hn⟩
   ·rcases h with h | ⟨c,e,hc⟩
    ·have hx':(x == y)=false:=by simpa using hx
     rw[aIx,hx'] at h;exact .inl h
    ·exact .inr ⟨c,by rw[jX,if_neg hx];exact e,hc⟩
  ·rw[if_neg hk]
   refine wZ hn ?_;rcases h with h | h
   ·rw[aIx] at h
    by_cases hx:(x == y)=true
    ·rw[hx] at h
     have h':k=NameKind.cell:=aHa h;rw[h'] at hk;exact absurd rfl hk
    ·have hx':(x == y)=false:=by simpa using hx
     rw[hx'] at h;exact .inl h
   ·exact .inr h
theorem BE {x:Str}{c:Addr}:∀ {ns:List (Str × NameKind)}{n:Nat}{cs:List (Str × Addr)},(x,NameKind.cell) ∉ ns->cs.lookup x=some c->(cellsFrom n ns cs).lookup x=some c
 | [],_,_,_,h=>h
 | (y,k)::r,n,cs,hx,h=>by
  unfold cellsFrom;have hr:(x,NameKind.cell) ∉ r:=fun z=>hx (aHd _ z)
  by_cases hk:(k == NameKind.cell)=true
  ·rw[if_pos hk]
   refine BE hr ?_;have:¬ (x == y)=true:=fun z=>hx (by rw[eq_of_beq z,eq_of_beq hk];exact aHe);rw[jX,if_neg this];exact h
  ·rw[if_neg hk]
   exact BE hr h
theorem xA {x:Str}{c:Addr}:∀ {ns:List (Str × NameKind)}{n:Nat}{cs:List (Str × Addr)},cs.lookup x=some c->∃ c',(cellsFrom n ns cs).lookup x=some c'
 | [],_,_,h=>⟨c,h⟩
 | (y,k)::r,n,cs,h=>by
  unfold cellsFrom
  by_cases hk:(k == NameKind.cell)=true
  ·rw[if_pos hk]
   by_cases hx:(x == y)=true
   ·exact xA (c:=n) (by rw[jX,if_pos hx])
   ·exact xA (c:=c) (by rw[jX,if_neg hx];exact h)
  ·rw[if_neg hk]
   exact xA h
theorem BF {x:Str}{c:Addr}:∀ {ns:List (Str × NameKind)}{h:Heap}{cs:List (Str × Addr)},(cellsFrom h.objs.size ns cs).lookup x=some c->cs.lookup x=some c\/(h.objs.size<=c/\(pushCells h ns).IsCell c none)
 | [],_,_,e=>.inl e
 | (y,k)::r,h,cs,e=>by
  unfold cellsFrom at e;unfold pushCells
  by_cases hk:(k == NameKind.cell)=true
  ·rw[if_pos hk] at e
   rw[if_pos hk];have e':(cellsFrom (h.push { cls:=.type "cell",data:=.cell none }).objs.size r ((y,h.objs.size)::cs)).lookup x=some c:=by rw[aHw];exact e
   rcases BF e' with q | ⟨q1,q2⟩
   ·rw[jX] at q
    by_cases hx:(x == y)=true
    ·rw[if_pos hx] at q
     cases q;exact .inr ⟨aJf _,_,pushCells_keeps r _ _ _ (aHu _ rfl),rfl⟩
    ·rw[if_neg hx] at q
     exact .inl q
   ·rw[aHw] at q1
    exact .inr ⟨Nat.le_of_succ_le q1,q2⟩
  ·rw[if_neg hk] at e
   rw[if_neg hk];exact BF e
theorem BD:∀ {ns:List (Str × NameKind)}{n:Nat}{cs:List (Str × Addr)},(∀ x c,cs.lookup x=some c->c<n)->(∀ x y c,cs.lookup x=some c->cs.lookup y=some c->x=y) ->
  ∀ x y c,(cellsFrom n ns cs).lookup x=some c->(cellsFrom n ns cs).lookup y=some c->x=y
 | [],_,_,_,h=>h
 | (z,k)::r,n,cs,hb,h=>by
  unfold cellsFrom
  by_cases hk:(k == NameKind.cell)=true
  ·rw[if_pos hk]
   refine BD (fun x c e=>?_) fun x y c e1 e2=>?_
   ·rw[jX] at e
    split at e
    ·cases e;exact aJk _
    ·exact Nat.lt_succ_of_lt (hb x c e)
   ·rw[jX] at e1 e2
    split at e1
    ·rename_i hx
     cases e1;split at e2
     ·rename_i hy
      rw[eq_of_beq hx,eq_of_beq hy]
     ·exact absurd (hb y _ e2) (aJh _)
    ·split at e2
     ·cases e2
      exact absurd (hb x _ e1) (aJh _)
     ·exact h x y c e1 e2
  ·rw[if_neg hk]
   exact BD hb h
theorem YA {M:Model}{A:Around}{E:Value->Shared->Prop}{s:Shared}{scope:Scope}{globals:Addr}{closure:List (Str × Addr)}{qual:Str}{outer:Env}{builtins:Addr}{Q:Env->Shared->Prop}
  (hQ:Q (newEnv scope s.heap.objs.size globals (cellsFrom (s.heap.objs.size+1) scope.names closure) qual none .none (some outer) builtins) { s with heap:=pushCells (s.heap.push { cls:=.type "dict",data:=.dict #[] }) scope.names }):
  wpAny M A (newFunctionEnv scope globals closure [] qual none .none (some outer) builtins) Q E s:=by
 simp only[newFunctionEnv,Option.isSome_some,if_true];simp only[newEnv] at hQ;refine wpAny_bind (wpAny_alloc ?_);refine wpAny_bind (wpAny_layCells _ (fun name kind cells=>by cases hkc:kind == NameKind.cell<;>simp[hkc]) _ _ _ _ ?_)
 rw[show ({ s with heap:=s.heap.push { cls:=.type "dict",data:=.dict #[] } }:Shared).heap.objs.size=s.heap.objs.size+1 from aHw ..];refine wpAny_bind ?_;rw[List.forIn_nil];exact wpAny_pure (wpAny_pure hQ)
def cxB (X:Cx) (scope:Scope) (N':List Str) (cl:List (Str × Addr)) (C:Addr) (s:Shared) (H:Hp) (ex:List Addr):Cx where
 prog:=X.prog
 w:=X.w
 K:=X.K
 mg:=X.mg
 base:=X.base
 A:=X.A
 N:=N'
 s₀:=s
 H₀:=H
 env:=compEnvC scope cl C X.env
 outer:=X.stack
 stack:=X.stack
 ex:=ex
 fn:=fun x=>qI (scope.names.lookup x)
 calm:=X.calm
 pn:=[]
 xe:=fun _ _=>False
def cO (src:List (Option Nat)) (σ:St):St:=src.map fun o=>o.bind fun i=>(σ[i]?).join
structure BlkOk (X:Cx) (scope:Scope) (N':List Str) (src:List (Option Nat)):Prop where
 kind:scope.kind=.function
 cells:∀ y∈scope.names,y.2=.cell->scope.names.lookup y.1=some .cell
 names:∀ y∈scope.names,y.2=.local->scope.names.lookup y.1=some .local
 frees:∀ y∈scope.names,y.2=.free->X.env.kindOf y.1=some .cell\/X.env.kindOf y.1=some .free
 srcN:∀ (j i:Nat),src[j]?=some (some i)->∃ x,N'[j]?=some x/\X.N[i]?=some x/\scope.names.lookup x≠some .local/\scope.names.lookup x≠some .cell
 len:src.length=N'.length
theorem wG {env:Env}:∀ {names:List (Str × NameKind)}{x:Str}{k:NameKind},
  (names.map fun (n,k)=>if (k == NameKind.free&&env.scope.kind == .function&&env.kindOf n == some .cell) then (n,NameKind.cell) else (n,k)).lookup x=some k->∃ k0,names.lookup x=some k0/\(x,k0)∈names/\(k0=k\/(k0=.free/\k=.cell))
 | [],_,_,h=>by simp at h
 | (n,kd)::r,x,k,h=>by
  have ih:=@wG env r x k
  by_cases hc:(kd == NameKind.free&&env.scope.kind == .function&&env.kindOf n == some .cell)=true
  ·have e:((n,kd)::r).map (fun (n,k)=>if (k == NameKind.free&&env.scope.kind == .function&&env.kindOf n == some .cell) then (n,NameKind.cell) else (n,k))=(n,NameKind.cell)::r.map (fun (n,k)=>if (k == NameKind.free&&env.scope.kind == .function&&env.kindOf n == some .cell) then (n,NameKind.cell) else (n,k)):=by
    rw[aIy];dsimp only;rw[if_pos hc]
   rw[e,aIx] at h;have hf:kd=.free:=by
    have:=(aHo.mp (aHo.mp hc).1).1;exact eq_of_beq this
   by_cases hx:(x == n)=true
   ·rw[hx] at h
    have h':NameKind.cell=k:=aHa h;refine⟨kd,by rw[aIx,hx],by rw[eq_of_beq hx];exact aHe,.inr ⟨hf,h'.symm⟩⟩
   ·have hx':(x == n)=false:=by simpa using hx
    rw[hx'] at h;obtain⟨k0,a,b,c⟩:=ih h;exact⟨k0,by rw[aIx,hx'];exact a,aHd _ b,c⟩
  ·have e:((n,kd)::r).map (fun (n,k)=>if (k == NameKind.free&&env.scope.kind == .function&&env.kindOf n == some .cell) then (n,NameKind.cell) else (n,k))=(n,kd)::r.map (fun (n,k)=>if (k == NameKind.free&&env.scope.kind == .function&&env.kindOf n == some .cell) then (n,NameKind.cell) else (n,k)):=by
    rw[aIy];dsimp only;rw[if_neg hc]
   rw[e,aIx] at h
   by_cases hx:(x == n)=true
   ·rw[hx] at h
    have h':kd=k:=aHa h;exact⟨kd,by rw[aIx,hx],by rw[eq_of_beq hx];exact aHe,.inl h'⟩
   ·have hx':(x == n)=false:=by simpa using hx
    rw[hx'] at h;obtain⟨k0,a,b,c⟩:=ih h;exact⟨k0,by rw[aIx,hx'];exact a,aHd _ b,c⟩
section
variable {X:Cx}{pins:List (Addr × Obj)}{σ:St}{H:Hp}{s2:Shared}
theorem VW {scope : Scope} {N' : List Str} {src : List (Option Nat)} {cl : List (Str × Addr)} {fp : List Addr} {h4 : Heap} {t4 : Nat} {C : Addr} {m : Str -> Option Value} (S : BlkOk X scope N' src) (I : Inv X pins σ H s2)
  (hcl : cM X.env.cells scope.names [] = some cl) (hf : ∀ b ∈ fp, eS X pins H b) (ho : ∀ b ∈ fp, ∃ o, s2.heap.get? b = some o) (hC : s2.heap.objs.size < C)
  (hk : ∀ b o, s2.heap.get? b = some o -> h4.get? b = some o) (hD : h4.get? s2.heap.objs.size = some { cls := .type "list", data := .seq ([] : List Value).toArray 0 }) (hns : h4.Ns C m)
  (hown : ∀ x c, (cellsFrom (C + 1) scope.names cl).lookup x = some c -> cl.lookup x = some c \/ (C < c /\ h4.IsCell c none)) :
  Inv (cxB X scope N' (cellsFrom (C + 1) scope.names cl) C s2 H fp) [] (cO src σ) (upd H s2.heap.objs.size (.lst [])) { s2 with heap := h4, toks := t4 } := by
 have hH : H s2.heap.objs.size = none := I.hok.fresh (aJf _);have hHC : H C = none := I.hok.fresh (aJe hC);have sub := zE hcl (fun x c e => by simp at e);have clt : ∀ x c, cl.lookup x = some c -> c < s2.heap.objs.size := fun x c e => by
  obtain ⟨v, q⟩ := I.cell x c (sub x c e);exact q.lt
 have frKind : ∀ x, ((relabel scope X.env).names.lookup x = some .cell \/ (relabel scope X.env).names.lookup x = some .free) -> (x, NameKind.free) ∈ scope.names \/ scope.names.lookup x = some .cell := fun x hx => by
  rcases hx with hx | hx
  ·obtain ⟨k0, a, b, c⟩ := wG hx
   rcases c with rfl | ⟨rfl, _⟩
   ·exact .inr a
   ·exact .inl b
  ·obtain ⟨k0, _, b, c⟩ := wG hx
   rcases c with rfl | ⟨rfl, _⟩
   ·exact .inl b
   ·exact .inl b
 have noex : ∀ b o, X.base.get? b = some o -> b ∉ fp := fun b o e hb => by
  rcases (hf b hb).2.2.2.1 with z | z
  ·exact I.ok.noex b o e z
  ·exact absurd (aHi (aHi (aHv e) I.ok.bsz) z) (aJh _)
 have hasC : ∀ x, ((relabel scope X.env).names.lookup x = some .cell \/ (relabel scope X.env).names.lookup x = some .free) -> ∃ c, (cellsFrom (C + 1) scope.names cl).lookup x = some c := fun x hx => by
  rcases frKind x hx with q | q
  ·obtain ⟨c, e⟩ := vL hcl (.inl q)
   exact xA e
  ·obtain ⟨c, e, _⟩ := wZ (n0 := C + 1) (cs := cl) (aJf (C + 1)) (.inl q)
   exact ⟨c, e⟩
 have cabC : ∀ x c, qI (scope.names.lookup x) = true -> (cellsFrom (C + 1) scope.names cl).lookup x = some c -> s2.heap.objs.size <= c := fun x c z e => by
  obtain ⟨c', e', h'⟩ := wZ (n0 := C + 1) (cs := cl) (aJf (C + 1)) (.inl (HN z));rw [e] at e';cases e';exact aJe (aJl hC h')
 have exC : ∀ b ∈ fp, ∀ x c, (cellsFrom (C + 1) scope.names cl).lookup x = some c -> c ≠ b := fun b hb x c e => by
  rcases hown x c e with q | ⟨q, _⟩
  ·exact (hf b hb).2.2.2.2.1 x c (sub x c q)
  ·rintro rfl
   obtain ⟨o, eo⟩ := ho c hb;exact absurd (aJl (aHv eo) (aJl hC q)) (aJh _)
 refine ⟨⟨I.ok.mod, S.kind, I.ok.glob, I.ok.blt, aJe hC, BD (fun x c e => Nat.lt_succ_of_lt (aJl (clt x c e) hC)) (fun x y c e1 e2 => I.ok.inj x y c (sub x c e1) (sub y c e2)), fun x hx => hasC x hx, fun x c z e => cabC x c z e, I.ok.hd, I.ok.frames, .inl rfl, fun b hb => ⟨fun z => ?_, fun x c e => exC b hb x c e⟩,
   I.bs, aJg I.ok.bsz I.sz, noex, fun b hb z => ?_, I.stack, I.stkFree⟩,
  rfl, I.bare, Un.laid hk (aJf _) hH, ⟨m, hns, fun i x v e1 e2 e3 => ?_⟩, fun x c e => ?_, ?_, fun x c e => ?_, fun p hp => absurd (show p ∈ ([] : List (Addr × Obj)) from hp) (by simp), I.hok.laid hk (aJf _) ?_, ?_⟩
 ·obtain ⟨o, e⟩ := ho b hb
  have z' : b = C := z;subst z';exact absurd (aJl (aHv e) hC) (aJh _)
 ·rcases aHm.mp (I.stkSub b z) with e | z
  ·exact (hf b hb).2.1 e
  ·exact (hf b hb).2.2.1 z
 ·-- a captured name
  have e2' : (src.map fun o => o.bind fun i => (σ[i]?).join)[i]? = some (some v) := e2;rw [aIl] at e2';cases es : src[i]? with
  | none => rw [es] at e2'; cases e2'
  | some o =>
   rw [es] at e2';have e2'' : (o.bind fun i => (σ[i]?).join) = some v := aHa e2';cases o with
   | none => cases e2''
   | some j =>
    have ej : σ[j]? = some (some v) := by
     have z : (σ[j]?).join = some v := e2'';cases q : σ[j]? with
     | none => rw [q] at z; cases z
     | some w => rw [q] at z; cases (show w = some v from z); rfl
    obtain ⟨x', n1, n2, n3⟩ := S.srcN i j es;have ex : x' = x := by
     have z : N'[i]? = some x := e1;rw [n1] at z; exact aHa z
    subst ex;have hkd : (relabel scope X.env).names.lookup x' = some .cell \/ (relabel scope X.env).names.lookup x' = some .free := by
     have e3' : Vis (relabel scope X.env) x' := e3;rcases e3' with z | z | z
     ·obtain ⟨k0, a, _, c⟩ := wG z
      rcases c with rfl | ⟨_, q⟩
      ·exact absurd a n3.1
      ·cases q
     ·exact .inl z
     ·exact .inr z
    have hfr := (frKind x' hkd).resolve_right n3.2;have nown : (x', NameKind.cell) ∉ scope.names := fun z => n3.2 (S.cells _ z rfl);have ok := S.frees _ hfr rfl;obtain ⟨m0, hn0, hl0⟩ := I.loc;obtain ⟨u, ru, lu⟩ := hl0 j x' v n2 ej (ok.elim (fun z => .inr (.inl z)) (fun z => .inr (.inr z)));refine ⟨u, ru, .inr ⟨hkd, ?_⟩⟩;rcases lu with ⟨z, _⟩ | ⟨_, c, ec, ic⟩
    ·exfalso
     have z' : X.env.kindOf x' = some .local := z;rcases ok with w | w <;> (rw [z'] at w; cases w)
    ·obtain ⟨c', ec'⟩ := vL hcl (.inl hfr)
     have : c' = c := by
      have := sub x' c' ec';rw [ec] at this;exact (aHa this).symm
     subst this;obtain ⟨oc, g1, g2⟩ := ic;exact ⟨c', BE nown ec', oc, hk _ _ g1, g2⟩
 ·rcases hown x c e with q | ⟨_, q⟩
  ·obtain ⟨v, oc, g1, g2⟩ := I.cell x c (sub x c q)
   exact ⟨v, oc, hk _ _ g1, g2⟩
  ·exact ⟨none, q⟩
 ·show upd H s2.heap.objs.size (.lst []) C = none
  rw [aR (aJn hC)];exact hHC
 ·show upd H s2.heap.objs.size (.lst []) c = none
  rcases hown x c e with q | ⟨q, _⟩
  ·rw [aR (aJo (clt x c q))]
   exact I.freeC x c (sub x c q)
  ·rw [aR (aJn (aJl hC q))]
   exact I.hok.fresh (aJe (aJl hC q))
 ·exact ⟨aJx _, [], 0, .nil, hD⟩
 ·show (cO src σ).length = N'.length
  unfold cO;rw [aIr];exact S.len
end
section
variable {prog:Program}{w:World}{A:Around}{E:Value->Shared->Prop}{R:Result->Shared->Prop}{s:Shared}
theorem QN {elt target iter : Expr} {ifs : List Expr} {scope : Scope} {pos : Pos} {it acc : Value} {env : Env} (I : Nat -> Shared -> Prop)
  (turn : ∀ n s, I n s -> wpAny (model prog w) A (pyNext it) (fun r s₁ => match r with
   | none => R (.ok .next) s₁
   | some v => wpAny (model prog w) A (letOwnedTupleGo target it v) (fun _ s₁' => wpAny (model prog w) A (assign target env v) (fun _ s₂ =>
     wpAny (model prog w) A (forIn ifs true fun c r => if r = true then do let ok <- isTrue c env (eval c env); pure (ForInStep.yield ok) else pure (ForInStep.yield r)) (fun ok s₃ =>
      if ok = true then wpAny (model prog w) A (eval elt env) (fun x s₄ =>
       wpAny (model prog w) A (call (.builtin "list.append") [acc, x]) (fun _ s₅ => ∃ m, m < n /\ I m s₅) (fun _ _ => False) s₄) (fun _ _ => False) s₃
      else ∃ m, m < n /\ I m s₃) (fun _ _ => False) s₂) (fun _ _ => False) s₁') (fun _ _ => False) s₁) (fun _ _ => False) s)
  (n : Nat) (h : I n s) :
  codeAny (model prog w) A (.compLoop (.ListComp elt [⟨target, iter, ifs, 0⟩] scope pos) 0 it acc env) R s := by
 refine codeAny_loop rfl I (fun n s hI => ?_) n h;show wpAny _ A ((compTurn (.ListComp elt [⟨target, iter, ifs, 0⟩] scope pos) 0 it acc env).onRaise (fun x => do noteFrame x env; theTreesLotGoes x)) _ _ s;refine wpAny_noted ?_;rw [compTurn_list];refine wpAny_bind (wpAny_standAt (wpAny_bind (wpAny_mono (turn n s hI) (fun r s₁ h₁ => ?_) fun _ _ h' => h'.elim)));cases r with
 | none => exact wpAny_pure h₁
 | some v =>
  refine wpAny_bind (wpAny_mono h₁ (fun _ s₁' h₁' => ?_) fun _ _ h' => h'.elim);refine wpAny_bind (wpAny_mono h₁' (fun _ s₂ h₂ => wpAny_bind (wpAny_mono h₂ (fun ok s₃ h₃ => ?_) fun _ _ h' => h'.elim)) fun _ _ h' => h'.elim);cases ok with
  | false => exact wpAny_pure ⟨rfl, h₃⟩
  | true =>
   exact wpAny_bind (wpAny_bind (wpAny_mono h₃ (fun x s₄ h₄ => wpAny_bind (wpAny_mono h₄ (fun _ s₅ h₅ => wpAny_pure (wpAny_pure ⟨rfl, h₅⟩)) fun _ _ h' => h'.elim)) fun _ _ h' => h'.elim))
end
def PIf (X:Cx) (ifs:List Expr) (t:TT):Prop:=
 ∀ (pins:List (Addr × Obj)) (s:Shared) (σ:St) (H:Hp) (Q:Bool->Hp->Prop),Inv X pins σ H s->t σ H Q ->
  wpAny (model X.prog X.w) X.A (forIn ifs true fun c r=>if r=true then do let ok <- isTrue c X.env (eval c X.env);pure (ForInStep.yield ok) else pure (ForInStep.yield r)) (TP X pins σ Q) X.xe s
def aE9:TT:=fun _ H Q=>Q true H
theorem aBf {X:Cx}:PIf X [] aE9:=fun _ _ _ H _ I h=>wpAny_tests_nil ⟨H,I,h⟩
theorem aBg {X:Cx}{c:Expr}{t:TT}(h:PT X c t):PIf X [c] t:=fun pins s σ H Q I hw=>wpAny_tests_one (h pins s σ H Q I hw)
def vC (wi:TI) (mk:St->St) (g:TG) (tc:TT) (te:TE):TE:=fun σ H Q=>wi σ H fun J H1=>∀ D,H1 D=none->∃ W:Nat->Nat->St->Hp->Prop,(∃ m,W 0 m (mk σ) (upd H1 D (.lst []))) /\
 ∀ i m σ1 H2,W i m σ1 H2->(J.stop i H2/\Q (.ref D) H2)\/(J.go i H2/\∀ x H3,J.yld i H2 x H3->g x σ1 H3 fun σ2 H4=>tc σ2 H4 fun b H5=>
  if b=true then te σ2 H5 fun v H6=>∃ xs,H6 D=some (.lst xs)/\xs.length<sizeLine/\∃ m',m'<m/\W (i+1) m' σ2 (upd H6 D (.lst (xs++[v]))) else ∃ m',m'<m/\W (i+1) m' σ2 H5)
section
variable {X:Cx}{elt tg iter:Expr}{ifs:List Expr}{scope:Scope}{pos:Pos}{N':List Str}{src:List (Option Nat)}{wi:TI}{g:TG}{tc:TT}{te:TE}
theorem DV {pins:List (Addr × Obj)}{σ:St}{H2:Hp}{s2:Shared}{E:Value->Shared->Prop}{cl:List (Str × Addr)}{it:Addr}{fp:List Addr}{tn:Nat->Heap->Prop}{J:It}{Q:VK}{RR:Value->Addr->Result->Shared->Prop}
  (S:BlkOk X scope N' src) (hc:X.calm=true) (hcl:cM X.env.cells scope.names []=some cl)
  (hb:∀ cl C s H ex,PG (cxB X scope N' cl C s H ex) tg g/\PIf (cxB X scope N' cl C s H ex) ifs tc/\PE (cxB X scope N' cl C s H ex) elt te)
  (I2:Inv X pins σ H2 s2) (Tn:Turn X.prog X.w X.K tg J fp it tn) (st2:tn 0 s2.heap) (f2:∀ b∈fp,eS X pins H2 b)
  (hw:∀ D,H2 D=none->∃ W:Nat->Nat->St->Hp->Prop,(∃ m,W 0 m (cO src σ) (upd H2 D (.lst []))) /\
   ∀ i m σ1 H2,W i m σ1 H2->(J.stop i H2/\Q (.ref D) H2)\/(J.go i H2/\∀ x H3,J.yld i H2 x H3->g x σ1 H3 fun σ2 H4=>tc σ2 H4 fun b H5=>
    if b=true then te σ2 H5 fun v H6=>∃ xs,H6 D=some (.lst xs)/\xs.length<sizeLine/\∃ m',m'<m/\W (i+1) m' σ2 (upd H6 D (.lst (xs++[v]))) else ∃ m',m'<m/\W (i+1) m' σ2 H5))
  (hR:∀ D C H' s' m,s2.heap.objs.size<=D->s2.heap.objs.size<=C->s'.heap.Ns C m->H' C=none->Inv X pins σ H' s'->Q (.ref D) H'->RR (.ref D) C (.ok .next) s'):
  wpAny (model X.prog X.w) X.A (newList []) (fun acc s₃=>wpAny (model X.prog X.w) X.A (newFunctionEnv scope X.env.globals cl [] X.env.qual none .none (some X.env)) (fun cenv s₄=>
   codeAny (model X.prog X.w) X.A (.compStart (.ListComp elt [⟨tg,iter,ifs,0⟩] scope pos) 0 (.ref it) acc { cenv with scope:=relabel scope X.env }) (RR acc cenv.locals) s₄) E s₃) E s2:=by
 refine wpAny_newObj_type (YA ?_);dsimp only;generalize hH2:s2.heap.push { cls:=.type "list",dict:=none,data:=.seq ([]:List Value).toArray }=Hq;have hC:Hq.objs.size=s2.heap.objs.size+1:=by rw[<- hH2,aHw]
 have hCl:s2.heap.objs.size<Hq.objs.size:=by rw[hC];exact aJk _
 have hns₁:(pushCells (Hq.push { cls:=.type "dict",data:=.dict #[] }) scope.names).Ns Hq.objs.size (fun _=>none):=(Heap.Ns.new Hq (.type "dict")).keeps (pushCells_keeps _ _);have old:∀ b o,s2.heap.get? b=some o->(pushCells (Hq.push { cls:=.type "dict",data:=.dict #[] }) scope.names).get? b=some o:=fun b o e=>pushCells_keeps _ _ b o (aHl _ (hH2 ▸ aHl _ e));have hacc:(pushCells (Hq.push { cls:=.type "dict",data:=.dict #[] }) scope.names).get? s2.heap.objs.size=some { cls:=.type "list",data:=.seq ([]:List Value).toArray 0 }:=pushCells_keeps _ _ _ _ (aHl _ (hH2 ▸ aHu _ rfl));have hown:∀ x c,(cellsFrom (Hq.objs.size+1) scope.names cl).lookup x=some c->cl.lookup x=some c\/(Hq.objs.size<c/\(pushCells (Hq.push { cls:=.type "dict",data:=.dict #[] }) scope.names).IsCell c none):=fun x c e=>by
  have e':(cellsFrom (Hq.push { cls:=.type "dict",data:=.dict #[] }).objs.size scope.names cl).lookup x=some c:=by rw[aHw];exact e
  rcases BF e' with q | ⟨q1,q2⟩
  ·exact .inl q
  ·rw[aHw] at q1
   exact .inr ⟨q1,q2⟩
 generalize pushCells (Hq.push { cls:=.type "dict",data:=.dict #[] }) scope.names=h₁ at hns₁ old hacc hown ⊢;have ho:∀ b∈fp,∃ o,s2.heap.get? b=some o:=fun b hb=>let ⟨o,e,_⟩:=Tn.obj 0 _ st2 b hb;⟨o,e⟩;obtain⟨W,⟨m0,w0⟩,turn⟩:=hw s2.heap.objs.size (I2.hok.fresh (aJf _));obtain⟨bg,bi,be⟩:=hb (cellsFrom (Hq.objs.size+1) scope.names cl) Hq.objs.size s2 H2 fp;have loop:∀ s₃:Shared,s₃={ s2 with heap:=h₁ } ->
   codeAny (model X.prog X.w) X.A (.compLoop (.ListComp elt [⟨tg,iter,ifs,0⟩] scope pos) 0 (.ref it) (.ref s2.heap.objs.size) (compEnvC scope (cellsFrom (Hq.objs.size+1) scope.names cl) Hq.objs.size X.env)) (RR (.ref s2.heap.objs.size) Hq.objs.size) s₃:=by
  rintro s₃ rfl;have I0:Inv (cxB X scope N' (cellsFrom (Hq.objs.size+1) scope.names cl) Hq.objs.size s2 H2 fp) [] (cO src σ) (upd H2 s2.heap.objs.size (.lst [])) { s2 with heap:=h₁ }:=VW (t4:=s2.toks) S I2 hcl f2 ho hCl old hacc hns₁ hown;have fpOk:∀ {H':Hp},(∀ b∈fp,H' b=none)->∀ b∈fp,eS (cxB X scope N' (cellsFrom (Hq.objs.size+1) scope.names cl) Hq.objs.size s2 H2 fp) [] H' b:=fun hn b hb=>
   ⟨hn b hb,(I0.ok.exf b hb).1,I0.ok.exfs b hb,.inl hb,(I0.ok.exf b hb).2,fun p hp=>absurd (show p∈([]:List (Addr × Obj)) from hp) (by simp)⟩
  have fpOkP:∀ {H':Hp} ,(∀ b∈fp,H' b=none)->∀ b∈fp,eS (cxB X scope N' (cellsFrom (Hq.objs.size+1) scope.names cl) Hq.objs.size s2 H2 fp) [] H' b:=fun hn=>fpOk hn;refine QN (fun n s'=>∃ i σ' H',Inv (cxB X scope N' (cellsFrom (Hq.objs.size+1) scope.names cl) Hq.objs.size s2 H2 fp) [] σ' H' s'/\tn i s'.heap/\(∀ b∈fp,H' b=none)/\W i n σ' H') ?_ m0
   ⟨0,cO src σ,_,I0,Tn.keep _ _ _ st2 (fun b _ o e=>old b o e),fun b hb=>?_,w0⟩
  rotate_left
  ·obtain⟨o,e⟩:=ho b hb
   rw[aR (aJo (aHv e))];exact (f2 b hb).1
  rintro n s3 ⟨i,σ3,H3,I3,st3,fr3,w3⟩;rcases turn i n σ3 H3 w3 with ⟨stop,qn⟩ | ⟨go,step⟩
  ·refine thn (Tn.done (cxB X scope N' (cellsFrom (Hq.objs.size+1) scope.names cl) Hq.objs.size s2 H2 fp) rfl rfl rfl hc i [] s3 σ3 H3 _ I3 (fpOk fr3) st3 stop) fun r s4 ⟨hr,I4⟩=>?_
   subst hr;obtain⟨m,hm,_⟩:=I4.loc;refine hR _ _ H3 s4 m (aJf _) (aJe hCl) hm I4.free ?_ qn;exact I2.call' (ch:=fp) I4.os I4.base I4.hok I4.bare fun b hb=>⟨(f2 b hb).2.2.2.1,(f2 b hb).2.1,(f2 b hb).2.2.2.2.1,(f2 b hb).2.2.2.2.2⟩
  ·refine thn (Tn.item (cxB X scope N' (cellsFrom (Hq.objs.size+1) scope.names cl) Hq.objs.size s2 H2 fp) rfl rfl rfl hc i [] s3 σ3 H3 _ I3 (fpOk fr3) st3 go) fun r s4 ⟨u,hr,h4⟩=>?_
   subst hr;refine thn h4 fun _ s5 ⟨x,H5,I5,r5,y5,st5,fr5⟩=>?_;have I5':=I5.pinned (fpOk fr5) (Tn.obj _ _ st5);refine thn (bg _ s5 σ3 H5 x u _ I5' r5 (step x H5 y5)) fun _ s6 ⟨σ6,H6,I6,q6⟩=>?_;refine thn (bi _ s6 σ6 H6 _ I6 q6) fun ok s7 ⟨H7,I7,q7⟩=>?_;have again:∀ {σ8:St} {H8:Hp} {s8:Shared} {m':Nat},Inv (cxB X scope N' (cellsFrom (Hq.objs.size+1) scope.names cl) Hq.objs.size s2 H2 fp) ([]++sR fp s5.heap) σ8 H8 s8->m'<n->W (i+1) m' σ8 H8 ->
     ∃ m,m<n/\∃ i σ' H',Inv (cxB X scope N' (cellsFrom (Hq.objs.size+1) scope.names cl) Hq.objs.size s2 H2 fp) [] σ' H' s8/\tn i s8.heap/\(∀ b∈fp,H' b=none)/\W i m σ' H':=fun {σ8 H8 s8 m'} I8 hm w8=>by
    refine⟨m',hm,i+1,σ8,H8,I8.unpinned,Tn.keep _ _ _ st5 fun b hb o e=>(I8.pin (b,o) (aJ3 _ (aJ3 _ (wJ hb e)))).1,fun b hb=>?_,w8⟩;obtain⟨o,e,d⟩:=Tn.obj _ _ st5 b hb;exact (I8.pin (b,o) (aJ3 _ (aJ3 _ (wJ hb e)))).2.1
   cases ok with
   | false=>
    rw[if_neg aHr] at q7;rw[if_neg aHr];obtain⟨m',hm,w8⟩:=q7;exact again I7 hm w8
   | true=>
    rw[if_pos rfl] at q7;rw[if_pos rfl];refine thn (be _ s7 σ6 H7 _ I7 q7) fun xv s8 ⟨v,H8,I8,r8,q8⟩=>?_;obtain⟨xs,hx,hz,m',hm,w9⟩:=q8;refine thn (IG _ s8 σ6 H8 (.ref s2.heap.objs.size) [v] (.ref s2.heap.objs.size) [xv] (fun _ H9=>H9=upd H8 s2.heap.objs.size (.lst (xs++[v]))) I8 rfl (.cons r8 .nil) ⟨_,xs,v,rfl,rfl,hx,hz,rfl⟩) fun _ s9 ⟨_,H9,I9,_,e9⟩=>?_;subst e9;exact again I9 hm w9
 have hself:=Tn.self X.A 0 { s2 with heap:=h₁ };exact codeAny_compStart_list (loop _ rfl) (hself _ _ (Tn.keep _ _ _ st2 (fun b _ o e=>old b o e)) (loop _ rfl))
theorem IW (S:BlkOk X scope N' src) (hc:X.calm=true) (hi:PI X tg iter wi)
  (hb:∀ cl C s H ex,PG (cxB X scope N' cl C s H ex) tg g/\PIf (cxB X scope N' cl C s H ex) ifs tc/\PE (cxB X scope N' cl C s H ex) elt te)
  (hs:∀ x,foldedSetIterable iter X.env x=pure x:=by intro _;rfl):PE X (.ListComp elt [⟨tg,iter,ifs,0⟩] scope pos) (vC wi (cO src) g tc te):=by
 intro pins s σ H Q I h;obtain⟨cl,hcl⟩:∃ cl,cM X.env.cells scope.names []=some cl:=vM fun n hn=>I.ok.has n (S.frees _ hn rfl);rw[eval_ListComp];refine wpAny_comprehension_free (use:=none) rfl hs (zF hcl) S.kind S.names (thn (hi pins s σ H _ I h) fun v s1 h1=>thn h1 fun itv s2 h2=>?_);obtain⟨it,fp,tn,J,H2,e,I2,Tn,st2,f2,hw⟩:=h2;subst e;refine DV (RR:=fun acc C=>compPost (model X.prog X.w) X.A X.xe none (EP X pins σ Q) acc C) S hc hcl hb I2 Tn st2 f2 hw ?_;intro D C H' s' m hD hC hm hCn I' q;refine⟨m,hm,fun h' hsb=>?_⟩;refine⟨.ref D,H',?_,rfl,q⟩;refine I'.turned (t':=s'.toks) (it:=C) (fun b o hb e=>hsb.extBut b o hb e) hCn (aJn (aHi I2.lt hC)) (.inr (aJg I2.sz hC)) (fun x c e z=>?_) fun p hp z=>?_
 ·obtain⟨v,q⟩:=I2.cell x c e
  exact absurd (aHi q.lt (by rw[z];exact hC)) (aJh _)
 ·exact absurd (aHi (aHv (I2.pin p hp).1) (by rw[z];exact hC)) (aJh _)
theorem JG {i:Nat}{x:Str}{pos' spos:Pos}(hN:X.N.Nodup) (hiN:X.N[i]?=some x) (hx:Loc X.env.scope x) (S:BlkOk X scope N' src) (hc:X.calm=true) (hi:PI X tg iter wi)
  (hb:∀ cl C s H ex,PG (cxB X scope N' cl C s H ex) tg g/\PIf (cxB X scope N' cl C s H ex) ifs tc/\PE (cxB X scope N' cl C s H ex) elt te)
  (hsw:swapsWith (.ListComp elt [⟨tg,iter,ifs,0⟩] scope pos) (some (.Name x pos')) spos.line X.env=pure true:=by rfl)
  (hs:∀ x,foldedSetIterable iter X.env x=pure x:=by intro _;rfl) (hf:X.fn x=true\/X.env.scope.names.lookup x=some .local:=by first | exact .inl rfl | exact .inr rfl | assumption):
  PS X (.Assign [.Name x pos'] (.ListComp elt [⟨tg,iter,ifs,0⟩] scope pos) spos) (yK (vC wi (cO src) g tc te) (jP i)):=by
 intro pins s σ H D I h;obtain⟨cl,hcl⟩:∃ cl,cM X.env.cells scope.names []=some cl:=vM fun n hn=>I.ok.has n (S.frees _ hn rfl);rw[exec_Assign_Name_used _ _ _ _ hsw];refine wpAny_bind (wpAny_standAt (wpAny_bind ?_));show wpAny _ X.A (do let _ <- comprehension (.ListComp elt [⟨tg,iter,ifs,0⟩] scope pos) scope X.env _ (newList []) false (eval iter X.env) (some (assign (.Name x pos') X.env))) _ _ s;refine wpAny_bind (wpAny_mono (wpAny_comprehension_free (use:=some (assign (.Name x pos') X.env)) (Q:=fun _ s'=>SP X pins D .next s') rfl hs (zF hcl) S.kind S.names
  (thn (hi pins s σ H _ I h) fun v s1 h1=>thn h1 fun itv s2 h2=>?_)) (fun _ s' hq=>wpAny_pure (wpAny_pure hq)) fun _ _ e=>e)
 obtain⟨it,fp,tn,J,H2,e,I2,Tn,st2,f2,hw⟩:=h2;subst e;refine DV (Q:=fun v H'=>D.nx (σ.set i (some v)) H') (RR:=fun acc C=>compPost (model X.prog X.w) X.A X.xe (some (assign (.Name x pos') X.env)) (fun _ s'=>SP X pins D .next s') acc C) S hc hcl hb I2 Tn st2 f2 hw ?_;intro D' C H' s' m hD hC hm hCn I' q;show wpAny _ X.A (assign (.Name x pos') X.env (.ref D')) _ _ _;refine wpAny_assign_Name (KS I' hN hiN hx (v:=.ref D') rfl (fun s'' I'' hsb=>?_) hf);have cl':∀ x c,X.env.cells.lookup x=some c->c≠C:=fun x c e z=>by
  obtain⟨v,q⟩:=I2.cell x c e;exact absurd (aHi q.lt (by rw[z];exact hC)) (aJh _)
 have hLC:X.env.locals≠C:=aJo (aHi I2.lt hC);obtain⟨a,sb,ha⟩:=hsb;have haC:C≠a:=by
  rcases ha with rfl | ha
  ·exact Ne.symm hLC
  ·exact Ne.symm (cl' x a ha)
 refine⟨m,hm.sameBut sb haC,fun h' hsb=>⟨_,H',?_,q⟩⟩;refine I''.turned (t':=s''.toks) (it:=C) (fun b o hb e=>hsb.extBut b o hb e) hCn (Ne.symm hLC) (.inr (aJg I2.sz hC)) cl' fun p hp z=>?_;exact absurd (aHi (aHv (I2.pin p hp).1) (by rw[z];exact hC)) (aJh _)
end
end L2
namespace G
open PySem PySem.Spec PyProof.Rows L2
mutual
def eqT:T->T->Bool
 | .non,.non=>true
 | .bl a,.bl b=>a == b
 | .int a,.int b=>a == b
 | .str a,.str b=>a == b
 | .bl a,.int b=>(if a then 1 else 0) == b
 | .int a,.bl b=>a == (if b then 1 else 0)
 | .lst xs,.lst ys=>eqL xs ys
 | .tup xs,.tup ys=>eqL xs ys
 | .exc _,.exc _=>true
 | .dct _,.dct _=>true
 | .own _,.own _=>true
 | _,_=>false
def eqL:List T->List T->Bool
 | [],[]=>true
 | x::xs,y::ys=>eqT x y&&eqL xs ys
 | _,_=>false
end
mutual
def dep:T->Nat
 | .lst xs=>depL xs+1
 | .tup xs=>depL xs+1
 | .exc _=>61
 | .dct _=>61
 | .own _=>61
 | _=>0
def depL:List T->Nat
 | []=>0
 | x::xs=>max (dep x) (depL xs)
end
mutual
theorem EO:∀ t:T,eqT t t=true
 | .non=>by simp[eqT]
 | .bl _=>by simp[eqT]
 | .int _=>by simp[eqT]
 | .str _=>by simp[eqT]
 | .lst xs=>by simp[eqT,eqL_refl xs]
 | .tup xs=>by simp[eqT,eqL_refl xs]
 | .exc _=>by simp[eqT]
 | .dct _=>by simp[eqT]
 | .own _=>by simp[eqT]
theorem eqL_refl:∀ xs:List T,eqL xs xs=true
 | []=>by simp[eqL]
 | x::xs=>by simp[eqL,EO x,eqL_refl xs]
end
theorem zJ:∀ {xs:List T}{t:T}{i:Nat},xs[i]?=some t->dep t<=depL xs
 | [],_,_,e=>by simp at e
 | x::xs,t,0,e=>by simp at e;subst e;simp[depL];lia
 | x::xs,t,i+1,e=>by
  have:=zJ (xs:=xs) (i:=i) (t:=t) (by simpa using e);simp[depL];lia
theorem zN:∀ (xs ys:List T),xs.length=ys.length->eqL xs ys=(List.range xs.length).all fun j=>match xs[j]?,ys[j]? with | some a,some b=>eqT a b | _,_=>false
 | [],[],_=>by simp[eqL]
 | x::xs,y::ys,h=>by
  have ih:=zN xs ys (by simpa using h);rw[eqL,ih,aIp,List.range_succ_eq_map,List.all_cons,List.all_map];simp[Function.comp_def]
 | [],_::_,h=>by simp at h
 | _::_,[],h=>by simp at h
theorem zM:∀ (xs ys:List T),xs.length≠ys.length->eqL xs ys=false
 | [],[],h=>by simp at h
 | x::xs,y::ys,h=>by rw[eqL,zM xs ys (by simpa using h),Bool.and_false]
 | [],_::_,_=>by simp[eqL]
 | _::_,[],_=>by simp[eqL]
section
variable {X:Cx}{pins:List (Addr × Obj)}{σ:St}{H:Hp}{s:Shared}
mutual
theorem BW (I:Inv X pins σ H s) {A A':Addr->Prop}:∀ (t u:T) {v:V},dep t<=60->dep u<=60->Rep X.K H A t v->Rep X.K H A' u v->eqT t u=true
 | .non,.non,_,hd,hd2,_,_=>by simp[eqT]
 | .bl _,.bl _,_,hd,hd2,h,q=>by cases (show _=_ from h);cases (show _=_ from q);simp[eqT]
 | .int _,.int _,_,hd,hd2,h,q=>by cases (show _=_ from h);cases (show _=_ from q);simp[eqT]
 | .str _,.str _,_,hd,hd2,h,q=>by cases (show _=_ from h);cases (show _=_ from q);simp[eqT]
 | .lst xs,.lst ys,_,hd,hd2,h,q=>by
  obtain⟨a,us,e,h1,h2⟩:=h.sqL;obtain⟨b,ws,e',q1,q2⟩:=q.sqL;subst e;cases e';have:=I.list_inj h1 q1;subst this;rw[eqT];exact repL_same I xs ys (by simp[dep] at hd;lia) (by simp[dep] at hd2;lia) h2 q2
 | .tup xs,.tup ys,_,hd,hd2,h,q=>by
  obtain⟨a,us,e,h1,h2⟩:=h.sqT;obtain⟨b,ws,e',q1,q2⟩:=q.sqT;subst e;cases e';have:=I.tuple_inj h1 q1;subst this;rw[eqT];exact repL_same I xs ys (by simp[dep] at hd;lia) (by simp[dep] at hd2;lia) h2 q2
 | .lst xs,.tup ys,_,hd,hd2,h,q=>by
  obtain⟨a,us,e,h1,h2⟩:=h.sqL;obtain⟨b,ws,e',q1,q2⟩:=q.sqT;subst e;cases e'
  exfalso
  obtain⟨_,_,p1,_⟩:=I.list h1;obtain⟨_,_,p2,_⟩:=I.tuple q1;exact SeqAt.ne_of_list_tuple p1.isList p2 rfl
 | .tup xs,.lst ys,_,hd,hd2,h,q=>by
  obtain⟨a,us,e,h1,h2⟩:=h.sqT;obtain⟨b,ws,e',q1,q2⟩:=q.sqL;subst e;cases e'
  exfalso
  obtain⟨_,_,p1,_⟩:=I.tuple h1;obtain⟨_,_,p2,_⟩:=I.list q1;exact SeqAt.ne_of_list_tuple p2.isList p1 rfl
 | .non,.bl _,_,hd,hd2,h,q=>by cases (show _=_ from h);cases (show _=_ from q)
 | .non,.int _,_,hd,hd2,h,q=>by cases (show _=_ from h);cases (show _=_ from q)
 | .non,.str _,_,hd,hd2,h,q=>by cases (show _=_ from h);cases (show _=_ from q)
 | .non,.lst _,_,hd,hd2,h,q=>by cases (show _=_ from h);obtain⟨_,_,e,_⟩:=q;cases e
 | .non,.tup _,_,hd,hd2,h,q=>by cases (show _=_ from h);obtain⟨_,_,e,_⟩:=q;cases e
 | .bl _,.non,_,hd,hd2,h,q=>by cases (show _=_ from h);cases (show _=_ from q)
 | .bl _,.int _,_,hd,hd2,h,q=>by cases (show _=_ from h);cases (show _=_ from q)
 | .bl _,.str _,_,hd,hd2,h,q=>by cases (show _=_ from h);cases (show _=_ from q)
 | .bl _,.lst _,_,hd,hd2,h,q=>by cases (show _=_ from h);obtain⟨_,_,e,_⟩:=q;cases e
 | .bl _,.tup _,_,hd,hd2,h,q=>by cases (show _=_ from h);obtain⟨_,_,e,_⟩:=q;cases e
 | .int _,.non,_,hd,hd2,h,q=>by cases (show _=_ from h);cases (show _=_ from q)
 | .int _,.bl _,_,hd,hd2,h,q=>by cases (show _=_ from h);cases (show _=_ from q)
 | .int _,.str _,_,hd,hd2,h,q=>by cases (show _=_ from h);cases (show _=_ from q)
 | .int _,.lst _,_,hd,hd2,h,q=>by cases (show _=_ from h);obtain⟨_,_,e,_⟩:=q;cases e
 | .int _,.tup _,_,hd,hd2,h,q=>by cases (show _=_ from h);obtain⟨_,_,e,_⟩:=q;cases e
 | .str _,.non,_,hd,hd2,h,q=>by cases (show _=_ from h);cases (show _=_ from q)
 | .str _,.bl _,_,hd,hd2,h,q=>by cases (show _=_ from h);cases (show _=_ from q)
 | .str _,.int _,_,hd,hd2,h,q=>by cases (show _=_ from h);cases (show _=_ from q)
 | .str _,.lst _,_,hd,hd2,h,q=>by cases (show _=_ from h);obtain⟨_,_,e,_⟩:=q;cases e
 | .str _,.tup _,_,hd,hd2,h,q=>by cases (show _=_ from h);obtain⟨_,_,e,_⟩:=q;cases e
 | .lst _,.non,_,hd,hd2,h,q=>by cases (show _=_ from q);obtain⟨_,_,e,_⟩:=h;cases e
 | .lst _,.bl _,_,hd,hd2,h,q=>by cases (show _=_ from q);obtain⟨_,_,e,_⟩:=h;cases e
 | .lst _,.int _,_,hd,hd2,h,q=>by cases (show _=_ from q);obtain⟨_,_,e,_⟩:=h;cases e
 | .lst _,.str _,_,hd,hd2,h,q=>by cases (show _=_ from q);obtain⟨_,_,e,_⟩:=h;cases e
 | .tup _,.non,_,hd,hd2,h,q=>by cases (show _=_ from q);obtain⟨_,_,e,_⟩:=h;cases e
 | .tup _,.bl _,_,hd,hd2,h,q=>by cases (show _=_ from q);obtain⟨_,_,e,_⟩:=h;cases e
 | .tup _,.int _,_,hd,hd2,h,q=>by cases (show _=_ from q);obtain⟨_,_,e,_⟩:=h;cases e
 | .tup _,.str _,_,hd,hd2,h,q=>by cases (show _=_ from q);obtain⟨_,_,e,_⟩:=h;cases e
 | .non,.exc _,_,_,hd2,_,_=>by simp[dep] at hd2
 | .non,.dct _,_,_,hd2,_,_=>by simp[dep] at hd2
 | .non,.own _,_,_,hd2,_,_=>by simp[dep] at hd2
 | .bl _,.exc _,_,_,hd2,_,_=>by simp[dep] at hd2
 | .bl _,.dct _,_,_,hd2,_,_=>by simp[dep] at hd2
 | .bl _,.own _,_,_,hd2,_,_=>by simp[dep] at hd2
 | .int _,.exc _,_,_,hd2,_,_=>by simp[dep] at hd2
 | .int _,.dct _,_,_,hd2,_,_=>by simp[dep] at hd2
 | .int _,.own _,_,_,hd2,_,_=>by simp[dep] at hd2
 | .str _,.exc _,_,_,hd2,_,_=>by simp[dep] at hd2
 | .str _,.dct _,_,_,hd2,_,_=>by simp[dep] at hd2
 | .str _,.own _,_,_,hd2,_,_=>by simp[dep] at hd2
 | .lst _,.exc _,_,_,hd2,_,_=>by simp[dep] at hd2
 | .lst _,.dct _,_,_,hd2,_,_=>by simp[dep] at hd2
 | .lst _,.own _,_,_,hd2,_,_=>by simp[dep] at hd2
 | .tup _,.exc _,_,_,hd2,_,_=>by simp[dep] at hd2
 | .tup _,.dct _,_,_,hd2,_,_=>by simp[dep] at hd2
 | .tup _,.own _,_,_,hd2,_,_=>by simp[dep] at hd2
 | .exc _,_,_,hd,_,_,_=>by simp[dep] at hd
 | .dct _,_,_,hd,_,_,_=>by simp[dep] at hd
 | .own _,_,_,hd,_,_,_=>by simp[dep] at hd
theorem repL_same (I:Inv X pins σ H s) {A A':Addr->Prop}:∀ (ts us:List T) {xs:List V},depL ts<=60->depL us<=60->RepL X.K H A ts xs->RepL X.K H A' us xs->eqL ts us=true
 | [],[],_,_,_,_,_=>by simp[eqL]
 | t::ts,u::us,_,hd,hd2,h,q=>by
  simp only[depL] at hd hd2;obtain⟨x,r,e,h1,h2⟩:=h;obtain⟨y,r',e',q1,q2⟩:=q;subst e;cases e';rw[eqL,BW I t u (by lia) (by lia) h1 q1,repL_same I ts us (by lia) (by lia) h2 q2]
  rfl
 | [],_::_,_,_,_,h,q=>by
  cases (show _=_ from h);obtain⟨_,_,e,_⟩:=q;cases e
 | _::_,[],_,_,_,h,q=>by
  cases (show _=_ from q);obtain⟨_,_,e,_⟩:=h;cases e
end
open SeqAt in
theorem EQ (I : Inv X pins σ H s) {A A' : Addr -> Prop} : ∀ (n : Nat) (Ar : Around) (t u : T) (v w : V) (x y : Value), n <= 60 -> dep t <= n -> dep u <= 60 -> Ar.units + n < cLine -> Rep X.K H A t v -> Rep X.K H A' u w -> aX v x -> aX w y -> EqAt Ar s x y (eqT t u) /\ RcAt Ar s x y (eqT t u) /\ RcNeAt Ar s x y (!eqT t u) := by
 intro n
 induction n with
 | zero =>
  intro Ar t u v w x y hn hd hdu hu h q r r';have hu' : Ar.units < cLine := by lia
  cases t with
  | lst _ => simp [dep] at hd
  | tup _ => simp [dep] at hd
  | exc _ => simp [dep] at hd
  | dct _ => simp [dep] at hd
  | own _ => simp [dep] at hd
  | non =>
   cases (show _ = _ from h); cases (show _ = _ from r);cases u with
   | exc _ => simp [dep] at hdu
   | dct _ => simp [dep] at hdu
   | own _ => simp [dep] at hdu
   | non => cases (show _ = _ from q); cases (show _ = _ from r'); exact ⟨EqAt.same _, RcAt.none_none, RcNeAt.none_none⟩
   | bl b => cases (show _ = _ from q); cases (show _ = _ from r'); exact ⟨EqAt.none_bool _, RcAt.none_bool _, RcNeAt.none_bool _⟩
   | int b => cases (show _ = _ from q); obtain ⟨k, rfl⟩ := r'; exact ⟨EqAt.none_int _ _, RcAt.none_int _ _, RcNeAt.none_int _ _⟩
   | str b => cases (show _ = _ from q); obtain ⟨k, rfl⟩ := r'; exact ⟨EqAt.none_str _ _, RcAt.none_str _ _, RcNeAt.none_str _ _⟩
   | lst b =>
    obtain ⟨a, us, rfl, q1, q2⟩ := q.sqL;cases r';obtain ⟨_, _, p1, _⟩ := I.list q1;exact ⟨EqAt.none_list p1.isList hu', RcAt.none_list p1.isList hu', RcNeAt.none_list p1.isList hu'⟩
   | tup b =>
    obtain ⟨a, us, rfl, q1, q2⟩ := q.sqT;cases r';obtain ⟨_, _, p1, _⟩ := I.tuple q1;exact ⟨EqAt.none_tuple p1 hu', RcAt.none_tuple p1 hu', RcNeAt.none_tuple p1 hu'⟩
  | bl c =>
   cases (show _ = _ from h); cases (show _ = _ from r);cases u with
   | exc _ => simp [dep] at hdu
   | dct _ => simp [dep] at hdu
   | own _ => simp [dep] at hdu
   | non => cases (show _ = _ from q); cases (show _ = _ from r'); exact ⟨EqAt.bool_none _, RcAt.bool_none _, RcNeAt.bool_none _⟩
   | bl b => cases (show _ = _ from q); cases (show _ = _ from r'); exact ⟨EqAt.bool_bool _ _, RcAt.bool_bool _ _, RcNeAt.bool_bool _ _⟩
   | int b => cases (show _ = _ from q); obtain ⟨k, rfl⟩ := r'; exact ⟨EqAt.bool_int _ _ _, RcAt.bool_int _ _ _, RcNeAt.bool_int _ _ _⟩
   | str b => cases (show _ = _ from q); obtain ⟨k, rfl⟩ := r'; exact ⟨EqAt.bool_str _ _ _, RcAt.bool_str _ _ _, RcNeAt.bool_str _ _ _⟩
   | lst b =>
    obtain ⟨a, us, rfl, q1, q2⟩ := q.sqL;cases r';obtain ⟨_, _, p1, _⟩ := I.list q1;exact ⟨EqAt.bool_list _ p1.isList hu', RcAt.bool_list _ p1.isList hu', RcNeAt.bool_list _ p1.isList hu'⟩
   | tup b =>
    obtain ⟨a, us, rfl, q1, q2⟩ := q.sqT;cases r';obtain ⟨_, _, p1, _⟩ := I.tuple q1;exact ⟨EqAt.bool_tuple _ p1 hu', RcAt.bool_tuple _ p1 hu', RcNeAt.bool_tuple _ p1 hu'⟩
  | int c =>
   cases (show _ = _ from h); obtain ⟨k', rfl⟩ := r;cases u with
   | exc _ => simp [dep] at hdu
   | dct _ => simp [dep] at hdu
   | own _ => simp [dep] at hdu
   | non => cases (show _ = _ from q); cases (show _ = _ from r'); exact ⟨EqAt.int_none _ _, RcAt.int_none _ _, RcNeAt.int_none _ _⟩
   | bl b => cases (show _ = _ from q); cases (show _ = _ from r'); exact ⟨EqAt.int_bool _ _ _, RcAt.int_bool _ _ _, RcNeAt.int_bool _ _ _⟩
   | int b => cases (show _ = _ from q); obtain ⟨k, rfl⟩ := r'; exact ⟨EqAt.int_int _ _ _ _, RcAt.int_int _ _ _ _, RcNeAt.int_int _ _ _ _⟩
   | str b => cases (show _ = _ from q); obtain ⟨k, rfl⟩ := r'; exact ⟨EqAt.int_str _ _ _ _, RcAt.int_str _ _ _ _, RcNeAt.int_str _ _ _ _⟩
   | lst b =>
    obtain ⟨a, us, rfl, q1, q2⟩ := q.sqL;cases r';obtain ⟨_, _, p1, _⟩ := I.list q1;exact ⟨EqAt.int_list _ _ p1.isList hu', RcAt.int_list _ _ p1.isList hu', RcNeAt.int_list _ _ p1.isList hu'⟩
   | tup b =>
    obtain ⟨a, us, rfl, q1, q2⟩ := q.sqT;cases r';obtain ⟨_, _, p1, _⟩ := I.tuple q1;exact ⟨EqAt.int_tuple _ _ p1 hu', RcAt.int_tuple _ _ p1 hu', RcNeAt.int_tuple _ _ p1 hu'⟩
  | str c =>
   cases (show _ = _ from h); obtain ⟨k', rfl⟩ := r;cases u with
   | exc _ => simp [dep] at hdu
   | dct _ => simp [dep] at hdu
   | own _ => simp [dep] at hdu
   | non => cases (show _ = _ from q); cases (show _ = _ from r'); exact ⟨EqAt.str_none _ _, RcAt.str_none _ _, RcNeAt.str_none _ _⟩
   | bl b => cases (show _ = _ from q); cases (show _ = _ from r'); exact ⟨EqAt.str_bool _ _ _, RcAt.str_bool _ _ _, RcNeAt.str_bool _ _ _⟩
   | int b => cases (show _ = _ from q); obtain ⟨k, rfl⟩ := r'; exact ⟨EqAt.str_int _ _ _ _, RcAt.str_int _ _ _ _, RcNeAt.str_int _ _ _ _⟩
   | str b => cases (show _ = _ from q); obtain ⟨k, rfl⟩ := r'; exact ⟨EqAt.str_str _ _ _ _, RcAt.str_str _ _ _ _, RcNeAt.str_str _ _ _ _⟩
   | lst b =>
    obtain ⟨a, us, rfl, q1, q2⟩ := q.sqL;cases r';obtain ⟨_, _, p1, _⟩ := I.list q1;exact ⟨EqAt.str_list _ _ p1.isList hu', RcAt.str_list _ _ p1.isList hu', RcNeAt.str_list _ _ p1.isList hu'⟩
   | tup b =>
    obtain ⟨a, us, rfl, q1, q2⟩ := q.sqT;cases r';obtain ⟨_, _, p1, _⟩ := I.tuple q1;exact ⟨EqAt.str_tuple _ _ p1 hu', RcAt.str_tuple _ _ p1 hu', RcNeAt.str_tuple _ _ p1 hu'⟩
 | succ n ih =>
  intro Ar t u v w x y hn hd hdu hu h q r r';have hu' : Ar.units < cLine := by lia
  have sc : G.scal t = true -> EqAt Ar s x y (eqT t u) /\ RcAt Ar s x y (eqT t u) /\ RcNeAt Ar s x y (!eqT t u) := fun sc =>
   ih Ar t u v w x y (by lia) (by cases t <;> first | (simp [dep]; done) | (simp [G.scal] at sc)) hdu (by lia) h q r r'
  -- the parts of two sequences
  have parts : ∀ {ts us : List T} {xs ys : List V} {its its2 : List Value}, depL ts <= n -> depL us <= 60 -> RepL X.K H A ts xs -> RepL X.K H A' us ys -> aL xs its -> aL ys its2 ->
    ∀ j (h1 : j < its.toArray.size) (h2 : j < its2.toArray.size), EqAt Ar.in1 s its.toArray[j] its2.toArray[j] (match ts[j]?, us[j]? with | some a, some b => eqT a b | _, _ => false) := by
   intro ts us xs ys its its2 hdn hdm hr hq hv hv' j h1 h2;have l1 := hr.length;have l2 := hq.length;have l3 := hv.length;have l4 := hv'.length;simp only [aHj] at h1 h2;have e1 : ts[j]? = some ts[j] := aHc (by lia);have e2 : us[j]? = some us[j] := aHc (by lia);obtain ⟨a, g1, ra⟩ := hr.get e1;obtain ⟨b, g2, rb⟩ := hq.get e2;obtain ⟨c, g3, rc⟩ := hv.get g1;obtain ⟨d, g4, rd⟩ := hv'.get g2;have i1 : its.toArray[j] = c := by
    have := (aHf.mp g3).2
    simpa using this
   have i2 : its2.toArray[j] = d := by
    have := (aHf.mp g4).2
    simpa using this
   rw [i1, i2, e1, e2];exact (ih Ar.in1 _ _ a b c d (by lia) (aJg (zJ e1) hdn) (aJg (zJ e2) hdm) (by show Ar.units + 1 + n < cLine; lia) ra rb rc rd).1
  cases t with
  | non => exact sc rfl
  | bl _ => exact sc rfl
  | int _ => exact sc rfl
  | str _ => exact sc rfl
  | exc _ => exfalso; simp [dep] at hd; lia
  | dct _ => exfalso; simp [dep] at hd; lia
  | own _ => exfalso; simp [dep] at hd; lia
  | lst ts =>
   have hd' : depL ts <= n := by simp [dep] at hd; lia
   obtain ⟨a, xs, rfl, h1, h2⟩ := h.sqL;cases r;obtain ⟨its, hv, p1, _⟩ := I.list h1;have l1 := h2.length;have l3 := hv.length;cases u with
   | exc _ => simp [dep] at hdu
   | dct _ => simp [dep] at hdu
   | own _ => simp [dep] at hdu
   | non => cases (show _ = _ from q); cases (show _ = _ from r'); exact ⟨EqAt.list_none p1.isList hu', RcAt.list_none p1.isList hu', RcNeAt.list_none p1.isList hu'⟩
   | bl b => cases (show _ = _ from q); cases (show _ = _ from r'); exact ⟨EqAt.list_bool _ p1.isList hu', RcAt.list_bool _ p1.isList hu', RcNeAt.list_bool _ p1.isList hu'⟩
   | int b => cases (show _ = _ from q); obtain ⟨k, rfl⟩ := r'; exact ⟨EqAt.list_int _ _ p1.isList hu', RcAt.list_int _ _ p1.isList hu', RcNeAt.list_int _ _ p1.isList hu'⟩
   | str b => cases (show _ = _ from q); obtain ⟨k, rfl⟩ := r'; exact ⟨EqAt.list_str _ _ p1.isList hu', RcAt.list_str _ _ p1.isList hu', RcNeAt.list_str _ _ p1.isList hu'⟩
   | lst us =>
    obtain ⟨b, ys, rfl, q1, q2⟩ := q.sqL;cases r';obtain ⟨its2, hv', p2, _⟩ := I.list q1;have l2 := q2.length;have l4 := hv'.length;have rc : RcAt Ar s (.ref a) (.ref b) (eqT (.lst ts) (.lst us)) /\ RcNeAt Ar s (.ref a) (.ref b) (!eqT (.lst ts) (.lst us)) := by
     rw [eqT]
     by_cases hl : ts.length = us.length
     ·have hz : its.toArray.size = its2.toArray.size := by simp only [aHj]; lia
      have e1 := RcAt.lists p1.isList p2.isList hz hu' (parts hd' (by simp [dep] at hdu; lia) h2 q2 hv hv');have e2 := RcNeAt.lists p1.isList p2.isList hz hu' (parts hd' (by simp [dep] at hdu; lia) h2 q2 hv hv');have el : its.toArray.size = ts.length := by simp only [aHj]; lia
      rw [el, <- zN ts us hl] at e1 e2;exact ⟨e1, e2⟩
     ·have hz : (its.toArray.size != its2.toArray.size) = true := by simp only [aHj]; simp; lia
      rw [zM ts us hl];exact ⟨RcAt.lists_lengths p1.isList p2.isList hz hu', RcNeAt.lists_lengths p1.isList p2.isList hz hu'⟩
    refine ⟨?_, rc⟩
    by_cases hab : a = b
    ·subst hab
     rw [BW I (.lst ts) (.lst us) (by lia) hdu h q];exact EqAt.same _
    ·exact EqAt.of_refs hab rc.1
   | tup us =>
    obtain ⟨b, ys, rfl, q1, q2⟩ := q.sqT;cases r';obtain ⟨its2, hv', p2, _⟩ := I.tuple q1;exact ⟨EqAt.list_tuple p1.isList p2 hu', RcAt.list_tuple p1.isList p2 hu', RcNeAt.list_tuple p1.isList p2 hu'⟩
  | tup ts =>
   have hd' : depL ts <= n := by simp [dep] at hd; lia
   obtain ⟨a, xs, rfl, h1, h2⟩ := h.sqT;cases r;obtain ⟨its, hv, p1, _⟩ := I.tuple h1;have l1 := h2.length;have l3 := hv.length;cases u with
   | exc _ => simp [dep] at hdu
   | dct _ => simp [dep] at hdu
   | own _ => simp [dep] at hdu
   | non => cases (show _ = _ from q); cases (show _ = _ from r'); exact ⟨EqAt.tuple_none p1 hu', RcAt.tuple_none p1 hu', RcNeAt.tuple_none p1 hu'⟩
   | bl b => cases (show _ = _ from q); cases (show _ = _ from r'); exact ⟨EqAt.tuple_bool _ p1 hu', RcAt.tuple_bool _ p1 hu', RcNeAt.tuple_bool _ p1 hu'⟩
   | int b => cases (show _ = _ from q); obtain ⟨k, rfl⟩ := r'; exact ⟨EqAt.tuple_int _ _ p1 hu', RcAt.tuple_int _ _ p1 hu', RcNeAt.tuple_int _ _ p1 hu'⟩
   | str b => cases (show _ = _ from q); obtain ⟨k, rfl⟩ := r'; exact ⟨EqAt.tuple_str _ _ p1 hu', RcAt.tuple_str _ _ p1 hu', RcNeAt.tuple_str _ _ p1 hu'⟩
   | lst us =>
    obtain ⟨b, ys, rfl, q1, q2⟩ := q.sqL;cases r';obtain ⟨its2, hv', p2, _⟩ := I.list q1;exact ⟨EqAt.tuple_list p1 p2.isList hu', RcAt.tuple_list p1 p2.isList hu', RcNeAt.tuple_list p1 p2.isList hu'⟩
   | tup us =>
    obtain ⟨b, ys, rfl, q1, q2⟩ := q.sqT;cases r';obtain ⟨its2, hv', p2, _⟩ := I.tuple q1;have l2 := q2.length;have l4 := hv'.length;have el : its.toArray.size = ts.length := by simp only [aHj]; lia
    have el2 : its2.toArray.size = us.length := by simp only [aHj]; lia
    have same : ((List.range (min its.toArray.size its2.toArray.size)).all (fun j => match ts[j]?, us[j]? with | some a, some b => eqT a b | _, _ => false) && its.toArray.size == its2.toArray.size) = eqL ts us := by
     by_cases hl : ts.length = us.length
     ·rw [el, el2, <- hl, Nat.min_self, <- zN ts us hl, beq_self_eq_true, Bool.and_true]
     ·rw [zM ts us hl, el, el2, beq_false_of_ne hl, Bool.and_false]
    have e1 := RcAt.tuples p1 p2 hu' (parts hd' (by simp [dep] at hdu; lia) h2 q2 hv hv');have e2 := RcNeAt.tuples p1 p2 hu' (parts hd' (by simp [dep] at hdu; lia) h2 q2 hv hv');rw [same] at e1 e2;have rc : RcAt Ar s (.ref a) (.ref b) (eqT (.tup ts) (.tup us)) /\ RcNeAt Ar s (.ref a) (.ref b) (!eqT (.tup ts) (.tup us)) := by
     rw [eqT]; exact ⟨e1, e2⟩
    refine ⟨?_, rc⟩
    by_cases hab : a = b
    ·subst hab
     rw [BW I (.tup ts) (.tup us) (by lia) hdu h q];exact EqAt.same _
    ·exact EqAt.of_refs hab rc.1
end
def GOp (K:PySem.W.Frag) (r:R2) (F:T->T->Option T):Prop:=∀ x y t,F x y=some t->scal t=true/\∀ (H:Hp) (A A':Addr->Prop) (vx vy:V),Rep K H A x vx->Rep K H A' y vy->∀ Q:VK,Q (tv t) H->r vx vy H Q
theorem SOp.gop {K:PySem.W.Frag}{r:R2}{F:T->T->Option T}(h:SOp r F):GOp K r F:=fun x y t e=>by
 obtain⟨sx,sy,st,k⟩:=h x y t e;refine⟨st,fun H A A' vx vy rx ry Q q=>?_⟩;rw[JV sx] at rx;rw[JV sy] at ry;subst rx ry;exact k H Q q
def isB:T->Option Bool
 | .bl b=>some b
 | _=>none
def fB (f:Rho->Option T):Rho->Option Bool:=fun ρ=>(f ρ).bind isB
theorem wF {t:T}{b:Bool}(h:isB t=some b):t=.bl b:=by
 cases t<;>first | (cases h;done) | skip
 cases (aHa h);rfl
section
variable {X:Cx}{B:Hp}{fl:List Nat}{a b c e:Expr}{es:List Expr}{f g:Rho->Option T}{fa:Rho->Option (List T)}{p q:Rho->Option Bool}{n n':Bool}{l l':Nat}{pos:Pos}{op:CmpOp}{r:R2}{F:T->T->Option T}
theorem FQ (ho:OpR X (compareOp op) r) (hF:GOp X.K r F) (ha:GE X B fl a f n l) (hb:GE X B fl b g n' l') (hm:behindInMarks op b=false):GE X B fl (.Compare a [op] [b] pos) (f2 f g F) true 3:=by
 refine bB (IU ho ha hb hm) ?_;rintro σ H Q ⟨Ex,ρ,M,t,S,hf,q⟩;obtain⟨x,hx,hf⟩:=bind_some hf;obtain⟨y,hy,hf⟩:=bind_some hf;obtain⟨st,k⟩:=hF x y t hf;refine⟨Ex,ρ,M,x,S,hx,fun vx H1 s1 rx=>⟨Ex,ρ,M,y,S.grow s1,hy,fun vy H2 s2 ry=>?_⟩⟩;exact k H2 _ _ vx vy ((rx.rep S).grow s2) (ry.rep (S.grow s1)) Q (q _ H2 (s1.trans s2) ((aO.scal st).mpr rfl))
theorem qD (ho:OpR X (compareOp op) r) (hF:GOp X.K r F) (ha:GE X B fl a f n l) (hb:GE X B fl b g n' l') (hm:behindInMarks op b=false):GT X B fl (.Compare a [op] [b] pos) (fB (f2 f g F)):=by
 refine BL (aBy ho ha hb hm) ?_;rintro σ H Q ⟨Ex,ρ,M,c,S,hf,q⟩;obtain⟨t,hf,hc⟩:=bind_some hf;cases wF hc;obtain⟨x,hx,hf⟩:=bind_some hf;obtain⟨y,hy,hf⟩:=bind_some hf;obtain⟨st,k⟩:=hF x y _ hf;refine⟨Ex,ρ,M,x,S,hx,fun vx H1 s1 rx=>⟨Ex,ρ,M,y,S.grow s1,hy,fun vy H2 s2 ry=>?_⟩⟩;exact k H2 _ _ vx vy ((rx.rep S).grow s2) (ry.rep (S.grow s1)) _ ⟨c,rfl,q H2 (s1.trans s2)⟩
def oEq:T->T->Option T:=fun x y=>if max (dep x) (dep y)<=60 then some (.bl (eqT x y)) else none
def oNe:T->T->Option T:=fun x y=>if max (dep x) (dep y)<=60 then some (.bl (!eqT x y)) else none
def xE (K:PySem.W.Frag) (neg:Bool):R2:=fun x y H Q=>∃ t u A A',max (dep t) (dep u)<=60/\Rep K H A t x/\Rep K H A' u y/\Q (.bl (if neg then !eqT t u else eqT t u)) H
theorem IM (hu:X.A.units+64<cLine):OpR X (compareOp .Eq) (xE X.K false):=by
 intro pins s σ H x y v u Q I rx ry h;obtain⟨t,u',A,A',hd,r1,r2,q⟩:=h;exact (EQ I 60 X.A t u' x y v u (aJf _) (by lia) (by lia) (by lia) r1 r2 rx ry).2.1 _ _ _ _ ⟨.bl _,H,I,rfl,q⟩
theorem aAg (hu:X.A.units+64<cLine):OpR X (compareOp .NotEq) (xE X.K true):=by
 intro pins s σ H x y v u Q I rx ry h;obtain⟨t,u',A,A',hd,r1,r2,q⟩:=h;exact (EQ I 60 X.A t u' x y v u (aJf _) (by lia) (by lia) (by lia) r1 r2 rx ry).2.2 _ _ _ _ ⟨.bl _,H,I,rfl,q⟩
theorem GF {K:PySem.W.Frag}:GOp K (xE K false) oEq:=by
 intro x y t h;unfold oEq at h;split at h
 ·rename_i hd
  cases h;exact⟨rfl,fun H A A' vx vy rx ry Q q=>⟨x,y,A,A',hd,rx,ry,q⟩⟩
 ·cases h
theorem UQ {K:PySem.W.Frag}:GOp K (xE K true) oNe:=by
 intro x y t h;unfold oNe at h;split at h
 ·rename_i hd
  cases h;exact⟨rfl,fun H A A' vx vy rx ry Q q=>⟨x,y,A,A',hd,rx,ry,q⟩⟩
 ·cases h
theorem qA (hu:X.A.units+64<cLine) (ha:GE X B fl a f n l) (hb:GE X B fl b g n' l'):GE X B fl (.Compare a [.Eq] [b] pos) (f2 f g oEq) true 3:=FQ (IM hu) GF ha hb (jG _)
theorem fQ (hu:X.A.units+64<cLine) (ha:GE X B fl a f n l) (hb:GE X B fl b g n' l'):GT X B fl (.Compare a [.Eq] [b] pos) (fB (f2 f g oEq)):=qD (IM hu) GF ha hb (jG _)
theorem GU (hu:X.A.units+64<cLine) (ha:GE X B fl a f n l) (hb:GE X B fl b g n' l'):GT X B fl (.Compare a [.NotEq] [b] pos) (fB (f2 f g oNe)):=qD (aAg hu) UQ ha hb (jG _)
theorem wC (ha:GE X B fl a f n l) (hb:GE X B fl b g n' l'):GT X B fl (.Compare a [.Lt] [b] pos) (fB (f2 f g oLt)):=qD IO (SOp.gop (kD (fun _ _=>rfl) fun _ _=>rfl)) ha hb (jG _)
theorem qE (ha:GE X B fl a f n l) (hb:GE X B fl b g n' l'):GT X B fl (.Compare a [.Gt] [b] pos) (fB (f2 f g oGt)):=qD aAe (SOp.gop (kD (fun _ _=>rfl) fun _ _=>rfl)) ha hb (jG _)
def qJ:T->Bool
 | .non=>true
 | _=>false
theorem JT {K:PySem.W.Frag}{H:Hp}{A:Addr->Prop}{t:T}{v:V}(h:Rep K H A t v):decide (v=.non)=qJ t:=by
 cases t with
 | non=>cases (show _=_ from h);rfl
 | bl _=>cases (show _=_ from h);rfl
 | int _=>cases (show _=_ from h);rfl
 | str _=>cases (show _=_ from h);rfl
 | lst _=>obtain⟨a,xs,rfl,_⟩:=h;rfl
 | tup _=>obtain⟨a,xs,rfl,_⟩:=h;rfl
 | exc _=>obtain⟨a,C,rfl,_⟩:=h;rfl
 | dct _=>obtain⟨a,rfl,_⟩:=h;rfl
 | own _=>obtain⟨a,xs,rfl,_⟩:=h;rfl
def oIs:T->T->Option T:=fun x y=>if qJ y then some (.bl (qJ x)) else none
def wQ:T->T->Option T:=fun x y=>if qJ y then some (.bl (!qJ x)) else none
theorem HQ {y:T}(h:qJ y=true):y=.non:=by cases y<;>first | rfl | cases h
theorem GH {K:PySem.W.Frag}:GOp K (fun x y H Q=>y=.non/\Q (.bl (decide (x=.non))) H) oIs:=by
 intro x y t h;unfold oIs at h;split at h
 ·rename_i hy
  cases h;cases HQ hy;exact⟨rfl,fun H A A' vx vy rx ry Q q=>⟨ry,by rw[JT rx];exact q⟩⟩
 ·cases h
theorem UP {K:PySem.W.Frag}:GOp K (fun x y H Q=>y=.non/\Q (.bl (!decide (x=.non))) H) wQ:=by
 intro x y t h;unfold wQ at h;split at h
 ·rename_i hy
  cases h;cases HQ hy;exact⟨rfl,fun H A A' vx vy rx ry Q q=>⟨ry,by rw[JT rx];exact q⟩⟩
 ·cases h
theorem TY (ha:GE X B fl a f n l) (hb:GE X B fl b g n' l'):GE X B fl (.Compare a [.Is] [b] pos) (f2 f g oIs) true 3:=FQ IN GH ha hb (jG _)
theorem VA (ha:GE X B fl a f n l) (hb:GE X B fl b g n' l'):GT X B fl (.Compare a [.Is] [b] pos) (fB (f2 f g oIs)):=qD IN GH ha hb (jG _)
theorem VC (ha:GE X B fl a f n l) (hb:GE X B fl b g n' l'):GT X B fl (.Compare a [.IsNot] [b] pos) (fB (f2 f g wQ)):=qD aAh UP ha hb (jG _)
def vD:T->Option Bool
 | .non=>some false
 | .bl b=>some b
 | .int i=>some (i != 0)
 | .lst ts=>some (!ts.isEmpty)
 | .tup ts=>some (!ts.isEmpty)
 | .str _=>none
 | .exc _=>none
 | .dct _=>none
 | .own _=>none
theorem aCf {K:PySem.W.Frag}{H:Hp}{A:Addr->Prop}{t:T}{v:V}{k:Bool}(h:Rep K H A t v) (e:vD t=some k):yV K v H k:=by
 cases t with
 | non=>cases (show _=_ from h);exact (aHa e).symm
 | bl _=>cases (show _=_ from h);exact (aHa e).symm
 | int _=>cases (show _=_ from h);exact (aHa e).symm
 | str _=>cases e
 | exc _=>cases e
 | dct _=>cases e
 | own _=>cases e
 | lst ts=>
  obtain⟨a,xs,rfl,h1,h2⟩:=h.sqL;have hl:=h2.length;refine .inl ⟨xs,h1,(aHa e).symm.trans ?_⟩;cases ts<;>cases xs<;>simp at hl ⊢
 | tup ts=>
  obtain⟨a,xs,rfl,h1,h2⟩:=h.sqT;have hl:=h2.length;refine .inr (.inl ⟨xs,h1,(aHa e).symm.trans ?_⟩);cases ts<;>cases xs<;>simp at hl ⊢
def fT (f:Rho->Option T):Rho->Option Bool:=fun ρ=>(f ρ).bind vD
theorem gP (h:GE X B fl e f n l) (he:∀ whole,isTrue e X.env whole=(do let v <- whole;standAt e.pos;holding [v] (truthy v)):=by intro _;rfl):GT X B fl e (fT f):=by
 refine BL (aC0 h he) ?_;rintro σ H Q ⟨Ex,ρ,M,c,S,hf,q⟩;obtain⟨t,hf,hc⟩:=bind_some hf;exact⟨Ex,ρ,M,t,S,hf,fun v H1 s1 r1=>⟨c,aCf (r1.rep S) hc,q H1 s1⟩⟩
def jI (p:Rho->Option Bool):Rho->Option Bool:=fun ρ=>(p ρ).map (!·)
def sN (p q:Rho->Option Bool):Rho->Option Bool:=fun ρ=>(p ρ).bind fun b=>if b then q ρ else some false
theorem qF (h:GT X B fl a p):GT X B fl (.UnaryOp .Not a pos) (jI p):=by
 refine BL (aBz h) ?_;rintro σ H Q ⟨Ex,ρ,M,c,S,hf,q⟩;unfold jI at hf;cases e:p ρ with
 | none=>rw[e] at hf;cases hf
 | some d=>
  rw[e] at hf;cases (aHa hf);exact⟨Ex,ρ,M,d,S,e,fun H1 s1=>q H1 s1⟩
theorem AJ (h:GT X B fl a p):GW X B fl (.BoolOp .And [a] pos) p:=aC2 h
theorem AI (h:GT X B fl a p) (k:GW X B fl (.BoolOp .And (b::es) pos) q):GW X B fl (.BoolOp .And (a::b::es) pos) (sN p q):=by
 refine aC3 (aC1 h k) ?_;rintro σ H Q ⟨Ex,ρ,M,c,S,hf,q⟩;obtain⟨d,e,hf⟩:=bind_some hf;refine⟨Ex,ρ,M,d,S,e,fun H1 s1=>?_⟩;cases d with
 | true=>exact jD ⟨Ex,ρ,M,c,S.grow s1,hf,fun H2 s2=>q H2 (s1.trans s2)⟩
 | false=>
  cases (aHa hf);exact jC (q H1 s1)
theorem GW.gt (h:GW X B fl e p):GT X B fl e p:=h.pt
def yM (f:Rho->Option T):Rho->Option T:=fun ρ=>((f ρ).bind isB).map fun b=>.bl (!b)
def vE (f g:Rho->Option T):Rho->Option T:=fun ρ=>((f ρ).bind isB).bind fun b=>if b then g ρ else some (.bl false)
def vOr (f g:Rho->Option T):Rho->Option T:=fun ρ=>((f ρ).bind isB).bind fun b=>if b then some (.bl true) else g ρ
theorem vW {op:BoolOp}(h:GE X B fl a f n l):GE X B fl (.BoolOp op [a] pos) f n l:=aB2 h
theorem UB (h:GE X B fl a f n l):GE X B fl (.UnaryOp .Not a pos) (yM f) true 3:=by
 refine bB (aB1 h) ?_;rintro σ H Q ⟨Ex,ρ,M,t,S,hf,q⟩;unfold yM at hf;cases e:(f ρ).bind isB with
 | none=>rw[e] at hf;cases hf
 | some d=>
  rw[e] at hf;cases (aHa hf);obtain⟨u,hu,hd⟩:=bind_some e;cases wF hd;exact⟨Ex,ρ,M,_,S,hu,fun v H1 s1 r1=>⟨d,(aO.scal rfl).mp r1,q _ H1 s1 ((aO.scal rfl).mpr rfl)⟩⟩
theorem zV (h:GE X B fl a f n l) (k:GE X B fl (.BoolOp .And (b::es) pos) g n' l'):GE X B fl (.BoolOp .And (a::b::es) pos) (vE f g) false l':=by
 refine bB (aAs h k) ?_;rintro σ H Q ⟨Ex,ρ,M,t,S,hf,q⟩;obtain⟨d,e,hf⟩:=bind_some hf;obtain⟨u,hu,hd⟩:=bind_some e;cases wF hd;refine⟨Ex,ρ,M,_,S,hu,fun v H1 s1 r1=>⟨d,(aO.scal rfl).mp r1,?_⟩⟩;cases d with
 | true=>exact jD ⟨Ex,ρ,M,t,S.grow s1,hf,fun v H2 s2 r2=>q v H2 (s1.trans s2) (by have z:=(r2.rep (S.grow s1)).weak fun b x=>Ad.since s1 x;cases t<;>exact z)⟩
 | false=>
  cases (aHa hf);exact jC (q _ H1 s1 ((aO.scal rfl).mpr rfl))
theorem UC (h:GE X B fl a f n l) (k:GE X B fl (.BoolOp .Or (b::es) pos) g n' l'):GE X B fl (.BoolOp .Or (a::b::es) pos) (vOr f g) false l':=by
 refine bB (aB3 h k) ?_;rintro σ H Q ⟨Ex,ρ,M,t,S,hf,q⟩;obtain⟨d,e,hf⟩:=bind_some hf;obtain⟨u,hu,hd⟩:=bind_some e;cases wF hd;refine⟨Ex,ρ,M,_,S,hu,fun v H1 s1 r1=>⟨d,(aO.scal rfl).mp r1,?_⟩⟩;cases d with
 | false=>exact jC ⟨Ex,ρ,M,t,S.grow s1,hf,fun v H2 s2 r2=>q v H2 (s1.trans s2) (by have z:=(r2.rep (S.grow s1)).weak fun b x=>Ad.since s1 x;cases t<;>exact z)⟩
 | true=>
  cases (aHa hf);exact jD (q _ H1 s1 ((aO.scal rfl).mpr rfl))
def fIf (p:Rho->Option Bool) (f g:Rho->Option T):Rho->Option T:=fun ρ=>(p ρ).bind fun b=>if b then f ρ else g ρ
theorem TQ (hc:GT X B fl c p) (ha:GE X B fl a f n l) (hb:GE X B fl b g n l):GE X B fl (.IfExp c a b pos) (fIf p f g) n l:=by
 refine bB (aAw hc ha hb) ?_;rintro σ H Q ⟨Ex,ρ,M,t,S,hf,q⟩;obtain⟨d,e,hf⟩:=bind_some hf;refine⟨Ex,ρ,M,d,S,e,fun H1 s1=>?_⟩;cases d with
 | true=>exact jD ⟨Ex,ρ,M,t,S.grow s1,hf,fun v H2 s2 r2=>q v H2 (s1.trans s2) (r2.since s1)⟩
 | false=>exact jC ⟨Ex,ρ,M,t,S.grow s1,hf,fun v H2 s2 r2=>q v H2 (s1.trans s2) (r2.since s1)⟩
def dL:T->Option T
 | .int i=>some (.int (-i))
 | _=>none
theorem jR (h:GE X B fl a f n l):GE X B fl (.UnaryOp .USub a pos) (f1 f dL) true 3:=by
 refine bB (aB6 aEo h) ?_;rintro σ H Q ⟨Ex,ρ,M,t,S,hf,q⟩;obtain⟨x,hx,hg⟩:=bind_some hf;cases x<;>first | (cases hg;done) | skip
 cases (aHa hg);exact⟨Ex,ρ,M,_,S,hx,fun v H1 s1 r1=>⟨_,(aO.scal rfl).mp r1,q _ H1 s1 ((aO.scal rfl).mpr rfl)⟩⟩
theorem aG:GA X B fl [] aF 3:=xC fW fun σ H Q ⟨Ex,ρ,M,ts,S,hf,q⟩=>q _ H (aP.refl H) (by cases (aHa hf);rfl)
theorem aD (ha:GE X B fl e f n l) (hr:GA X B fl es fa l') (hs:starEach (e::es) X.env=(false,eval e X.env)::starEach es X.env:=by rfl):GA X B fl (e::es) (aC f fa) (min l l'):=by
 refine xC (eB ha hr hs) ?_;rintro σ H Q ⟨Ex,ρ,M,ts,S,hf,q⟩;obtain⟨x,hx,hf⟩:=bind_some hf;obtain⟨xs,hxs,hf⟩:=bind_some hf;cases (aHa hf);refine⟨Ex,ρ,M,x,S,hx,fun v H1 s1 r1=>⟨Ex,ρ,M,xs,S.grow s1,hxs,fun vs H2 s2 r2=>q _ H2 (s1.trans s2) ⟨v,vs,rfl,?_,?_⟩⟩⟩
 ·exact ((r1.rep S).grow s2).weak fun b x=>x.le (Nat.min_le_left _ _)
 ·exact r2.weak fun b x=>(x.since s1).le (Nat.min_le_right _ _)
def cap:Nat:=1000000
theorem gJ {n:Nat}(h:n<=cap):n<sizeLine:=by rw[sizeLine_eq];unfold cap at h;lia
def dQ (fa:Rho->Option (List T)):Rho->Option T:=fun ρ=>(fa ρ).bind fun ts=>if ts.length<=cap then some (.lst ts) else none
def eV (fa:Rho->Option (List T)):Rho->Option T:=fun ρ=>(fa ρ).bind fun ts=>if ts.length<=cap then some (.tup ts) else none
theorem eX (ha:GA X B fl es fa l):GE X B fl (.List es pos) (dQ fa) true l:=by
 refine bB (aAz ha) ?_;rintro σ H Q ⟨Ex,ρ,M,t,S,hf,q⟩;obtain⟨ts,hts,hf⟩:=bind_some hf;split at hf
 ·rename_i hl
  cases (aHa hf);refine⟨Ex,ρ,M,ts,S,hts,fun vs H1 s1 r1=>⟨by rw[<- r1.length];exact aJe (gJ hl),fun p hp=>q _ _ (s1.trans (cX hp _)) (aO.laid s1 hp r1)⟩⟩
 ·cases hf
theorem rR {k:Nat}(ha:GA X B fl es fa l):GE X B fl (.Tuple es k pos) (eV fa) true l:=by
 refine bB (BH ha) ?_;rintro σ H Q ⟨Ex,ρ,M,t,S,hf,q⟩;obtain⟨ts,hts,hf⟩:=bind_some hf;split at hf
 ·rename_i hl
  cases (aHa hf);refine⟨Ex,ρ,M,ts,S,hts,fun vs H1 s1 r1=>⟨by rw[<- r1.length];exact aJe (gJ hl),fun p hp=>q _ _ (s1.trans (cX hp _)) ?_⟩⟩;have hp0:=s1.free hp;exact⟨p,vs,rfl,.inl (.inl cP),r1.grow (cX hp _)⟩
 ·cases hf
def oIx:T->T->Option T
 | .lst ts,.int i=>atI ts i
 | .tup ts,.int i=>atI ts i
 | _,_=>none
theorem RepL.at {K:PySem.W.Frag}{H:Hp}{A:Addr->Prop}{ts:List T}{xs:List V}{i:Int}{t:T}(h:RepL K H A ts xs) (e:atI ts i=some t):∃ x,atI xs i=some x/\Rep K H A t x:=by
 unfold atI at e ⊢;rw[<- h.length];cases q:ixN ts.length i with
 | none=>rw[q] at e;cases e
 | some j=>rw[q] at e;exact h.get e
theorem aY (ha:GE X B fl a f n l) (hb:GE X B fl b g n' l') (hs:DK b:=by exact fun _ _=>rfl):GE X B fl (.Subscript a b pos) (f2 f g oIx) false l:=by
 refine bB (aAy WF ha hb hs) ?_;rintro σ H Q ⟨Ex,ρ,M,t,S,hf,q⟩;obtain⟨x,hx,hf⟩:=bind_some hf;obtain⟨y,hy,hf⟩:=bind_some hf;refine⟨Ex,ρ,M,x,S,hx,fun vx H1 s1 rx=>⟨Ex,ρ,M,y,S.grow s1,hy,fun vy H2 s2 ry=>?_⟩⟩;have rx':=(rx.rep S).grow s2;have ry':=ry.rep (S.grow s1);cases y<;>first | (cases x<;>cases hf;done) | skip
 rename_i i;cases (show _=_ from ry');cases x with
 | lst ts=>
  obtain⟨p,xs,rfl,h1,h2⟩:=rx'.sqL;obtain⟨z,hz,rz⟩:=h2.at hf;exact .inl ⟨p,xs,i,z,rfl,rfl,h1,hz,q _ _ (s1.trans s2) (by cases t<;>exact rz)⟩
 | tup ts=>
  obtain⟨p,xs,rfl,h1,h2⟩:=rx'.sqT;obtain⟨z,hz,rz⟩:=h2.at hf;exact .inr (.inl ⟨p,xs,i,z,rfl,rfl,h1,hz,q _ _ (s1.trans s2) (by cases t<;>exact rz)⟩)
 | non=>cases hf
 | bl _=>cases hf
 | int _=>cases hf
 | str _=>cases hf
 | exc _=>cases hf
 | dct _=>cases hf
 | own _=>cases hf
def dE:List T->Option T
 | [.lst ts]=>some (.int ts.length)
 | [.tup ts]=>some (.int ts.length)
 | _=>none
def aJ (fa:Rho->Option (List T)) (F:List T->Option T):Rho->Option T:=fun ρ=>(fa ρ).bind F
theorem eM {K:PySem.W.Frag}{H:Hp}{A:Addr->Prop}{t:T}{xs:List V}(h:RepL K H A [t] xs):∃ x,xs=[x]/\Rep K H A t x:=by
 obtain⟨x,r,e,h1,h2⟩:=h;cases (show _=[] from h2);exact⟨x,e,h1⟩
theorem eH {x:Str}{p':Pos}(hx:x = "len") (hg:Gl X x) (hm:X.mg x=none) (ha:GA X B fl (e::es) fa l)
  (he:starEach (e::es) X.env=(false,eval e X.env)::starEach es X.env:=by rfl) (hpl:(backTo pos (starEach es X.env)).any (·.1)=false:=by rfl):GE X B fl (.Call (.Name x p') (e::es) [] pos) (aJ fa dE) true 3:=by
 subst hx;refine bB (jZ PQ hg hm PySem.boot_len ha (by decide) (by decide) he hpl) ?_;rintro σ H Q ⟨Ex,ρ,M,t,S,hf,q⟩;obtain⟨ts,hts,hf⟩:=bind_some hf;refine⟨Ex,ρ,M,ts,S,hts,fun vs H1 s1 r1=>?_⟩
 match ts,hf with
 | [.lst us],hf=>
  cases (aHa hf);obtain⟨y,rfl,ry⟩:=eM r1;obtain⟨p,xs,rfl,h1,h2⟩:=ry.sqL;exact⟨p,xs,rfl,.inl h1,by rw[<- h2.length];exact q _ H1 s1 ((aO.scal rfl).mpr rfl)⟩
 | [.tup us],hf=>
  cases (aHa hf);obtain⟨y,rfl,ry⟩:=eM r1;obtain⟨p,xs,rfl,h1,h2⟩:=ry.sqT;exact⟨p,xs,rfl,.inr h1,by rw[<- h2.length];exact q _ H1 s1 ((aO.scal rfl).mpr rfl)⟩
def sH:List T->Option T
 | [.lst ts]=>some (.lst ts)
 | [.tup ts]=>some (.lst ts)
 | _=>none
theorem FT {x:Str}{p':Pos}(hx:x = "list") (hg:Gl X x) (hm:X.mg x=none) (ha:GA X B fl (e::es) fa l)
  (he:starEach (e::es) X.env=(false,eval e X.env)::starEach es X.env:=by rfl) (hpl:(backTo pos (starEach es X.env)).any (·.1)=false:=by rfl):GE X B fl (.Call (.Name x p') (e::es) [] pos) (aJ fa sH) true l:=by
 subst hx;refine bB (aAv PR hg hm PyProof.Rows.boot_list ha (by decide) (by decide) he hpl) ?_;rintro σ H Q ⟨Ex,ρ,M,t,S,hf,q⟩;obtain⟨ts,hts,hf⟩:=bind_some hf;refine⟨Ex,ρ,M,ts,S,hts,fun vs H1 s1 r1=>?_⟩
 match ts,hf with
 | [.lst us],hf=>
  cases (aHa hf);obtain⟨y,rfl,ry⟩:=eM r1;obtain⟨p,xs,rfl,h1,h2⟩:=ry.sqL;exact⟨p,xs,rfl,.inl h1,fun l hl=>q _ _ (s1.trans (cX hl _)) (aO.laid s1 hl h2)⟩
 | [.tup us],hf=>
  cases (aHa hf);obtain⟨y,rfl,ry⟩:=eM r1;obtain⟨p,xs,rfl,h1,h2⟩:=ry.sqT;exact⟨p,xs,rfl,.inr h1,fun l hl=>q _ _ (s1.trans (cX hl _)) (aO.laid s1 hl h2)⟩
end
section
variable {X:Cx}{B:Hp}{fl:List Nat}{a b c e tg iter elt:Expr}{es ifs:List Expr}{f g:Rho->Option T}{fa:Rho->Option (List T)}{p q:Rho->Option Bool}{n n':Bool}{l l':Nat}{pos:Pos}
def aC5 (K:PySem.W.Frag):R2:=fun x y H Q=>∃ l b xs zs,x=.ref l/\y=.ref b/\SqL K H l xs/\SqL K H b zs/\xs.length+zs.length<=sizeLine/\∀ p,H p=none->Q (.ref p) (upd H p (.lst (xs++zs)))
theorem aAd:OpR X (binaryOp .Add) (aC5 X.K):=by
 intro pins s σ H x y v u Q I rx ry h;obtain⟨l,b,xs,zs,rfl,rfl,hH,hB,hz,q⟩:=h;cases rx;cases ry;obtain⟨its,r,p1,z⟩:=I.list hH;obtain⟨its2,r2,p2,z2⟩:=I.list hB;have hl:=r.length;have hl2:=r2.length;obtain⟨⟨cls,dd,data,sl⟩,n,e,hc,hd,hq⟩:=p1;obtain⟨⟨cls2,dd2,data2,sl2⟩,n2,e2,hc2,hd2,hq2⟩:=p2;simp only at hc hd hq hc2 hd2 hq2;subst hc hd hq hc2 hd2 hq2;have ea:its.toArray++its2.toArray=(its++its2).toArray:=by simp
 refine concat_meets ⟨_,e,rfl⟩ ⟨_,e2,rfl⟩ noFill_list_add seq_list_add PySem.F.slot_list_add PySem.F.entry_list_add (PySem.F.args_list_add_2 _ _) (list_addW l b its.toArray its2.toArray n n2 none none sl sl2 (by simp only[aHj];omega)) ⟨e,e2,?_⟩;rw[ea];exact⟨.ref _,_,I.lnew (t':=s.toks) (r.append r2) (by rw[aIo];omega),rfl,q _ I.fresh⟩
def sG:T->T->Option T
 | .lst xs,.lst ys=>if xs.length+ys.length<=cap then some (.lst (xs++ys)) else none
 | _,_=>none
theorem TL (ha:GE X B fl a f n l) (hb:GE X B fl b g n' l'):GE X B fl (.BinOp a .Add b pos) (f2 f g sG) true (min l l'):=by
 refine bB (BG aAd ha hb) ?_;rintro σ H Q ⟨Ex,ρ,M,t,S,hf,q⟩;obtain⟨x,hx,hf⟩:=bind_some hf;obtain⟨y,hy,hf⟩:=bind_some hf;refine⟨Ex,ρ,M,x,S,hx,fun vx H1 s1 rx=>⟨Ex,ρ,M,y,S.grow s1,hy,fun vy H2 s2 ry=>?_⟩⟩;have rx':=(rx.rep S).grow s2;have ry':=ry.rep (S.grow s1);cases x<;>first | (cases hf;done) | skip
 cases y<;>first | (cases hf;done) | skip
 rename_i xs ys;unfold sG at hf;dsimp only at hf;split at hf
 ·rename_i hl
  cases (aHa hf);obtain⟨p1,us,rfl,h1,h2⟩:=rx'.sqL;obtain⟨p2,ws,rfl,k1,k2⟩:=ry'.sqL;refine⟨p1,p2,us,ws,rfl,rfl,h1,k1,?_,fun p hp=>q _ _ ((s1.trans s2).trans (cX hp _)) (aO.laid (s1.trans s2) hp (RepL.app (h2.weak fun b x=>x.le (Nat.min_le_left _ _)) (k2.weak fun b x=>(x.since s1).le (Nat.min_le_right _ _))))⟩;rw[<- h2.length,<- k2.length];exact aJe (gJ hl)
 ·cases hf
def aC8:R2:=fun x y H Q=>∃ l k v,x=.ref l/\y=.int k/\H l=some (.lst [v]) /\ -(2^63)<=k/\k<2^63/\k.toNat<=sizeLine/\∀ p,H p=none->Q (.ref p) (upd H p (.lst (List.replicate k.toNat v)))
theorem JU {α:Type}(v:α):∀ k:Nat,(List.replicate k [v]).flatten=List.replicate k v
 | 0=>rfl
 | k+1=>by rw[aJd,List.flatten_cons,JU v k,aJd];rfl
theorem aAk:OpR X (binaryOp .Mult) aC8:=by
 intro pins s σ H x y v u Q I rx ry h;obtain⟨l,k,w,rfl,rfl,hH,h1,h2,hz,q⟩:=h;exact aAj pins s σ H _ _ _ _ Q I rx ry ⟨l,k,[w],rfl,rfl,hH,h1,h2,by simpa using hz,fun p hp=>by rw[JU];exact q p hp⟩
def wU:T->T->Option T
 | .lst [t],.int k=>if 0<=k/\k<=cap then some (.lst (List.replicate k.toNat t)) else none
 | _,_=>none
theorem JS {K:PySem.W.Frag}{H:Hp}{A:Addr->Prop}{t:T}{v:V}(h:Rep K H A t v):∀ k:Nat,RepL K H A (List.replicate k t) (List.replicate k v)
 | 0=>rfl
 | k+1=>⟨v,_,rfl,h,JS h k⟩
theorem UD (ha:GE X B fl a f true l) (hb:GE X B fl b g n' l'):GE X B fl (.BinOp a .Mult b pos) (f2 f g wU) true l:=by
 refine bB (BG aAk ha hb) ?_;rintro σ H Q ⟨Ex,ρ,M,t,S,hf,q⟩;obtain⟨x,hx,hf⟩:=bind_some hf;obtain⟨y,hy,hf⟩:=bind_some hf;refine⟨Ex,ρ,M,x,S,hx,fun vx H1 s1 rx=>⟨Ex,ρ,M,y,S.grow s1,hy,fun vy H2 s2 ry=>?_⟩⟩
 match x,y,hf with
 | .lst [z],.int k,hf=>
  unfold wU at hf;dsimp only at hf;split at hf
  ·rename_i hk
   cases (aHa hf);obtain⟨p1,us,rfl,h0,h1,h2⟩:=rx;obtain⟨w,rfl,rw'⟩:=eM h2;cases (show vy=V.int k from (aO.scal rfl).mp ry);have hc:k.toNat<=cap:=by omega
   refine⟨p1,k,w,rfl,rfl,s2 _ _ h1,by omega,by have:=hk.2;unfold cap at this;omega,aJe (gJ hc),fun p hp=>q _ _ ((s1.trans s2).trans (cX hp _)) (aO.laid (s1.trans s2) hp (JS ((rw'.grow s2).weak fun b x=>x.1) _))⟩
  ·cases hf
def cZ {α:Type} (xs:List α) (lo hi st:Option Int):List α:=
 (sliceRange (sliceBounds lo hi st xs.length).1 (sliceBounds lo hi st xs.length).2.1 (sliceBounds lo hi st xs.length).2.2).filterMap (xs[·]?)
theorem JR {K:PySem.W.Frag}{H:Hp}{A:Addr->Prop}{ts:List T}{xs:List V}(h:RepL K H A ts xs):∀ is:List Nat,RepL K H A (is.filterMap (ts[·]?)) (is.filterMap (xs[·]?))
 | []=>rfl
 | i::is=>by
  have ih:=JR h is;have hl:=h.length;cases e:ts[i]? with
  | none=>
   have e':xs[i]?=none:=by
    rw[List.getElem?_eq_none_iff] at e ⊢;omega
   rw[aIc,aIc,e,e'];exact ih
  | some t=>
   obtain⟨x,ex,rx⟩:=h.get e;rw[aIc,aIc,e,ex];exact⟨x,_,rfl,rx,ih⟩
theorem aCe {K:PySem.W.Frag}{H:Hp}{A:Addr->Prop}{ts:List T}{xs:List V}(h:RepL K H A ts xs) (lo hi st:Option Int):RepL K H A (cZ ts lo hi st) (cZ xs lo hi st):=by
 unfold cZ;rw[h.length];exact JR h _
theorem LV {xs:List V}{us:List Value}(h:aL xs us):∀ is:List Nat,aL (is.filterMap (xs[·]?)) (is.filterMap (us[·]?))
 | []=>.nil
 | i::is=>by
  have ih:=LV h is;cases e:xs[i]? with
  | none=>
   rw[aIc,aIc,e,h.none_of e];exact ih
  | some t=>
   obtain⟨x,ex,rx⟩:=h.get e;rw[aIc,aIc,e,ex];exact .cons rx ih
def GO (X:Cx) (B:Hp) (fl:List Nat) (e:Option Expr) (f:Rho->Option (Option Int)):Prop:=
 PO X e (fun σ H Q=>∃ Ex ρ M o,Sl X.K B fl Ex σ ρ M H/\f ρ=some o/\∀ H',aP H H'->Q o H')
def wT:Rho->Option (Option Int):=fun _=>some none
def isI:T->Option Int
 | .int i=>some i
 | _=>none
def wW (f:Rho->Option T):Rho->Option (Option Int):=fun ρ=>((f ρ).bind isI).map some
theorem GC:GO X B fl none wT:=fun pins s σ H Q I ⟨_,_,_,o,_,hf,q⟩=>aBh pins s σ H Q I (by cases (aHa hf);exact q H (aP.refl H))
theorem UO (h:GE X B fl e f n l):GO X B fl (some e) (wW f):=by
 intro pins s σ H Q I hq;obtain⟨Ex,ρ,M,o,S,hf,q⟩:=hq;refine aBi h pins s σ H Q I ?_;unfold wW at hf;cases e1:(f ρ).bind isI with
 | none=>rw[e1] at hf;cases hf
 | some i=>
  rw[e1] at hf;cases (aHa hf);obtain⟨t,ht,hi⟩:=bind_some e1;cases t<;>first | (cases hi;done) | skip
  cases (aHa hi);exact⟨Ex,ρ,M,_,S,ht,fun v H1 s1 r1=>⟨i,(aO.scal rfl).mp r1,q H1 s1⟩⟩
def zQ (f:Rho->Option T) (lo hi st:Rho->Option (Option Int)):Rho->Option T:=fun ρ=>(f ρ).bind fun x=>(lo ρ).bind fun a=>(hi ρ).bind fun b=>(st ρ).bind fun c=>
 match x with
 | .lst ts=>if c=some 0 then none else some (.lst (cZ ts a b c))
 | _=>none
theorem UF {lo hi st:Option Expr}{fl' fh fs:Rho->Option (Option Int)}{p2:Pos}(he:GE X B fl e f n l) (hl:GO X B fl lo fl') (hh:GO X B fl hi fh) (hst:GO X B fl st fs)
  (hsub:∀ (v sl:Value),∃ ops,subscripted (.Slice lo hi st p2) false v sl=operate ops (getItem v sl):=by intro _ _;first | exact⟨_,rfl⟩ | (refine⟨_,?_⟩;with_unfolding_all rfl)):
  GE X B fl (.Subscript e (.Slice lo hi st p2) pos) (zQ f fl' fh fs) true l:=by
 intro pins s σ H Q I hq;obtain⟨Ex,ρ,M,t,S,hf,q⟩:=hq;obtain⟨x,hx,hf⟩:=bind_some hf;obtain⟨a,ha,hf⟩:=bind_some hf;obtain⟨b,hb,hf⟩:=bind_some hf;obtain⟨c,hc,hf⟩:=bind_some hf;have hx2:∃ ts,x=.lst ts:=by
  cases x<;>first | (cases hf;done) | exact⟨_,rfl⟩
 obtain⟨ts,rfl⟩:=hx2;dsimp only at hf;split at hf
 ·cases hf
 ·rename_i hc0
  cases (aHa hf);refine Subscript_ (thn (he pins s σ H (fun v H1=>aP H H1/\aO X.K B H M H1 n l (.lst ts) v) I ⟨Ex,ρ,M,_,S,hx,fun v H1 s1 r1=>⟨s1,r1⟩⟩) fun v s1 ⟨x,H1,I1,r1,s01,rx⟩=>?_);refine wpAny_Slice (thn (hl pins s1 σ H1 (fun o H2=>o=a/\aP H1 H2) I1 ⟨Ex,ρ,M,a,S.grow s01,ha,fun H2 s2=>⟨rfl,s2⟩⟩) fun vl s2 ⟨o,H2,I2,pl,e2,s12⟩=>?_);subst e2;refine thn (hh pins s2 σ H2 (fun o H3=>o=b/\aP H2 H3) I2 ⟨Ex,ρ,M,b,S.grow (s01.trans s12),hb,fun H3 s3=>⟨rfl,s3⟩⟩) fun vu s3 ⟨o2,H3,I3,pu,e3,s23⟩=>?_;subst e3;refine thn (hst pins s3 σ H3 (fun o H4=>o=c/\aP H3 H4) I3 ⟨Ex,ρ,M,c,S.grow ((s01.trans s12).trans s23),hc,fun H4 s4=>⟨rfl,s4⟩⟩) fun vs s4 ⟨o3,H4,I4,pst,e4,s34⟩=>?_;subst e4;have I5:Inv X pins σ H4 { s4 with heap:=s4.heap.push { cls:=.type "slice",data:=.fields #[vl,vu,vs] } }:=I4.kept (t':=s4.toks) fun b ob q=>aHl _ q;have rx':=(rx.rep S).grow ((s12.trans s23).trans s34);obtain⟨p1,us,rfl,h1,h2⟩:=rx'.sqL;cases r1;obtain⟨its,rv,pl',hz⟩:=I5.list h1;have hlen:=rv.length;show wpAny (model X.prog X.w) X.A (subscriptTail e (.Slice lo hi st p2) (.ref p1) (.ref s4.heap.objs.size)) (EP X pins σ Q) X.xe { s4 with heap:=s4.heap.push { cls:=.type "slice",data:=.fields #[vl,vu,vs] } };obtain⟨ops,hops⟩:=hsub (.ref p1) (.ref s4.heap.objs.size);refine tail_any (ops:=ops) (pl'.isList.typeIs) slot_list_getitem.lookup ?_ hops;refine wpAny_getItem_list_slice pl'.isList (Heap.IsSliceOf.new ..) pl pu pst hc0 ?_ (by rw[aHj];omega);have e0:slicePick its.toArray o o2 o3=(cZ its o o2 o3).toArray:=by
   unfold slicePick cZ;simp
  rw[e0];have e1:cZ its o o2 o3=(sliceRange (sliceBounds o o2 o3 us.length).1 (sliceBounds o o2 o3 us.length).2.1 (sliceBounds o o2 o3 us.length).2.2).filterMap (its[·]?):=by
   unfold cZ;rw[hlen]
  have hv:aL (cZ us o o2 o3) (cZ its o o2 o3):=by
   rw[e1];exact LV rv _
  have hzz:(cZ us o o2 o3).length<=sizeLine:=by
   rw[hv.length];have:=slicePick_size_le its.toArray o o2 o3;rw[e0] at this;simp only[aHj] at this;omega
  have hnew:H4 (s4.heap.push { cls:=.type "slice",data:=.fields #[vl,vu,vs] }).objs.size=none:=I5.hok.fresh (aJf _);refine⟨.ref _,_,I5.lnew (t':=s4.toks) hv hzz,rfl,q _ _ (((s01.trans s12).trans (s23.trans s34)).trans (cX hnew _)) ?_⟩;exact aO.laid ((s01.trans s12).trans (s23.trans s34)) hnew (aCe h2 _ _ _)
def Am (sc:Bool) (A:Addr->Prop) (H:Hp):Addr->Prop:=fun a=>sc=false/\(A a\/H a=none)
def rD (K:PySem.W.Frag) (J:It) (ps:List (T × V)) (ts:List T) (sc:Bool):Prop:=
 ∀ (H:Hp) (A:Addr->Prop),(∀ p∈ps,Rep K H A p.1 p.2)->∀ i:Nat,(∀ t,ts[i]?=some t->J.go i H/\∀ x H',J.yld i H x H'->aP H H'/\Rep K H' (Am sc A H) t x)/\(ts.length<=i->J.stop i H)
def tGI (K:PySem.W.Frag) (B:Hp) (fl:List Nat) (f:Rho->Option (List T)) (l:Nat) (sc:Bool):TI:=fun σ H R=>
 ∃ Ex ρ M ts,Sl K B fl Ex σ ρ M H/\f ρ=some ts/\∀ J H' ps,aP H H'->(∀ p∈ps,Rep K H' (Ad B H M l) p.1 p.2)->rD K J ps ts sc->R J H'
def GI (X:Cx) (B:Hp) (fl:List Nat) (tg e:Expr) (f:Rho->Option (List T)) (l:Nat) (sc:Bool):Prop:=PI X tg e (tGI X.K B fl f l sc)
theorem sQ {t t':TI}(h:PI X tg e t) (k:∀ σ H R,t' σ H R->t σ H R):PI X tg e t':=fun pins s σ H R I q=>h pins s σ H R I (k σ H R q)
def isL:T->Option (List T)
 | .lst ts=>some ts
 | _=>none
def fL (f:Rho->Option T):Rho->Option (List T):=fun ρ=>(f ρ).bind isL
def jB:T->Option (List T)
 | .lst ts=>if cH ts then some ts else none
 | _=>none
def fFL (f:Rho->Option T):Rho->Option (List T):=fun ρ=>(f ρ).bind jB
theorem ID {pins:List (Addr × Obj)}{s:Shared}{σ:St}{H:Hp}{R:It->Hp->Prop}{Ex:List (T × V)}{ρ:Rho}{M:List Addr}{ts:List T}{sc:Bool}(h:GE X B fl e f n l) (I:Inv X pins σ H s) (S:Sl X.K B fl Ex σ ρ M H) (ht:f ρ=some (.lst ts)) (hsc:sc=true->cH ts=true)
  (q:∀ J H' ps,aP H H'->(∀ p∈ps,Rep X.K H' (Ad B H M l) p.1 p.2)->rD X.K J ps ts sc->R J H'):
  wpAny (model X.prog X.w) X.A (eval e X.env) (fun v s1=>wpAny (model X.prog X.w) X.A (pyIter v) (PIE X pins σ tg R) X.xe s1) X.xe s:=by
 refine thn (h pins s σ H (fun v H1=>aP H H1/\aO X.K B H M H1 n l (.lst ts) v) I ⟨Ex,ρ,M,_,S,ht,fun v H1 s1 r1=>⟨s1,r1⟩⟩) fun v s1 ⟨x,H1,I1,r1,s01,rx⟩=>?_;have rx':=rx.rep S;obtain⟨a,xs,rfl,hs,hr⟩:=rx'.sqL;cases r1;obtain⟨its,rv,p,hz⟩:=I1.list hs;refine wpAny_pyIter_list p.isList ?_;refine⟨s1.heap.objs.size,[s1.heap.objs.size],_,_,H1,rfl,I1.kept (t':=s1.toks) fun b o e=>aHl _ e,aEk a _,⟨_,aHu _ rfl,rfl,rfl⟩,fun b hb=>?_,?_⟩
 ·have e:b=s1.heap.objs.size:=by simpa using hb
  subst e;exact I1.fpOk (aJf _) (I1.hok.fresh (aJf _))
 ·refine q (Itl X.K a) H1 [(.lst ts,.ref a)] s01 (fun p hp=>by cases aJa.mp hp;exact rx') ?_
  intro H2 A hA i;obtain⟨a',ys,e,hs2,hr2⟩:=(hA _ aHe).sqL;cases e;refine⟨fun t hti=>?_,fun hi=>⟨ys,hs2,by rw[<- hr2.length];exact hi⟩⟩;obtain⟨y,hy,ry⟩:=hr2.get hti;refine⟨⟨ys,y,hs2,hy⟩,fun z H3 hz=>?_⟩;obtain⟨rfl,hz⟩:=hz;have:=hz ys hs2;rw[hy] at this;cases (aHa this);refine⟨aP.refl _,?_⟩;cases sc with
  | false=>exact ry.weak fun b x=>⟨rfl,.inl x⟩
  | true=>
   have hs:G.im t=true:=aHg.mp (hsc rfl) t (List.mem_of_getElem? hti);exact qR t hs ry
theorem UM (h:GE X B fl e f n l):GI X B fl tg e (fL f) l false:=by
 intro pins s σ H R I hq;obtain⟨Ex,ρ,M,ts,S,hf,q⟩:=hq;obtain⟨t,ht,hl⟩:=bind_some hf;cases t<;>first | (cases hl;done) | skip
 cases (aHa hl);exact ID h I S ht (fun z=>by cases z) q
theorem fO (h:GE X B fl e f n l):GI X B fl tg e (fFL f) l true:=by
 intro pins s σ H R I hq;obtain⟨Ex,ρ,M,ts,S,hf,q⟩:=hq;obtain⟨t,ht,hl⟩:=bind_some hf;cases t<;>first | (cases hl;done) | skip
 unfold jB at hl;dsimp only at hl;split at hl
 ·rename_i hfl
  cases (aHa hl);exact ID h I S ht (fun _=>hfl) q
 ·cases hl
def rangeT (lo:Int) (n:Nat):List T:=(List.range n).map fun (i:Nat)=>T.int (lo+(i:Int))
def dM:List T->Option (List T)
 | [.int j]=>if j.natAbs<2^62 then some (rangeT 0 j.toNat) else none
 | _=>none
def gT:List T->Option (List T)
 | [.int i,.int j]=>if i.natAbs<2^62/\j.natAbs<2^62 then some (rangeT i (j-i).toNat) else none
 | _=>none
def cU (fa:Rho->Option (List T)) (o:List T->Option (List T)):Rho->Option (List T):=fun ρ=>(fa ρ).bind o
theorem LW {K:PySem.W.Frag}(lo:Int) (n:Nat):rD K (Itr lo n) [] (rangeT lo n) true:=by
 intro H A _ i;unfold rangeT;refine⟨fun t ht=>?_,fun hi=>by show n<=i;simpa using hi⟩;rw[aIl] at ht;cases e:(List.range n)[i]? with
 | none=>rw[e] at ht;cases ht
 | some k=>
  rw[e] at ht;cases (aHa ht);obtain⟨h1,h2⟩:=aHf.mp e;rw[List.getElem_range] at h2;subst h2;refine⟨by show i<n;simpa using h1,fun x H' hx=>?_⟩;obtain⟨rfl,rfl⟩:=hx;exact⟨aP.refl _,rfl⟩
theorem eQ {x:Str}{p':Pos}(hx:x = "range") (hg:Gl X "range") (hm:X.mg "range" = none) (ha:GA X B fl [a] fa l) (hs:starEach [a] X.env=[(false,eval a X.env)]:=by rfl):GI X B fl tg (.Call (.Name x p') [a] [] pos) (cU fa dM) 3 true:=by
 subst hx;refine sQ (aBc hg hm ha hs) ?_;rintro σ H R ⟨Ex,ρ,M,ts,S,hf,q⟩;obtain⟨us,hus,hf⟩:=bind_some hf;refine⟨Ex,ρ,M,us,S,hus,fun vs H1 s1 r1=>?_⟩
 match us,hf with
 | [.int j],hf=>
  unfold dM at hf;dsimp only at hf;split at hf
  ·rename_i hj
   cases (aHa hf);obtain⟨y,rfl,ry⟩:=eM r1;cases (show _=_ from ry);exact⟨j,rfl,by omega,by omega,q _ H1 [] s1 (fun _ z=>nomatch z) (LW 0 j.toNat)⟩
  ·cases hf
theorem AA {x:Str}{p':Pos}(hx:x = "range") (hg:Gl X "range") (hm:X.mg "range" = none) (ha:GA X B fl [a,b] fa l) (hs:starEach [a,b] X.env=[(false,eval a X.env),(false,eval b X.env)]:=by rfl) (hs2:starEach [b] X.env=[(false,eval b X.env)]:=by rfl):GI X B fl tg (.Call (.Name x p') [a,b] [] pos) (cU fa gT) 3 true:=by
 subst hx;refine sQ (aBd hg hm ha hs hs2) ?_;rintro σ H R ⟨Ex,ρ,M,ts,S,hf,q⟩;obtain⟨us,hus,hf⟩:=bind_some hf;refine⟨Ex,ρ,M,us,S,hus,fun vs H1 s1 r1=>?_⟩
 match us,hf with
 | [.int i,.int j],hf=>
  unfold gT at hf;dsimp only at hf;split at hf
  ·rename_i hj
   cases (aHa hf);obtain⟨y,r,e,ry,h2⟩:=r1;obtain⟨y2,rfl,ry2⟩:=eM h2;subst e;cases (show _=_ from ry);cases (show _=_ from ry2);exact⟨i,j,rfl,by omega,q _ H1 [] s1 (fun _ z=>nomatch z) (LW i (j-i).toNat)⟩
  ·cases hf
end
def bV (src:List (Option Nat)) (ρ:Rho):Rho:=src.map fun o=>o.bind fun i=>(ρ[i]?).join
def bQ (p:Rho->Option Bool) (f:Rho->Option T) (ρ:Rho):List T->Option (List T)
 | []=>some []
 | t::ts=>(p (ρ.set 0 (some t))).bind fun b=>if b then (f (ρ.set 0 (some t))).bind fun x=>(bQ p f ρ ts).map (x :: ·) else bQ p f ρ ts
def dH (fi:Rho->Option (List T)) (src:List (Option Nat)) (p:Rho->Option Bool) (f:Rho->Option T):Rho->Option T:=fun ρ=>
 (fi ρ).bind fun ts=>(bQ p f (bV src ρ) ts).bind fun us=>if us.length<=cap then some (.lst us) else none
def bJ:Rho->Option Bool:=fun _=>some true
def GIf (X:Cx) (B:Hp) (fl:List Nat) (ifs:List Expr) (p:Rho->Option Bool):Prop:=PIf X ifs (tGT X.K B fl p)
theorem gO {X:Cx}{B:Hp}{fl:List Nat}:GIf X B fl [] bJ:=fun pins s σ H Q I ⟨_,_,_,b,_,hf,q⟩=>aBf pins s σ H Q I (by cases (aHa hf);exact q H (aP.refl H))
theorem wA {X:Cx}{B:Hp}{fl:List Nat}{c:Expr}{p:Rho->Option Bool}(h:GT X B fl c p):GIf X B fl [c] p:=aBg h
theorem rS {α:Type}{l:List (Option α)}{i:Nat}{t:α}(h:(l[i]?).join=some t):l[i]?=some (some t):=by
 cases e:l[i]? with
 | none=>rw[e] at h;cases h
 | some o=>rw[e] at h;cases (show o=some t from h);rfl
theorem LI {src:List (Option Nat)}{ρ:Rho}{j:Nat}{t:T}(h:(bV src ρ)[j]?=some (some t)):∃ i,src[j]?=some (some i)/\ρ[i]?=some (some t):=by
 unfold bV at h;rw[aIl] at h;cases e:src[j]? with
 | none=>rw[e] at h;cases h
 | some o=>
  rw[e] at h;cases o with
  | none=>cases (aHa h)
  | some i=>exact⟨i,rfl,rS (aHa h)⟩
theorem LJ {src:List (Option Nat)}{σ:St}{j i:Nat}{v:V}(h:src[j]?=some (some i)) (e:σ[i]?=some (some v)):(cO src σ)[j]?=some (some v):=by
 unfold cO;rw[aIl,h];show some ((σ[i]?).join)=_;rw[e];rfl
structure FlOk (X:Cx) (N':List Str) (src:List (Option Nat)) (fl fl':List Nat) (li:Nat) (sc:Bool):Prop where
 nd:N'.Nodup
 own:src[0]?=some none
 cap:∀ (j i:Nat),src[j]?=some (some i)->fl'.getD j 1=fl.getD i 1
 pos:1<=fl'.getD 0 1
 le:sc=false->fl'.getD 0 1<=li
 xN:∀ (j i:Nat),src[j]?=some (some i)->N'[j]?=X.N[i]?/\j<N'.length
 lf:fl'.length=src.length
 lcs:lc fl'<=lc fl\/∀ j,fl'.getD j 1≠0
section
variable {X:Cx}{K:PySem.W.Frag}{B H:Hp}{fl fl':List Nat}{src:List (Option Nat)}{N':List Str}{Ex:List (T × V)}{σ σ1:St}{ρ:Rho}{M:List Addr}{li:Nat}{sc:Bool}
theorem Sl.block {t:T}{x:V}(F:FlOk X N' src fl fl' li sc) (S:Sl K B fl Ex σ ρ M H) (h0:∀ j,j≠0->σ1[j]?=(cO src σ)[j]?) (hl:σ1.length=src.length) (r:Rep K H (Ad B H M (min (fl'.getD 0 1) 2)) t x):
  Sl K B fl' Ex (σ1.set 0 (some x)) ((bV src ρ).set 0 (some t)) M H:=by
 have get:∀ j u,((bV src ρ).set 0 (some t))[j]?=some (some u)->(j=0/\u=t)\/(j≠0/\∃ i,src[j]?=some (some i)/\ρ[i]?=some (some u)):=fun j u e=>by
  by_cases hj:j=0
  ·subst hj
   left
   refine⟨rfl,?_⟩
   by_cases hz:0<(bV src ρ).length
   ·rw[aIn hz] at e
    cases (aHa e);rfl
   ·have:((bV src ρ).set 0 (some t))=[]:=by
     have:(bV src ρ)=[]:=List.length_eq_zero_iff.mp (by omega);rw[this];rfl
    rw[this] at e;cases e
  ·right
   rw[aHk (Ne.symm hj)] at e;exact⟨hj,LI e⟩
 have put:∀ j i v,j≠0->src[j]?=some (some i)->σ[i]?=some (some v)->(σ1.set 0 (some x))[j]?=some (some v):=fun j i v hj e1 e2=>by
  rw[aHk (Ne.symm hj),h0 j hj];exact LJ e1 e2
 have hl0:0<σ1.length:=by
  have:=(aHf.mp F.own).1;omega
 obtain⟨g,hg,ap⟩:=S.mu;refine⟨S.same,fun j u e k=>?_,⟨fun j=>g (((src[j]?).join).getD 0),fun j u e k hm=>?_,fun j j' c d u u' us ws hne e e' k k' hm hm'=>?_⟩,S.ex,S.mB,by rw[aIv,hl];exact Nat.le_of_eq F.lf⟩
 ·rcases get j u e with ⟨rfl,rfl⟩ | ⟨hj,i,e1,e2⟩
  ·exact⟨x,by rw[aIn hl0],r⟩
  ·rw[F.cap j i e1] at k ⊢
   obtain⟨v,e3,r3⟩:=S.slot i u e2 k;exact⟨v,put j i v hj e1 e3,r3⟩
 ·rcases get j u e with ⟨rfl,rfl⟩ | ⟨hj,i,e1,e2⟩
  ·exact absurd k (by have:=F.pos;omega)
  ·rw[F.cap j i e1] at k
   obtain⟨v,e4,e5,e6⟩:=hg i u e2 k hm;simp only[show ((src[j]?).join).getD 0=i by rw[e1];rfl];refine⟨v,put j i _ hj e1 e4,e5,fun c us h=>?_⟩;obtain⟨xs,q1,q2,q3⟩:=e6 c us h;rcases F.lcs with lk | lk
   ·exact⟨xs,q1,q2.weak fun b x=>x.le lk,q3⟩
   ·exact absurd ((F.cap j i e1).trans k) (lk j)
 ·rcases get j u e with ⟨rfl,rfl⟩ | ⟨hj,i,e1,e2⟩
  ·exact absurd k (by have:=F.pos;omega)
  ·rcases get j' u' e' with ⟨rfl,rfl⟩ | ⟨hj',i',e1',e2'⟩
   ·exact absurd k' (by have:=F.pos;omega)
   ·rw[F.cap j i e1] at k
    rw[F.cap j' i' e1'] at k';have hii:j≠j'->i≠i':=fun hj z=>by
     subst z;have q1:=F.xN j i e1;have q2:=F.xN j' i e1';have:N'[j]?=N'[j']?:=q1.1.trans q2.1.symm;rw[aHc q1.2,aHc q2.2] at this;exact hj ((List.getElem_inj F.nd).mp (aHa this))
    simp only[show ((src[j]?).join).getD 0=i by rw[e1];rfl,show ((src[j']?).join).getD 0=i' by rw[e1'];rfl];exact ap i i' c d u u' us ws (hne.imp hii id) e2 e2' k k' hm hm'
end
theorem Sl.mores {K:PySem.W.Frag}{B H1 H':Hp}{fl:List Nat}{Ex:List (T × V)}{σ:St}{ρ:Rho}{M:List Addr}(Ds:List Addr) (S:Sl K B fl Ex σ ρ M H1) (hD:∀ D∈Ds,H1 D=none/\H' D≠none) (s:aP H1 H'):Sl K B fl Ex σ ρ (Ds++M) H' where
 same:=S.same.trans s
 slot:=fun i t e k=>by
  obtain⟨v,e1,r⟩:=S.slot i t e k;refine⟨v,e1,Rep.keep (fun b _ e=>eL (fun o q=>s b o q) e) (fun b o _ e=>s b o e) (fun b x y=>⟨fun z w=>?_,x.2.1,fun z=>by omega⟩) t r⟩;rcases aJ1.mp w with w | w
  ·exact y (hD b w).1
  ·exact x.1 z w
 mu:=by
  obtain⟨g,hg,ap⟩:=S.mu;refine⟨g,fun i t e k hm=>?_,ap⟩;obtain⟨v,e1,e2,e3⟩:=hg i t e k hm;refine⟨v,e1,e2.grow s,fun c us h=>?_⟩;obtain⟨xs,q1,r,q3⟩:=e3 c us h;refine⟨xs,q1.keep (s _),RepL.keep (fun b _ e=>eL (fun o q=>s b o q) e) (fun b o _ e=>s b o e) (fun b x y=>⟨fun z w=>?_,x.2.1,fun z=>by have:=mT fl;omega⟩) us r,aJ3 _ q3⟩;rcases aJ1.mp w with w | w
  ·exact y (hD b w).1
  ·exact x.1 z w
 ex:=fun p hp=>by
  refine Rep.keep (fun b _ e=>eL (fun o q=>s b o q) e) (fun b o _ e=>s b o e) (fun b x y=>⟨fun z w=>?_,x.2.1,fun z=>by omega⟩) p.1 (S.ex p hp);rcases aJ1.mp w with w | w
  ·exact y (hD b w).1
  ·exact x.1 z w
 mB:=fun a ha=>by
  rcases aJ1.mp ha with ha | ha
  ·exact⟨S.same.free (hD a ha).1,(hD a ha).2⟩
  ·exact⟨(S.mB a ha).1,fun z=>(S.mB a ha).2 (s.free z)⟩
 len:=S.len
theorem Sl.more {K:PySem.W.Frag}{B H1 H':Hp}{fl:List Nat}{Ex:List (T × V)}{σ:St}{ρ:Rho}{M:List Addr}{D:Addr}(S:Sl K B fl Ex σ ρ M H1) (hD:H1 D=none) (s:aP H1 H') (hn:H' D≠none):Sl K B fl Ex σ ρ (D::M) H':=
 Sl.mores [D] S (fun _ h=>by cases aJa.mp h;exact⟨hD,hn⟩) s
theorem QQ {p:Rho->Option Bool}{f:Rho->Option T}{ρ:Rho}{t:T}{ts us:List T}(h:bQ p f ρ (t::ts)=some us):
  ∃ b,p (ρ.set 0 (some t))=some b/\((b=true/\∃ x r,f (ρ.set 0 (some t))=some x/\bQ p f ρ ts=some r/\us=x::r)\/(b=false/\bQ p f ρ ts=some us)):=by
 unfold bQ at h;obtain⟨b,hb,h⟩:=bind_some h;refine⟨b,hb,?_⟩;cases b with
 | true=>
  left
  rw[if_pos rfl] at h;obtain⟨x,hx,h⟩:=bind_some h;cases e:bQ p f ρ ts with
  | none=>rw[e] at h;cases h
  | some r=>rw[e] at h;cases (aHa h);exact⟨rfl,x,r,hx,rfl,rfl⟩
 | false=>
  right
  rw[if_neg aHr] at h;exact⟨rfl,h⟩
section
variable {X:Cx}{B:Hp}{fl fl':List Nat}{elt iter:Expr}{x0:Str}{p0:Pos}{ifs:List Expr}{scope:Scope}{pos:Pos}{N':List Str}{src:List (Option Nat)}{fi:Rho->Option (List T)}{p:Rho->Option Bool}{f:Rho->Option T}{n sc:Bool}{l li:Nat}
theorem zI (F:FlOk X N' src fl fl' li sc) (hl1':1<=l) {σ:St}{H:Hp}{Q:VK}(h:tG X.K B fl (dH fi src p f) true l σ H Q):
  vC (tGI X.K B fl fi li sc) (cO src) (jP 0) (tGT X.K B fl' p) (tG X.K B fl' f n l) σ H Q:=by
 obtain⟨Ex,ρ,M,t,S,hf,q⟩:=h;obtain⟨ts,hts,hf⟩:=bind_some hf;obtain⟨fin,hfin,hf⟩:=bind_some hf;split at hf
 rotate_left
 ·cases hf
 rename_i hcap;cases (aHa hf);refine⟨Ex,ρ,M,ts,S,hts,fun J H1 ps s01 rp wk=>?_⟩;intro D hD;have hlen:0<src.length:=by
  have:=(aHf.mp F.own).1;exact this
 refine⟨fun i m σ1 H2=>m=ts.length-i/\i<=ts.length/\aP H1 H2/\σ1.length=src.length/\(∀ j,j≠0->σ1[j]?=(cO src σ)[j]?) /\
  ∃ us rest xs,us++rest=fin/\bQ p f (bV src ρ) (ts.drop i)=some rest/\H2 D=some (.lst xs)/\RepL X.K H2 (fun b=>Ad B H M l b/\b≠D) us xs,?_,?_⟩
 ·refine⟨ts.length,by simp,aJx _,cX hD _,by unfold cO;simp,fun _ _=>rfl,[],fin,[],rfl,by simpa using hfin,cP,rfl⟩
 ·rintro i m σ1 H2 ⟨rfl,hi,s12,hl1,hσ,us,rest,xs,e1,e2,e3,e4⟩
  have hD2:H2 D≠none:=by rw[e3];simp
  have S2:=(S.grow s01).more hD s12 hD2;have rp1:∀ pv∈ps,Rep X.K H1 (fun b=>Ad B H M li b/\b≠D) pv.1 pv.2:=fun pv hpv=>Rep.keep (fun _ _ e=>e) (fun _ _ _ e=>e) (fun b x y=>⟨x,fun z=>y (z ▸ hD)⟩) pv.1 (rp pv hpv);have w:=wk H2 _ (fun pv hpv=>(rp1 pv hpv).grow s12) i
  by_cases hlt:i<ts.length
  ·refine .inr ?_
   have et:ts[i]?=some ts[i]:=aHc hlt;obtain⟨go,yl⟩:=w.1 _ et;refine⟨go,fun x H3 hy=>?_⟩;obtain⟨s23,rx⟩:=yl x H3 hy;rw[List.drop_eq_getElem_cons hlt] at e2;obtain⟨b,hb,hcase⟩:=QQ e2;have S3:=S2.grow s23;have rx':Rep X.K H3 (Ad B H3 (D::M) (min (fl'.getD 0 1) 2)) ts[i] x:=rx.weak fun c hc=>by
    obtain⟨h0,hc⟩:=hc;rcases hc with hc | hc
    ·refine⟨fun z w=>?_,fun z=>hc.1.2.1 (by have:=F.le h0;omega),fun z=>by omega⟩
     rcases aHm.mp w with rfl | w
     ·exact hc.2 rfl
     ·exact hc.1.1 (by have:=F.le h0;omega) w
    ·exact⟨fun _ z=>(S2.mB c z).2 hc,fun _=>S2.same.free hc,fun z=>by omega⟩
   have Sb:=Sl.block (σ1:=σ1) F S3 hσ hl1 rx';show tGT X.K B fl' p (σ1.set 0 (some x)) H3 _;refine⟨Ex,_,D::M,b,Sb,hb,fun H5 s35=>?_⟩;have hσ':∀ j,j≠0->(σ1.set 0 (some x))[j]?=(cO src σ)[j]?:=fun j hj=>by rw[aHk (Ne.symm hj)];exact hσ j hj
   rcases hcase with ⟨rfl,y,r,hy',hr,rfl⟩ | ⟨rfl,hr⟩
   ·refine jD ⟨Ex,_,D::M,y,Sb.grow s35,hy',fun v H6 s56 rv=>?_⟩
    have s26:=(s23.trans s35).trans s56;have e5:=s26 _ _ e3;have hl:xs.length<sizeLine:=by
     rw[<- e4.length];refine gJ (aJg ?_ hcap);rw[<- e1];simp
    refine⟨xs,e5,hl,ts.length-(i+1),by omega,rfl,hlt,?_,by simpa using hl1,hσ',us++[y],r,xs++[v],by rw[<- e1];simp,hr,cP,?_⟩
    ·intro c o hc
     have:c≠D:=fun z=>by rw[z,hD] at hc;cases hc
     rw[aR this];exact (s12.trans s26) c o hc
    ·have k1:RepL X.K H6 (fun b=>Ad B H M l b/\b≠D) us xs:=e4.grow s26
     have k2:Rep X.K H6 (fun b=>Ad B H M l b/\b≠D) y v:=by
      have z:=rv.rep (Sb.grow s35);exact z.weak fun c hc=>⟨⟨fun k w=>hc.1 k (aHd _ w),hc.2.1,fun k=>((s01.trans s12).trans (s23.trans s35)).free (hc.2.2 k)⟩,fun w=>hc.1 hl1' (by rw[w];exact aHe)⟩
     exact (RepL.app k1 (RepL.one k2)).keep (fun c _ e=>gU e5 e) (fun c o hc e=>by rw[aR hc.2];exact e) (fun c hc _=>hc) _
   ·refine jC ⟨ts.length-(i+1),by omega,rfl,hlt,(s12.trans s23).trans s35,by simpa using hl1,hσ',us,rest,xs,e1,hr,(s23.trans s35) _ _ e3,e4.grow (s23.trans s35)⟩
  ·have ei:i=ts.length:=by omega
   subst ei;refine .inl ⟨w.2 (aJf _),?_⟩;rw[List.drop_eq_nil_of_le (aJf _)] at e2;cases (aHa (show some []=some rest from e2));rw[aI8] at e1;subst e1;exact q _ H2 (s01.trans s12) ⟨D,xs,rfl,s01.free hD,e3,e4⟩
def sM:Option NameKind->Bool
 | some .local=>true
 | some .cell=>true
 | _=>false
theorem JP {env:Env}:∀ {names:List (Str × NameKind)}{x:Str},names.lookup x=some .cell ->
  (names.map fun (n,k)=>if (k == NameKind.free&&env.scope.kind == .function&&env.kindOf n == some .cell) then (n,NameKind.cell) else (n,k)).lookup x=some .cell
 | [],_,h=>by cases h
 | (n,k)::r,x,h=>by
  rw[aIx] at h;rw[aIy]
  by_cases hx:(x == n)=true
  ·rw[hx] at h
   have h':k=NameKind.cell:=aHa h;subst h';show ((n,NameKind.cell)::_).lookup x=_;rw[aIx,hx]
  ·have hx':(x == n)=false:=by simpa using hx
   rw[hx'] at h;have ih:=JP (env:=env) h;dsimp only
   split<;>(rw[aIx,hx'];exact ih)
theorem IZ {X:Cx}{scope:Scope}{N':List Str}{cl:List (Str × Addr)}{C:Addr}{s:Shared}{H:Hp}{ex:List Addr}{i:Nat}{x:Str}{p:Pos}(hN:N'.Nodup) (hi:N'[i]?=some x) (hx:sM (scope.names.lookup x)=true):
  PG (cxB X scope N' cl C s H ex) (.Name x p) (jP i):=by
 cases q:scope.names.lookup x with
 | none=>rw[q] at hx;cases hx
 | some k=>
  rw[q] at hx;cases k with
  | «local»=>exact xD hN hi (.inl (lookup_relabel_local q)) (.inr (lookup_relabel_local q))
  | cell=>exact xD hN hi (.inr (JP q)) (.inl (show qI (scope.names.lookup x)=true by rw[q];rfl))
  | _=>cases hx
theorem rQ (S:BlkOk X scope N' src) (F:FlOk X N' src fl fl' li sc) (hl1:1<=l) (hc:X.calm=true) (hi:GI X B fl (.Name x0 p0) iter fi li sc) (hN:N'[0]?=some x0) (hx:sM (scope.names.lookup x0)=true)
  (hb:∀ cl C s H ex,GIf (cxB X scope N' cl C s H ex) B fl' ifs p/\GE (cxB X scope N' cl C s H ex) B fl' elt f n l)
  (hs:∀ x,foldedSetIterable iter X.env x=pure x:=by intro _;rfl):GE X B fl (.ListComp elt [⟨.Name x0 p0,iter,ifs,0⟩] scope pos) (dH fi src p f) true l:=by
 refine bB (IW (wi:=tGI X.K B fl fi li sc) (g:=jP 0) (tc:=tGT X.K B fl' p) (te:=tG X.K B fl' f n l) S hc hi (fun cl C s H ex=>⟨?_,(hb cl C s H ex).1,(hb cl C s H ex).2⟩) hs) fun σ H Q h=>zI F hl1 h;exact IZ F.nd hN hx
theorem GK {i:Nat}{x:Str}{pos' spos:Pos}(S:BlkOk X scope N' src) (hc:X.calm=true) (hi:GI X B fl (.Name x0 p0) iter fi li sc) (hnd:N'.Nodup) (hN0:N'[0]?=some x0) (hx0:sM (scope.names.lookup x0)=true)
  (hb:∀ cl C s H ex,GIf (cxB X scope N' cl C s H ex) B fl' ifs p/\GE (cxB X scope N' cl C s H ex) B fl' elt f n l) (hN:X.N.Nodup) (hiN:X.N[i]?=some x) (hx:Loc X.env.scope x)
  (hsw:swapsWith (.ListComp elt [⟨.Name x0 p0,iter,ifs,0⟩] scope pos) (some (.Name x pos')) spos.line X.env=pure true)
  (hs:∀ x,foldedSetIterable iter X.env x=pure x) (hf:X.fn x=true\/X.env.scope.names.lookup x=some .local):
  PS X (.Assign [.Name x pos'] (.ListComp elt [⟨.Name x0 p0,iter,ifs,0⟩] scope pos) spos) (yK (vC (tGI X.K B fl fi li sc) (cO src) (jP 0) (tGT X.K B fl' p) (tG X.K B fl' f n l)) (jP i)):=by
 refine JG hN hiN hx S hc hi (fun cl C s H ex=>⟨?_,(hb cl C s H ex).1,(hb cl C s H ex).2⟩) hsw hs hf;exact IZ hnd hN0 hx0
end
inductive Out where
 | nx (ρ:Rho) | rt (t:T) | bk (ρ:Rho) | ct (ρ:Rho)
def okO:T->Bool
 | .lst _=>true
 | t=>im t
def DH (K:PySem.W.Frag) (B H:Hp) (M:List Addr) (H':Hp):List T->List V->Prop
 | [],xs=>xs=[]
 | t::ts,xs=>∃ x r,xs=x::r/\okO t=true/\aO K B H M H' true 3 t x/\DH K B H M H' ts r
def Dst (ts:List T) (xs:List V):Prop:=∀ (c d:Nat) (us ws:List T) (a:Addr),c≠d->ts[c]?=some (.lst us)->ts[d]?=some (.lst ws)->xs[c]?=some (.ref a)->xs[d]?=some (.ref a)->False
def OQ (K:PySem.W.Frag) (B H:Hp) (M:List Addr) (H':Hp) (t:T) (v:V):Prop:=∃ p ts xs,t=.tup ts/\v=.ref p/\Rd H' p (.tup xs)/\DH K B H M H' ts xs/\Dst ts xs
def RtX (K:PySem.W.Frag) (B H:Hp) (n:Bool) (l:Nat) (t:T) (v:V):Prop:=if l=4 then OQ K B B [] H t v else aO K B B [] H n l t v
theorem RtX.of {K:PySem.W.Frag}{B H:Hp}{n:Bool}{l:Nat}{t:T}{v:V}(hl:l≠4):RtX K B H n l t v ↔ aO K B B [] H n l t v:=by unfold RtX;rw[if_neg hl]
def yP (K:PySem.W.Frag) (B:Hp) (fl:List Nat) (n:Bool) (l:Nat) (Ex:List (T × V)) (D:Ends):Out->Prop
 | .nx ρ=>∀ σ M H,Sl K B fl Ex σ ρ M H->D.nx σ H
 | .bk ρ=>∀ σ M H,Sl K B fl Ex σ ρ M H->D.bk σ H
 | .ct ρ=>∀ σ M H,Sl K B fl Ex σ ρ M H->D.ct σ H
 | .rt t=>∀ v H,aP B H->RtX K B H n l t v->D.rt v H
def tS (K:PySem.W.Frag) (B:Hp) (fl:List Nat) (n:Bool) (l:Nat) (run:Rho->Option Out):TS:=fun D σ H=>
 ∃ Ex ρ M o,Sl K B fl Ex σ ρ M H/\run ρ=some o/\yP K B fl n l Ex D o
def GS (X:Cx) (B:Hp) (fl:List Nat) (n:Bool) (l:Nat) (st:Stmt) (run:Rho->Option Out):Prop:=PS X st (tS X.K B fl n l run)
def GSs (X:Cx) (B:Hp) (fl:List Nat) (n:Bool) (l:Nat) (st:List Stmt) (run:Rho->Option Out):Prop:=PSs X st (tS X.K B fl n l run)
def bO:Rho->Option Out:=fun ρ=>some (.nx ρ)
def aH (r1 r2:Rho->Option Out):Rho->Option Out:=fun ρ=>(r1 ρ).bind fun o=>match o with | .nx ρ'=>r2 ρ' | o=>some o
def aN (i:Nat) (f:Rho->Option T):Rho->Option Out:=fun ρ=>(f ρ).map fun t=>.nx (ρ.set i (some t))
def okM:T->Bool
 | .lst _=>true
 | t=>im t
def dX (i:Nat) (f:Rho->Option T):Rho->Option Out:=fun ρ=>(f ρ).bind fun t=>if okM t then some (.nx (ρ.set i (some t))) else none
def rIf (p:Rho->Option Bool) (r1 r2:Rho->Option Out):Rho->Option Out:=fun ρ=>(p ρ).bind fun b=>if b then r1 ρ else r2 ρ
def aZ (f:Rho->Option T):Rho->Option Out:=fun ρ=>(f ρ).map .rt
def BM (i:Nat) (f:Rho->Option T):Rho->Option Out:=fun ρ=>(aA i ρ).bind fun t=>(f ρ).bind fun x=>match t with | .lst ts=>if ts.length<cap then some (.nx (ρ.set i (some (.lst (ts++[x]))))) else none | _=>none
def eC (i:Nat) (fi f:Rho->Option T):Rho->Option Out:=fun ρ=>(f ρ).bind fun x=>(aA i ρ).bind fun t=>(fi ρ).bind fun k=>match t,k with | .lst ts,.int j=>(ixN ts.length j).map fun j'=>.nx (ρ.set i (some (.lst (ts.set j' x)))) | _,_=>none
def bR (j:Nat) (body:Rho->Option Out):List T->Rho->Option Out
 | [],ρ=>some (.nx ρ)
 | t::ts,ρ=>(body (ρ.set j (some t))).bind fun o=>match o with | .nx ρ'=>bR j body ts ρ' | .ct ρ'=>bR j body ts ρ' | .bk ρ'=>some (.nx ρ') | .rt t=>some (.rt t)
def cW (j:Nat) (fi:Rho->Option (List T)) (body:Rho->Option Out):Rho->Option Out:=fun ρ=>(fi ρ).bind fun ts=>bR j body ts ρ
section
variable {K:PySem.W.Frag}{B H H':Hp}{fl:List Nat}{Ex:List (T × V)}{σ:St}{ρ:Rho}{M:List Addr}{n:Bool}{l:Nat}{t:T}{v:V}{i:Nat}
theorem cY {ρ:Rho}{i j:Nat}{t u:T}(h:(ρ.set i (some t))[j]?=some (some u)):(j=i/\u=t/\i<ρ.length)\/(j≠i/\ρ[j]?=some (some u)):=by
 by_cases hj:j=i
 ·subst hj
  left
  by_cases hl:j<ρ.length
  ·rw[aIn hl] at h
   cases (aHa h);exact⟨rfl,rfl,hl⟩
  ·rw[List.getElem?_eq_none_iff.mpr (by rw[aIv];omega)] at h
   cases h
 ·right
  rw[aHk (Ne.symm hj)] at h;exact⟨hj,h⟩
theorem Sl.set (S:Sl K B fl Ex σ ρ M H) (hi:i<fl.length) (h1:1<=fl.getD i 1\/im t=true) (r:Rep K H (Ad B H M (min (fl.getD i 1) 2)) t v):Sl K B fl Ex (σ.set i (some v)) (ρ.set i (some t)) M H where
 same:=S.same
 slot:=fun j u e k=>by
  rcases cY e with ⟨rfl,rfl,_⟩ | ⟨hj,e⟩
  ·exact⟨v,by rw[aIn (aHi hi S.len)],r⟩
  ·obtain⟨w,e1,r1⟩:=S.slot j u e k
   exact⟨w,by rw[aHk (Ne.symm hj)];exact e1,r1⟩
 mu:=by
  obtain⟨g,hg,ap⟩:=S.mu;refine⟨g,fun j u e k hm=>?_,fun j j' c d u u' us ws hne e e' k k' hm hm'=>?_⟩
  ·rcases cY e with ⟨rfl,rfl,_⟩ | ⟨hj,e⟩
   ·rcases h1 with h1 | h1
    ·omega
    ·rw[hm] at h1;cases h1
   ·obtain⟨w,e2,e3⟩:=hg j u e k hm
    exact⟨w,by rw[aHk (Ne.symm hj)];exact e2,e3⟩
  ·rcases cY e with ⟨rfl,rfl,_⟩ | ⟨hj,e⟩
   ·rcases h1 with h1 | h1
    ·omega
    ·rw[rW hm] at h1;cases h1
   ·rcases cY e' with ⟨rfl,rfl,_⟩ | ⟨hj',e'⟩
    ·rcases h1 with h1 | h1
     ·omega
     ·rw[rW hm'] at h1;cases h1
    ·exact ap j j' c d u u' us ws hne e e' k k' hm hm'
 ex:=S.ex
 mB:=S.mB
 len:=by rw[aIv];exact S.len
theorem Sl.setC {ga:Nat->Addr}(Ds:List Addr) (S:Sl K B fl Ex σ ρ M H) (hi:i<fl.length) (h0:fl.getD i 1=0) (s:aP H H') (hD:∀ D∈Ds,H D=none/\H' D≠none) (hm0:im t=false) (sh:eU K H' t v ga)
  (r:∀ c us,dG t c us->∃ xs,gG H' t (ga c) xs/\RepL K H' (fun b=>Ad B H M (lc fl) b/\b ∉ Ds) us xs/\ga c∈Ds) (dj:∀ c d us ws,c≠d->jU t=false->dG t c us->dG t d ws->ga c≠ga d):
  Sl K B fl Ex (σ.set i (some v)) (ρ.set i (some t)) (Ds++M) H':=by
 have lcl:=mT fl;have lcp:=qK fl;have S':=Sl.mores Ds S hD s;obtain⟨g,hg,ap⟩:=S.mu;have hold:∀ j c u us,ρ[j]?=some (some u)->fl.getD j 1=0->dG u c us->g j c ∉ Ds:=fun j c u us e k h z=>by
  obtain⟨_,_,_,e3⟩:=hg j u e k (rW h);obtain⟨xs,q,_⟩:=e3 c us h;exact q.some (hD _ z).1
 have gmo:∀ j u,ρ[j]?=some (some u)->fl.getD j 1=0->im u=false->∃ v,σ[j]?=some (some v)/\DI K B (lc fl) (Ds++M) H' u v (g j):=fun j u e k hm=>by
  obtain⟨v,e1,e2,e3⟩:=hg j u e k hm;refine⟨v,e1,e2.grow s,fun c us h=>?_⟩;obtain⟨xs,q1,r,q3⟩:=e3 c us h;refine⟨xs,q1.keep (s _),RepL.keep (fun b _ e=>eL (fun o q=>s b o q) e) (fun b o _ e=>s b o e) (fun b x y=>⟨fun z w=>?_,x.2.1,fun z=>by omega⟩) us r,aJ3 _ q3⟩;rcases aJ1.mp w with w | w
  ·exact y (hD b w).1
  ·exact x.1 z w
 refine⟨S'.same,fun j u e k=>?_,⟨fun j=>if j=i then ga else g j,fun j u e k hm=>?_,fun j j' c d u u' us ws hne e e' k k' hm hm'=>?_⟩,S'.ex,S'.mB,by rw[aIv];exact S.len⟩
 ·rcases cY e with ⟨rfl,rfl,_⟩ | ⟨hj,e⟩
  ·rcases k with k | k
   ·omega
   ·rw[hm0] at k;cases k
  ·obtain⟨w,e1,r1⟩:=S'.slot j u e k
   exact⟨w,by rw[aHk (Ne.symm hj)];exact e1,r1⟩
 ·rcases cY e with ⟨rfl,rfl,_⟩ | ⟨hj,e⟩
  ·simp only[if_pos]
   refine⟨v,by rw[aIn (aHi hi S.len)],sh,fun c us h=>?_⟩;obtain⟨xs,q1,q2,q3⟩:=r c us h;refine⟨xs,q1,q2.weak fun b x=>⟨fun z w=>?_,fun z=>x.1.2.1 z,fun z=>by omega⟩,aJ2 _ q3⟩;rcases aJ1.mp w with w | w
   ·exact x.2 w
   ·exact x.1.1 z w
  ·simp only[if_neg hj]
   obtain⟨v1,e2,e3⟩:=gmo j u e k hm;exact⟨v1,by rw[aHk (Ne.symm hj)];exact e2,e3⟩
 ·rcases cY e with ⟨z1,z2,_⟩ | ⟨hj,f⟩
  ·rcases cY e' with ⟨z1',z2',_⟩ | ⟨hj',f'⟩
   ·have hcd:c≠d/\jU t=false:=by
     rcases hne with h | h
     ·exact absurd (z1.trans z1'.symm) h
     ·exact z2 ▸ h
    subst z2 z2';simp only[if_pos z1,if_pos z1'];exact dj c d us ws hcd.1 hcd.2 hm hm'
   ·simp only[if_pos z1,if_neg hj']
    subst z2;obtain⟨_,_,_,q3⟩:=r c us hm;exact fun z=>hold j' d u' ws f' k' hm' (by rw[<- z];exact q3)
  ·rcases cY e' with ⟨z1',z2',_⟩ | ⟨hj',f'⟩
   ·simp only[if_pos z1',if_neg hj]
    subst z2';obtain⟨_,_,_,q3⟩:=r d ws hm';exact fun z=>hold j c u us f k hm (by rw[z];exact q3)
   ·simp only[if_neg hj,if_neg hj']
    exact ap j j' c d u u' us ws hne f f' k k' hm hm'
theorem Sl.setM {ts:List T}{xs:List V}{a:Addr}(S:Sl K B fl Ex σ ρ M H) (hi:i<fl.length) (h0:fl.getD i 1=0) (s:aP H H') (hn:H a=none) (ha:H' a=some (.lst xs)) (r:RepL K H' (fun b=>Ad B H M (lc fl) b/\b≠a) ts xs):
  Sl K B fl Ex (σ.set i (some (.ref a))) (ρ.set i (some (.lst ts))) (a::M) H':=
 Sl.setC (ga:=fun _=>a) [a] S hi h0 s (fun D h=>by cases aJa.mp h;exact⟨hn,by rw[ha];simp⟩) rfl rfl (fun c us h=>by
  obtain⟨_,rfl⟩:=h;exact⟨xs,ha,r.weak fun b x=>⟨x.1,fun z=>x.2 (aJa.mp z)⟩,aJa.mpr rfl⟩) (fun c d us ws hne _ h h'=>by
  obtain⟨rfl,_⟩:=h;obtain⟨rfl,_⟩:=h';exact absurd rfl hne)
theorem Sl.writeC {t':T}{us:List T}{xs ys:List V}{a:Addr}{c:Nat}(no:jU t=false) (no':jU t'=false) (ot:∀ H a zs,gG H t a zs=(H a=some (.lst zs))) (ot':∀ H a zs,gG H t' a zs=(H a=some (.lst zs))) (S:Sl K B fl Ex σ ρ M H) (h0:fl.getD i 1=0) (e0:ρ[i]?=some (some t)) (hc:dG t c us) (hm1:im t'=false) (hm:a∈M) (ha:H a=some (.lst xs))
  (sh:∀ v ga,eU K H t v ga->σ[i]?=some (some v)->ga c=a/\eU K H t' v ga) {us':List T} (h1:∀ d ws,dG t' d ws->(d=c/\ws=us')\/(d≠c/\dG t d ws)) (r:RepL K H (Ad B H M (lc fl)) us' ys):
  Sl K B fl Ex σ (ρ.set i (some t')) M (upd H a (.lst ys)):=by
 have lcl:=mT fl;have lcp:=qK fl;have kp:∀ {l:Nat} (b:Addr) (o:HO),1<=l->Ad B H M l b->H b=some o->upd H a (.lst ys) b=some o:=fun b o hl hb e=>by
  rw[aR (fun z=>hb.1 hl (by rw[z];exact hm))];exact e
 obtain⟨g,hg,ap⟩:=S.mu;have gi:g i c=a:=by
  obtain⟨v1,s1,q1,_⟩:=hg i t e0 h0 (rW hc);exact (sh v1 _ q1 s1).1
 have has:∀ d ws,dG t' d ws->∃ ws',dG t d ws':=fun d ws h=>by
  rcases h1 d ws h with ⟨rfl,_⟩ | ⟨_,h⟩
  ·exact⟨us,hc⟩
  ·exact⟨ws,h⟩
 refine⟨fun b o e=>?_,fun j u e k=>?_,⟨g,fun j u e k hM=>?_,fun j j' d d' u u' ws ws' hne e e' k k' hM hM'=>?_⟩,fun p hp=>?_,fun b hb=>⟨(S.mB b hb).1,?_⟩,S.len⟩
 ·rw[aR (fun z=>by rw[z,(S.mB a hm).1] at e;cases e)]
  exact S.same b o e
 ·rcases cY e with ⟨rfl,rfl,_⟩ | ⟨hj,e⟩
  ·rcases k with k | k
   ·omega
   ·rw[hm1] at k;cases k
  ·obtain⟨w,e1,r1⟩:=S.slot j u e k
   rcases k with k | k
   ·exact⟨w,e1,Rep.keep (fun _ _ e=>gU ha e) (fun b o x e=>kp b o (by omega) x e) (fun b x _=>x.any (by omega)) u r1⟩
   ·exact⟨w,e1,xJ (fun _ _ e=>gU ha e) u k r1⟩
 ·rcases cY e with ⟨rfl,rfl,_⟩ | ⟨hj,e⟩
  ·obtain⟨v1,s1,q1,q2⟩:=hg j t e0 h0 (rW hc)
   refine⟨v1,s1,(sh v1 _ q1 s1).2.keep (fun _ _ e=>gU ha e) (fun z=>by rw[no'] at z;cases z),fun d ws h=>?_⟩;rcases h1 d ws h with ⟨rfl,rfl⟩ | ⟨hd,h'⟩
   ·rw[gi]
    exact⟨ys,by rw[ot' _ _ _];exact cP,RepL.keep (fun _ _ e=>gU ha e) (fun b o x e=>kp b o (by omega) x e) (fun b x _=>x.any (by omega)) _ r,hm⟩
   ·obtain⟨zs,f1,f2,f3⟩:=q2 d ws h'
    have hne:g j d≠a:=fun z=>ap j j d c t t ws us (.inr ⟨hd,no⟩) e0 e0 h0 h0 h' hc (z.trans gi.symm);exact⟨zs,by rw[ot' _ _ _,aR hne,<- ot _ _ _];exact f1,RepL.keep (fun _ _ e=>gU ha e) (fun b o x e=>kp b o (by omega) x e) (fun b x _=>x.any (by omega)) ws f2,f3⟩
  ·obtain⟨v1,e1,e2,e3⟩:=hg j u e k hM
   refine⟨v1,e1,e2.keep (fun _ _ e=>gU ha e) (fun zo d o hdo eo=>?_),fun d ws h=>?_⟩
   ·have hne:g j d≠a:=fun z=>ap j i d c u t [] us (.inl hj) e e0 k h0 hdo hc (z.trans gi.symm)
    rw[aR hne];exact eo
   obtain⟨zs,f1,f2,f3⟩:=e3 d ws h;have hne:g j d≠a:=fun z=>ap j i d c u t ws us (.inl hj) e e0 k h0 h hc (z.trans gi.symm);exact⟨zs,f1.keep (fun o eo=>by rw[aR hne];exact eo),RepL.keep (fun _ _ e=>gU ha e) (fun b o x e=>kp b o (by omega) x e) (fun b x _=>x.any (by omega)) ws f2,f3⟩
 ·have lk:∀ j u d ws,(ρ.set i (some t'))[j]?=some (some u)->dG u d ws->∃ u' ws',ρ[j]?=some (some u')/\dG u' d ws'/\jU u'=jU u:=fun j u d ws e h=>by
   rcases cY e with ⟨z1,z2,_⟩ | ⟨_,f⟩
   ·subst z2
    obtain⟨ws',h'⟩:=has d ws h;exact⟨t,ws',by rw[z1];exact e0,h',by rw[no,no']⟩
   ·exact⟨u,ws,f,h,rfl⟩
  obtain⟨w,x,ew,hw,ow⟩:=lk j u d ws e hM;obtain⟨w',x',ew',hw',_⟩:=lk j' u' d' ws' e' hM';exact ap j j' d d' w w' x x' (by rw[ow];exact hne) ew ew' k k' hw hw'
 ·exact Rep.keep (fun _ _ e=>gU ha e) (fun b o x e=>kp b o (by omega) x e) (fun b x _=>x.any (by omega)) p.1 (S.ex p hp)
 ·by_cases hb':b=a
  ·rw[hb',cP];simp
  ·rw[aR hb'];exact (S.mB b hb).2
theorem Sl.write {ts us:List T}{xs ys:List V}{a:Addr}(S:Sl K B fl Ex σ ρ M H) (h0:fl.getD i 1=0) (e0:ρ[i]?=some (some (.lst ts))) (ea:σ[i]?=some (some (.ref a))) (hm:a∈M) (ha:H a=some (.lst xs)) (r:RepL K H (Ad B H M (lc fl)) us ys):
  Sl K B fl Ex σ (ρ.set i (some (.lst us))) M (upd H a (.lst ys)):=
 Sl.writeC rfl rfl (fun _ _ _=>rfl) (fun _ _ _=>rfl) (c:=0) (us':=us) S h0 e0 ⟨rfl,rfl⟩ rfl hm ha (fun v ga q e=>by
  rw[ea] at e;have h1:V.ref a=v:=aHa (aHa e);have h2:v=V.ref (ga 0):=q;exact⟨(V.ref.inj (h1.trans h2)).symm,h2⟩) (fun d ws h=>.inl h) r
theorem Sl.fewer {ps:List (T × V)}(S:Sl K B fl (ps++Ex) σ ρ M H):Sl K B fl Ex σ ρ M H:=⟨S.same,S.slot,S.mu,fun q hq=>S.ex q (aJ3 _ hq),S.mB,S.len⟩
theorem Sl.plus {ps:List (T × V)}(S:Sl K B fl Ex σ ρ M H) (r:∀ p∈ps,Rep K H (Ad B H M 1) p.1 p.2):Sl K B fl (ps++Ex) σ ρ M H:=⟨S.same,S.slot,S.mu,fun q hq=>by
 rcases aJ1.mp hq with hq | hq
 ·exact r q hq
 ·exact S.ex q hq,S.mB,S.len⟩
end
section
variable {X:Cx}{B:Hp}{fl:List Nat}{n n':Bool}{l l':Nat}{st:Stmt}{rest body els:List Stmt}{r r1 r2:Rho->Option Out}{e c:Expr}{f g:Rho->Option T}{p:Rho->Option Bool}{pos pos':Pos}{i:Nat}{x:Str}
theorem cJ:GSs X B fl n l [] bO:=JH aBr fun D σ H ⟨Ex,ρ,M,o,S,hr,q⟩=>by
 cases (aHa hr);exact q σ M H S
theorem aI (h1:GS X B fl n l st r1) (h2:GSs X B fl n l rest r2):GSs X B fl n l (st::rest) (aH r1 r2):=by
 refine JH (aBq h1 h2) ?_;rintro D σ H ⟨Ex,ρ,M,o,S,hr,q⟩;obtain⟨o1,h1,hr⟩:=bind_some hr;refine⟨Ex,ρ,M,o1,S,h1,?_⟩;cases o1 with
 | nx ρ'=>exact fun σ' M' H' S'=>⟨Ex,ρ',M',o,S',hr,q⟩
 | rt t=>cases (aHa hr);exact q
 | bk ρ'=>cases (aHa hr);exact q
 | ct ρ'=>cases (aHa hr);exact q
theorem aK (h1:GS X B fl n l st r1):GSs X B fl n l [st] r1:=aBs h1
theorem aQ (i:Nat) (he:GE X B fl e f n' l') (hN:X.N.Nodup) (hi:X.N[i]?=some x) (hx:Loc X.env.scope x) (hfl:(decide (i<fl.length)&&decide (1<=fl.getD i 1)&&decide (fl.getD i 1<=l'))=true)
  (hs:swapsWith e (some (.Name x pos')) pos.line X.env=pure false:=by rfl) (hf:X.fn x=true\/X.env.scope.names.lookup x=some .local:=by first | exact .inl rfl | exact .inr rfl | assumption):
  GS X B fl n l (.Assign [.Name x pos'] e pos) (aN i f):=by
 refine eK (JF hN hi hx he hs hf) ?_;rintro D σ H ⟨Ex,ρ,M,o,S,hr,q⟩;simp only[aHn,decide_eq_true_eq] at hfl;unfold aN at hr;cases e1:f ρ with
 | none=>rw[e1] at hr;cases hr
 | some t=>
  rw[e1] at hr;cases (aHa hr);refine⟨Ex,ρ,M,t,S,e1,fun v H1 s1 rx=>q _ M H1 ((S.grow s1).set hfl.1.1 (.inl hfl.1.2) ?_)⟩;exact (rx.rep S).weak fun b x=>⟨fun z=>x.1 (by omega),fun z=>x.2.1 (by omega),fun z=>by omega⟩
theorem KN {ρ:Rho}{σ:St}{H H1:Hp}{M:List Addr}{Ex:List (T × V)}{t:T}{v:V}{o:Out}{D:Ends}(S:Sl X.K B fl Ex σ ρ M H) (hfl:i<fl.length/\fl.getD i 1=0/\lc fl<=l')
  (hr:(if okM t then some (Out.nx (ρ.set i (some t))) else none)=some o) (q:yP X.K B fl n l Ex D o) (s1:aP H H1) (rx:aO X.K B H M H1 true l' t v):D.nx (σ.set i (some v)) H1:=by
 split at hr
 rotate_left
 ·cases hr
 rename_i hok;cases (aHa hr)
 by_cases hl:∃ ts,t=.lst ts
 ·obtain⟨ts,rfl⟩:=hl
  obtain⟨a,xs,rfl,h1,h2,h3⟩:=rx;exact q _ _ H1 (S.setM hfl.1 hfl.2.1 s1 h1 h2 (h3.weak fun b x=>⟨x.1.le hfl.2.2,x.2⟩))
 ·have him:im t=true:=by
   cases t with
   | lst ts=>exact absurd ⟨ts,rfl⟩ hl
   | non=>exact hok
   | bl _=>exact hok
   | int _=>exact hok
   | str _=>exact hok
   | tup _=>exact hok
   | exc _=>exact hok
   | dct _=>exact hok
   | own _=>exact hok
  exact q _ _ H1 ((S.grow s1).set hfl.1 (.inr him) (qR t him (rx.rep S)))
theorem jS (i:Nat) (he:GE X B fl e f true l') (hN:X.N.Nodup) (hi:X.N[i]?=some x) (hx:Loc X.env.scope x) (hfl:(decide (i<fl.length)&&decide (fl.getD i 1=0)&&decide (lc fl<=l'))=true)
  (hs:swapsWith e (some (.Name x pos')) pos.line X.env=pure false:=by rfl) (hf:X.fn x=true\/X.env.scope.names.lookup x=some .local:=by first | exact .inl rfl | exact .inr rfl | assumption):
  GS X B fl n l (.Assign [.Name x pos'] e pos) (dX i f):=by
 refine eK (JF hN hi hx he hs hf) ?_;rintro D σ H ⟨Ex,ρ,M,o,S,hr,q⟩;simp only[aHn,decide_eq_true_eq,and_assoc] at hfl;obtain⟨t,e1,hr⟩:=bind_some hr;exact⟨Ex,ρ,M,t,S,e1,fun v H1 s1 rx=>KN S hfl hr q s1 rx⟩
section
variable {elt iter:Expr}{x0:Str}{p0 cpos:Pos}{ifs:List Expr}{scope:Scope}{N':List Str}{src:List (Option Nat)}{fl':List Nat}{fi:Rho->Option (List T)}{li:Nat}{sc:Bool}{spos:Pos}
theorem UU (i:Nat) (S:BlkOk X scope N' src) (F:FlOk X N' src fl fl' li sc) (hc:X.calm=true) (hi:GI X B fl (.Name x0 p0) iter fi li sc) (hN0:N'[0]?=some x0) (hx0:sM (scope.names.lookup x0)=true)
  (hb:∀ cl C s H ex,GIf (cxB X scope N' cl C s H ex) B fl' ifs p/\GE (cxB X scope N' cl C s H ex) B fl' elt f n' l') (hN:X.N.Nodup) (hiN:X.N[i]?=some x) (hx:Loc X.env.scope x) (hfl:(decide (i<fl.length)&&decide (1<=fl.getD i 1)&&decide (fl.getD i 1<=l')&&decide (1<=l'))=true)
  (hsw:swapsWith (.ListComp elt [⟨.Name x0 p0,iter,ifs,0⟩] scope cpos) (some (.Name x pos')) spos.line X.env=pure true:=by rfl)
  (hs:∀ x,foldedSetIterable iter X.env x=pure x:=by intro _;rfl) (hf:X.fn x=true\/X.env.scope.names.lookup x=some .local:=by first | exact .inl rfl | exact .inr rfl | assumption):
  GS X B fl n l (.Assign [.Name x pos'] (.ListComp elt [⟨.Name x0 p0,iter,ifs,0⟩] scope cpos) spos) (aN i (dH fi src p f)):=by
 refine eK (GK S hc hi F.nd hN0 hx0 hb hN hiN hx hsw hs hf) ?_;rintro D σ H ⟨Ex,ρ,M,o,S,hr,q⟩;simp only[aHn,decide_eq_true_eq] at hfl;unfold aN at hr;cases e1:dH fi src p f ρ with
 | none=>rw[e1] at hr;cases hr
 | some t=>
  rw[e1] at hr;cases (aHa hr);refine zI F hfl.2 ⟨Ex,ρ,M,t,S,e1,fun v H1 s1 rx=>q _ M H1 ((S.grow s1).set hfl.1.1.1 (.inl hfl.1.1.2) ?_)⟩;exact (rx.rep S).weak fun b x=>⟨fun z=>x.1 (by omega),fun z=>x.2.1 (by omega),fun z=>by omega⟩
theorem wB (i:Nat) (S:BlkOk X scope N' src) (F:FlOk X N' src fl fl' li sc) (hc:X.calm=true) (hi:GI X B fl (.Name x0 p0) iter fi li sc) (hN0:N'[0]?=some x0) (hx0:sM (scope.names.lookup x0)=true)
  (hb:∀ cl C s H ex,GIf (cxB X scope N' cl C s H ex) B fl' ifs p/\GE (cxB X scope N' cl C s H ex) B fl' elt f n' l') (hN:X.N.Nodup) (hiN:X.N[i]?=some x) (hx:Loc X.env.scope x) (hfl:(decide (i<fl.length)&&decide (fl.getD i 1=0)&&decide (lc fl<=l'))=true)
  (hsw:swapsWith (.ListComp elt [⟨.Name x0 p0,iter,ifs,0⟩] scope cpos) (some (.Name x pos')) spos.line X.env=pure true:=by rfl)
  (hs:∀ x,foldedSetIterable iter X.env x=pure x:=by intro _;rfl) (hf:X.fn x=true\/X.env.scope.names.lookup x=some .local:=by first | exact .inl rfl | exact .inr rfl | assumption):
  GS X B fl n l (.Assign [.Name x pos'] (.ListComp elt [⟨.Name x0 p0,iter,ifs,0⟩] scope cpos) spos) (dX i (dH fi src p f)):=by
 refine eK (GK S hc hi F.nd hN0 hx0 hb hN hiN hx hsw hs hf) ?_;rintro D σ H ⟨Ex,ρ,M,o,S,hr,q⟩;simp only[aHn,decide_eq_true_eq,and_assoc] at hfl;obtain⟨t,e1,hr⟩:=bind_some hr;exact zI F (by have:=hfl.2.2;have:=qK fl;omega) ⟨Ex,ρ,M,t,S,e1,fun v H1 s1 rx=>KN S hfl hr q s1 rx⟩
end
theorem cI (hc:GT X B fl c p) (ha:GSs X B fl n l body r1) (hb:GSs X B fl n l els r2):GS X B fl n l (.If c body els pos) (rIf p r1 r2):=by
 refine eK (aBm hc ha hb) ?_;rintro D σ H ⟨Ex,ρ,M,o,S,hr,q⟩;obtain⟨b,hb,hr⟩:=bind_some hr;refine⟨Ex,ρ,M,b,S,hb,fun H1 s1=>?_⟩;cases b with
 | true=>exact jD ⟨Ex,ρ,M,o,S.grow s1,hr,q⟩
 | false=>exact jC ⟨Ex,ρ,M,o,S.grow s1,hr,q⟩
theorem aCg {ρ:Rho}{σ:St}{H H1:Hp}{M:List Addr}{Ex:List (T × V)}{t:T}{v:V}(S:Sl X.K B fl Ex σ ρ M H) (h:(n=true->n'=true)/\(l=0\/2<=l')) (rx:aO X.K B H M H1 n' l' t v):aO X.K B B [] H1 n l t v:=by
 have ad:∀ b,Ad B H M l' b->Ad B B [] l b:=fun b x=>⟨fun _ z=>by simp at z,fun z=>x.2.1 (by omega),fun z=>x.2.1 (by omega)⟩;cases n with
 | false=>cases t<;>exact (rx.rep S).weak ad
 | true=>
  have e:=h.1 rfl;subst e;cases t with
  | lst ts=>
   obtain⟨a,xs,e,h1,h2,h3⟩:=rx;exact⟨a,xs,e,S.same.free h1,h2,h3.weak fun b x=>⟨ad b x.1,x.2⟩⟩
  | non=>exact rx
  | bl _=>exact rx
  | int _=>exact rx
  | str _=>exact rx
  | tup _=>exact Rep.weak ad rx
  | exc _=>exact rx
  | dct _=>exact Rep.weak ad rx
  | own _=>exact Rep.weak ad rx
theorem UR (i:Nat) {apos p2:Pos}(he:GE X B fl e f n' l') (h1:(decide (fl.getD i 1=0)&&decide (lc fl<=l'))=true) (hN:X.N[i]?=some x:=by rfl) (hv:Vis X.env.scope x:=by first | exact Or.inl rfl | exact Or.inr (Or.inl rfl) | exact Or.inr (Or.inr rfl))
  (hd:(x == ("__debug__" : Str))=false:=by decide) (hcd:(x == ("__classdict__" : Str))=false:=by decide)
  (hbase:attributeBase (.Name x p2) "append" X.env (eval (.Name x p2) X.env)=eval (.Name x p2) X.env:=by rfl)
  (hfew:((backTo pos' (starEach [e] X.env)).all (fun x=>!x.1)&&(backToKw pos' (keywordEach [] X.env)).all (fun x=>x.1.isSome)
   && decide (([e]:List Expr).length+([]:List Keyword).length+(if ([]:List Keyword).isEmpty then 0 else 1)<30))=true:=by rfl)
  (hline:(apos.endLine == pos'.line)=true:=by rfl) (hs:starEach [e] X.env=[(false,eval e X.env)]:=by rfl) (hsw:swapsWith (.Call (.Attribute (.Name x p2) "append" apos) [e] [] pos') none pos.line X.env=pure false:=by rfl):
  GS X B fl n l (.Expr (.Call (.Attribute (.Name x p2) "append" apos) [e] [] pos') pos) (BM i f):=by
 simp only[aHn,decide_eq_true_eq] at h1;have lcl:=mT fl;have lcp:=qK fl;refine eK (JD (sO PySem.F.plainAttrs_list PySem.F.slot_list_append PySem.F.type_list_append IG (pv (X:=X) i hN hv hd hcd) (eB he fW hs) hbase hfew hline hs rfl) hsw) ?_;rintro D σ H ⟨Ex,ρ,M,o,S,hr,q⟩;obtain⟨t,e1,hr⟩:=bind_some hr;obtain⟨y,e2,hr⟩:=bind_some hr;cases t<;>first | (cases hr;done) | skip
 dsimp only at hr;split at hr
 ·rename_i hl
  cases (aHa hr);have e1':=rS e1;obtain⟨a,ts,xs,e3,e4,e5,e6,e7⟩:=S.muL i _ e1' h1.1;cases e3;refine⟨_,e4,.inl ⟨rfl,xs,SqL.of e5⟩,?_⟩;refine⟨Ex,ρ,M,y,S,e2,fun v H1 s1 rx=>?_⟩;refine⟨a,xs,v,rfl,rfl,s1 _ _ e5,by rw[<- e6.length];exact gJ (aJe hl),?_⟩;refine q σ M _ ((S.grow s1).write h1.1 e1' e4 e7 (s1 _ _ e5) (RepL.app ((e6.grow s1).weak fun b x=>x.any (by omega)) (RepL.one ((rx.rep S).weak fun b x=>?_))));exact⟨fun z=>x.1 (by omega),fun z=>x.2.1 (by omega),fun z=>by omega⟩
 ·cases hr
theorem hZ (i:Nat) {k:Expr}{fk:Rho->Option T}{nk:Bool}{lk:Nat}{p2 p3:Pos}(he:GE X B fl e f n' l') (hk:GE X B fl k fk nk lk) (h1:(decide (fl.getD i 1=0)&&decide (lc fl<=l'))=true) (hN:X.N[i]?=some x:=by rfl)
  (hv:Vis X.env.scope x:=by first | exact Or.inl rfl | exact Or.inr (Or.inl rfl) | exact Or.inr (Or.inr rfl))
  (hd:(x == ("__debug__" : Str))=false:=by decide) (hcd:(x == ("__classdict__" : Str))=false:=by decide)
  (ha:∀ v,assign (.Subscript (.Name x p2) k p3) X.env v=(do
   let ov <- holding [v] (eval (.Name x p2) X.env)
   let iv <- holding [v,ov] (eval k X.env)
   standAt p3
   holding [v,ov,iv] (setItem ov iv v)
   release [v,ov,iv] []):=by intro _;rfl)
  (hs:swapsWithSole [.Subscript (.Name x p2) k p3] e pos.line X.env=pure false:=by rfl) (hw:swappedStores [.Subscript (.Name x p2) k p3] e X.env=pure none:=by rfl)
  (h2:(assignEach [.Subscript (.Name x p2) k p3] X.env).map (·.2)=[assign (.Subscript (.Name x p2) k p3) X.env]:=by rfl):
  GS X B fl n l (.Assign [.Subscript (.Name x p2) k p3] e pos) (eC i fk f):=by
 simp only[aHn,decide_eq_true_eq] at h1;have lcl:=mT fl;have lcp:=qK fl;refine eK (aBl he (aB8 (pv (X:=X) i hN hv hd hcd) hk aD2 ha) hs hw h2) ?_;rintro D σ H ⟨Ex,ρ,M,o,S,hr,q⟩;obtain⟨y,e2,hr⟩:=bind_some hr;obtain⟨t,e1,hr⟩:=bind_some hr;obtain⟨kk,ek,hr⟩:=bind_some hr;have ht2:∃ ts j,t=.lst ts/\kk=.int j:=by
  cases t<;>first | (cases hr;done) | skip
  cases kk<;>first | (cases hr;done) | exact⟨_,_,rfl,rfl⟩
 obtain⟨ts,j,rfl,rfl⟩:=ht2;dsimp only at hr;cases ej:ixN ts.length j with
 | none=>rw[ej] at hr;cases hr
 | some j'=>
  rw[ej] at hr;cases (aHa hr);have e1':=rS e1;refine⟨Ex,ρ,M,y,S,e2,fun v H1 s1 rx=>?_⟩;obtain⟨a,ts',xs,e3,e4,e5,e6,e7⟩:=S.muL i _ e1' h1.1;cases e3;refine⟨_,e4,?_⟩;refine⟨Ex,ρ,M,_,S.grow s1,ek,fun vk H2 s2 rk=>?_⟩;have S2:=S.grow (s1.trans s2);refine⟨a,xs,j,j',rfl,(aO.scal rfl).mp rk,(s1.trans s2) _ _ e5,by rw[<- e6.length];exact ej,?_⟩;refine q σ M _ (S2.write h1.1 e1' e4 e7 ((s1.trans s2) _ _ e5) (RepL.set j' ((rx.rep S).grow s2 |>.weak fun b x=>?_) ((e6.grow (s1.trans s2)).weak fun b x=>x.any (by omega))));exact⟨fun z=>x.1 (by omega),fun z=>x.2.1 (by omega),fun z=>by omega⟩
theorem dJ (j:Nat) {iter:Expr}{fi:Rho->Option (List T)}{li:Nat}{sc:Bool}{tpos:Pos}(hp:PassesOwn (model X.prog X.w) X.A X.env X.xe) (hc:X.calm=true) (hi:GI X B fl (.Name x tpos) iter fi li sc) (hN:X.N.Nodup) (hj:X.N[j]?=some x) (hx:Loc X.env.scope x)
  (hb:GSs X B fl n l body r) (hfl:(decide (j<fl.length)&&decide (fl.getD j 1=1)&&decide (1<=li))=true)
  (hs:∀ x,foldedSetIterable iter X.env x=pure x:=by intro _;rfl) (hf:X.fn x=true\/X.env.scope.names.lookup x=some .local:=by first | exact .inl rfl | exact .inr rfl | assumption):
  GS X B fl n l (.For (.Name x tpos) iter body [] pos) (cW j fi r):=by
 simp only[aHn,decide_eq_true_eq,and_assoc] at hfl;refine eK (JE hp hc hi (xD hN hj hx hf) hb hs) ?_;rintro D σ H ⟨Ex,ρ,M,o,S,hr,q⟩;obtain⟨ts,hts,hr⟩:=bind_some hr;refine⟨Ex,ρ,M,ts,S,hts,fun J H1 ps s1 rp wk=>?_⟩;refine⟨fun i m σ1 H2=>m=ts.length-i/\i<=ts.length/\∃ ρ1 M1,Sl X.K B fl (ps++Ex) σ1 ρ1 M1 H2/\bR j r (ts.drop i) ρ1=some o,⟨ts.length,by simp,aJx _,ρ,M,(S.grow s1).plus (fun p hp=>(rp p hp).weak fun b x=>⟨fun z=>x.1 (by omega),fun z=>by omega,fun z=>by omega⟩),hr⟩,?_⟩;rintro i m σ1 H2 ⟨rfl,hi,ρ1,M1,S1,e1⟩;have w:=wk H2 _ (fun p hp=>S1.ex p (aJ2 _ hp)) i
 by_cases hlt:i<ts.length
 ·have et:ts[i]?=some ts[i]:=aHc hlt
  obtain⟨go,yl⟩:=w.1 _ et;rw[List.drop_eq_getElem_cons hlt] at e1;unfold bR at e1;obtain⟨o1,h1,e1⟩:=bind_some e1;refine .inr ⟨go,fun σ' H'=>∃ ρ1 M1,Sl X.K B fl (ps++Ex) σ' ρ1 M1 H'/\bR j r (ts.drop (i+1)) ρ1=some o,fun σ' H' ⟨ρ',M',S',e'⟩=>⟨ts.length-(i+1),by omega,rfl,hlt,ρ',M',S',e'⟩,fun y H3 hy=>?_⟩;obtain⟨s23,ry⟩:=yl y H3 hy;have ry':Rep X.K H3 (Ad B H3 M1 (min (fl.getD j 1) 2)) ts[i] y:=ry.weak fun c hc=>by
   obtain⟨_,hc⟩:=hc;rcases hc with hc | hc
   ·exact⟨fun z=>hc.1 (aJf _),fun z=>by omega,fun z=>by omega⟩
   ·exact⟨fun _ z=>(S1.mB c z).2 hc,fun z=>by omega,fun z=>by omega⟩
  refine⟨ps++Ex,_,M1,o1,(S1.grow s23).set hfl.1 (.inl (by omega)) ry',h1,?_⟩;cases o1 with
  | nx ρ'=>exact fun σ' M' H' S'=>⟨ρ',M',S',e1⟩
  | ct ρ'=>exact fun σ' M' H' S'=>⟨ρ',M',S',e1⟩
  | bk ρ'=>cases (aHa e1);exact fun σ' M' H' S'=>q σ' M' H' S'.fewer
  | rt t=>cases (aHa e1);exact q
 ·have ei:i=ts.length:=by omega
  subst ei;rw[List.drop_eq_nil_of_le (aJf _)] at e1;cases (aHa (show some (Out.nx ρ1)=some o from e1));exact .inl ⟨w.2 (aJf _),q σ1 M1 H2 S1.fewer⟩
end
def spT (K:PySem.W.Frag) (F:List T->Option T) (n:Bool) (l:Nat):Sp:=fun vs H Q _=>
 ∃ ts t,RepL K H (fun _=>True) ts vs/\F ts=some t/\∀ v H',aP H H'->aO K H H [] H' n l t v->Q v H'
structure Cal (P:Program) (w:World) (K:PySem.W.Frag) (mg:Str->Option Value) (base:Heap) (x:Str) (k:Nat) (ps:List Str) (F:List T->Option T) (n:Bool) (l:Nat):Prop where
 ex:∃ f fd,FnOk P w K mg base CX0 k f fd ps (spT K F n l)/\mg x=some (.ref f)/\PySem.W.keepIn K (.ref f)=true/\fH K fd ps []
section
variable {X:Cx}{B:Hp}{fl:List Nat}{e:Expr}{es:List Expr}{f:Rho->Option T}{fa:Rho->Option (List T)}{n n':Bool}{l l' k:Nat}{pos p':Pos}{x:Str}{ps:List Str}{F:List T->Option T}
theorem aO.called {K:PySem.W.Frag}{H H1 H2:Hp}{Ex:List (T × V)}{σ:St}{ρ:Rho}{M:List Addr}{t:T}{v:V}(S:Sl K B fl Ex σ ρ M H) (s1:aP H H1) (hl:l=0\/l=3) (r:aO K H1 H1 [] H2 n l t v):aO K B H M H2 n l t v:=by
 have S1:=S.grow s1;have ad:∀ b,Ad H1 H1 [] l b->Ad B H M l b:=fun b x=>by
  rcases hl with rfl | rfl
  ·exact Ad.zero
  ·have hn:=x.2.2 (by lia)
   exact⟨fun _ z=>(S1.mB b z).2 hn,fun _=>S1.same.free hn,fun _=>s1.free hn⟩
 cases n with
 | false=>cases t<;>exact Rep.weak ad r
 | true=>
  cases t with
  | lst ts=>
   obtain⟨a,xs,e,h1,h2,h3⟩:=r;exact⟨a,xs,e,s1.free h1,h2,h3.weak fun b x=>⟨ad b x.1,x.2⟩⟩
  | non=>exact r
  | bl _=>exact r
  | int _=>exact r
  | str _=>exact r
  | tup _=>exact Rep.weak ad r
  | exc _=>exact r
  | dct _=>exact Rep.weak ad r
  | own _=>exact Rep.weak ad r
theorem aU (C:Cal X.prog X.w X.K X.mg X.base x k ps F n l) (hr:Room k X.A) (hg:Gl X x) (ha:GA X B fl (e::es) fa l') (hl:(decide (l=0)||decide (l=3))=true:=by rfl) (hdb:(x == ("__debug__" : Str))=false:=by decide)
  (he:starEach (e::es) X.env=(false,eval e X.env)::starEach es X.env:=by rfl) (hpl:(backTo pos (starEach es X.env)).any (·.1)=false:=by rfl):GE X B fl (.Call (.Name x p') (e::es) [] pos) (aJ fa F) n l:=by
 obtain⟨f,fd,FO,hm,hk,hb⟩:=C.ex;refine bB (IT FO hr hg hm hk hb .nil IQ ha hdb he hpl) ?_;rintro σ H Q ⟨Ex,ρ,M,t,S,hf,q⟩;obtain⟨ts,hts,hf⟩:=bind_some hf;simp only[aHt,decide_eq_true_eq] at hl;refine⟨Ex,ρ,M,ts,S,hts,fun vs H1 s1 r1=>?_⟩;show spT X.K F n l (vs++[]) H1 Q E0;rw[aI8];exact⟨ts,t,r1.weak fun _ _=>trivial,hf,fun v H2 s2 r2=>q v H2 (s1.trans s2) (r2.called S s1 hl)⟩
end
section
variable {P:Program}{w:World}{K:PySem.W.Frag}{mg:Str->Option Value}{base:Heap}
def pT:Out->T->Prop
 | .rt t,u=>t=u
 | .nx _,u=>u=.non
 | _,_=>False
theorem yJ {H:Hp}{fl:List Nat}{N ps:List Str}{ts:List T}{vs:List V}(hfl:fl.length=N.length) (hp:∀ i,i<ps.length->fl.getD i 1=1) (hl:ts.length=ps.length) (r:RepL K H (fun _=>True) ts vs) (hN:ps.length<=N.length):
  Sl K H fl [] (L2.start N vs) (ts.map some++List.replicate (N.length-ps.length) none) [] H:=by
 have hlv:=r.length;have get:∀ i t,(ts.map some++List.replicate (N.length-ps.length) none)[i]?=some (some t)->ts[i]?=some t/\i<ps.length:=fun i t e=>by
  by_cases hi:i<ts.length
  ·rw[List.getElem?_append_left (by simpa using hi),aIl] at e
   rw[aHc hi] at e ⊢;exact⟨aHa e,by lia⟩
  ·rw[List.getElem?_append_right (by simpa using hi),List.getElem?_replicate] at e
   split at e<;>cases e
 refine⟨aP.refl H,fun i t e k=>?_,⟨fun _ _=>0,fun i t e k=>?_,fun i j c d t u us ws _ e _ k=>?_⟩,fun p hp=>by simp at hp,fun a ha=>by simp at ha,?_⟩
 ·obtain⟨e1,hi⟩:=get i t e
  obtain⟨v,e2,r2⟩:=r.get e1;refine⟨v,?_,r2.weak fun b _=>?_⟩
  ·unfold L2.start
   rw[List.getElem?_append_left (by rw[aIr];lia),aIl,e2]
   rfl
  ·rw[hp i hi]
   exact⟨fun _ z=>by simp at z,fun z=>by lia,fun z=>by lia⟩
 ·obtain⟨_,hi⟩:=get i t e
  rw[hp i hi] at k;cases k
 ·obtain⟨_,hi⟩:=get i t e
  rw[hp i hi] at k;cases k
 ·unfold L2.start
  rw[hfl,aIo,aIr,aIu];lia
theorem gfn {x qual:Str}{st:Stmt}{f:Addr}{fd:FuncData}{N ps:List Str}{k:Nat}{fl:List Nat}{n:Bool}{l:Nat}{F:List T->Option T}{run:Rho->Option Out}(Fu:Fun K x qual st f fd) (S:FnScope N ps (defScope st))
  (hfl:fl.length=N.length) (hp:∀ i,i<ps.length->fl.getD i 1=1) (hlen:∀ ts t,F ts=some t->ts.length=ps.length)
  (hb:∀ (cdv:Value) (A:Around) (outer:List Env) (s:Shared) (H:Hp) (E:XK),Room k (A.deeper (envOfC qual (defScope st) s.heap.objs.size f cdv)) ->
   GSs (aV CX0 P w K mg base N qual (defScope st) f cdv A outer s H E).nox H fl n l (defBody st) run)
  (hrun:∀ ts t,F ts=some t->∃ o,run (ts.map some++List.replicate (N.length-ps.length) none)=some o/\pT o t) (hl4:l≠4:=by decide):FnOk P w K mg base CX0 (k+1) f fd ps (spT K F n l):=by
 have hN:ps.length<=N.length:=by have:=congrArg List.length S.pre;rw[aIw] at this;lia
 refine Fu.ok S (fun vs H Q E h=>?_) (fun cdv A outer s H vs Q E hr h=>?_)
 ·obtain⟨ts,t,r,hf,_⟩:=h
  rw[<- r.length];exact hlen ts t hf
 ·obtain⟨ts,t,r,hf,q⟩:=h
  refine⟨_,hb cdv A outer s H E hr,?_⟩;obtain⟨o,ho,hi⟩:=hrun ts t hf;refine⟨[],_,[],o,yJ hfl hp (hlen ts t hf) r hN,ho,?_⟩;cases o with
  | rt u=>
   cases (show u=t from hi);exact fun v H' s' r'=>q v H' s' ((RtX.of hl4).mp r')
  | nx ρ'=>
   cases (show t=.non from hi);exact fun σ' M' H' S'=>q _ H' S'.same ((aO.scal rfl).mpr rfl)
  | bk _=>exact False.elim hi
  | ct _=>exact False.elim hi
end
def LS:T->String
 | .non => "NoneType"
 | .bl _ => "bool"
 | .int _ => "int"
 | .str _ => "str"
 | .lst _ => "list"
 | .tup _ => "tuple"
 | .exc _ => "NoneType"
 | .dct _ => "dict"
 | .own _ => "list"
def wD (c:String):T->Bool
 | .non=>c == "NoneType"
 | .bl _=>c == "bool" || c == "int"
 | .int _=>c == "int"
 | .str _=>c == "str"
 | .lst _=>c == "list"
 | .tup _=>c == "tuple"
 | .exc _=>c == "NoneType"
 | .dct _=>c == "dict"
 | .own _=>c == "list"
def DG (c:String):Prop:=(∀ (K:PySem.W.Frag) (t:T),PySem.W.kitOne K (.type (LS t)) (.type c)=some (wD c t))/\c∈(["int","bool","list","tuple","str"]:List String)
theorem VT:DG "list" := ⟨by intro K t;cases t<;>rfl,by simp⟩
section
variable {X:Cx}{B:Hp}{fl:List Nat}{e:Expr}{es:List Expr}{f:Rho->Option T}{fa:Rho->Option (List T)}{n n':Bool}{l l' k:Nat}{pos p' p2:Pos}{x:Str}{ps:List Str}{F:List T->Option T}
theorem VS {pins:List (Addr × Obj)}{σ:St}{H:Hp}{s:Shared}{A:Around}{E:Value->Shared->Prop}{Q:Value->Shared->Prop}{c:Value}{b:Bool}{Ad:Addr->Prop}{t:T}{v:V}{u:Value}(I:Inv X pins σ H s) (r:Rep X.K H Ad t v) (rx:aX v u)
  (e:PySem.W.kitOne X.K (.type (LS t)) c=some b) (hx:∀ nm C,t=.exc nm->eR X.K nm C->PySem.W.kitOne X.K (.ref C) c=some b) (h:∀ tk,Q (.bool b) { s with toks:=tk }):wpAny (model X.prog X.w) A (call (.builtin "isinstance") [u,c]) Q E s:=by
 cases t with
 | non=>cases (show _=_ from r);cases rx;exact aK2 PySem.W.kitx_none I.kIn True.intro e (fun z=>nomatch z) h
 | bl y=>cases (show _=_ from r);cases rx;exact aK2 PySem.W.kitx_bool I.kIn True.intro e (fun z=>nomatch z) h
 | int y=>cases (show _=_ from r);obtain⟨k,rfl⟩:=rx;exact aK2 PySem.W.kitx_int I.kIn True.intro e (fun z=>nomatch z) h
 | str y=>cases (show _=_ from r);obtain⟨k,rfl⟩:=rx;exact aK2 PySem.W.kitx_str I.kIn True.intro e (fun z=>nomatch z) h
 | lst ts=>
  obtain⟨a,xs,rfl,h1,h2⟩:=r.sqL;cases rx;obtain⟨its,_,⟨o,m,h3,h4,_,_⟩,_⟩:=I.list h1;exact aK2 PySem.W.kitx_list I.kIn ⟨o,h3,h4⟩ e (fun z=>nomatch z) h
 | own ts=>
  obtain⟨a,xs,rfl,_,h1,h2⟩:=r;cases rx;obtain⟨its,_,⟨o,m,h3,h4,_,_⟩,_⟩:=I.list (SqL.of h1);exact aK2 PySem.W.kitx_list I.kIn ⟨o,h3,h4⟩ e (fun z=>nomatch z) h
 | tup ts=>
  obtain⟨a,xs,rfl,h1,h2⟩:=r.sqT;cases rx;obtain⟨its,_,⟨o,h3,h4,_⟩,_⟩:=I.tuple h1;exact aK2 PySem.W.kitx_tuple I.kIn ⟨o,h3,h4⟩ e (fun z=>nomatch z) h
 | exc nm=>
  obtain⟨a,C,rfl,k,h1⟩:=r;cases rx;have ho:∃ oe,s.heap.get? a=some oe/\oe.cls=.ref C:=by
   rcases h1 with h1 | ⟨o,h1⟩
   ·obtain⟨⟨oe,vs,g1,g2,_⟩,_⟩:=I.hok a _ h1
    exact⟨oe,g1,g2⟩
   ·obtain⟨_,⟨oe,vs,g1,g2,_⟩,_⟩:=I.hok a _ h1
    exact⟨oe,g1,g2⟩
  exact aK2 (k.2.1 a) I.kIn ho (hx nm C rfl k) (fun z=>nomatch z) h
 | dct ks=>
  obtain⟨a,rfl,_,h1⟩:=r;cases rx;obtain⟨_,_,vs,_,ob,_,_,g1,g2,_⟩:=SK I.hok h1;exact aK2 PySem.W.kitx_dict I.kIn ⟨ob,g1,g2.1⟩ e (fun z=>nomatch z) h
def wP (c:String):T->Option T:=fun t=>some (.bl (wD c t))
theorem TV {x y:Str}{c:String}(hx:x = "isinstance") (hc:DG c) (hg:Gl X x) (hm:X.mg x=none) (hg':Gl X y) (hm':X.mg y=none) (hv:bootBuiltins y=some (.type c)) (he:GE X B fl e f n l)
  (hn:y ≠ "__name__" := by decide) (hd:(y == ("__debug__" : Str))=false:=by decide)
  (h1:starEach [e,.Name y p2] X.env=(false,eval e X.env)::starEach [.Name y p2] X.env:=by rfl) (h2:starEach [.Name y p2] X.env=[(false,eval (.Name y p2) X.env)]:=by rfl) (hpl:(backTo pos (starEach [.Name y p2] X.env)).any (·.1)=false:=by rfl):
  GE X B fl (.Call (.Name x p') [e,.Name y p2] [] pos) (f1 f (wP c)) true 3:=by
 subst hx;have cr:fI X (.builtin "isinstance") (fun xs H Q=>∃ v t A,xs=[v,.ty c]/\Rep X.K H A t v/\Q (.bl (wD c t)) H):=by
  intro pins s σ H xs us Q I r h;obtain⟨v,t,A,rfl,rt,q⟩:=h;obtain⟨u,w',rfl,r1,r2⟩:=yN r;cases r2;exact VS I rt r1 (hc.1 X.K t) (fun nm C e k=>by
   subst e;have:=k.2.2 c hc.2;rw[this];have hc2:=hc.2;simp only[aHm,List.not_mem_nil,or_false] at hc2;rcases hc2 with rfl | rfl | rfl | rfl | rfl<;>rfl) fun tk=>⟨.bl _,H,I.tok tk,rfl,q⟩
 refine bB (jZ cr hg hm PyProof.Rows.boot_isinstance (eB he (eB (IS (v:=.ty c) hg' hm' hv rfl hn hd) fW h2) h1) (by decide) (by decide) h1 hpl) ?_;rintro σ H Q ⟨Ex,ρ,M,t,S,hf,q⟩;obtain⟨u,hu,hf⟩:=bind_some hf;cases (aHa hf);exact⟨Ex,ρ,M,u,S,hu,fun v H1 s1 r1=>⟨v,u,_,rfl,r1.rep S,q _ H1 s1 ((aO.scal rfl).mpr rfl)⟩⟩
def wL:T->Option T
 | .int i=>some (.int (Builtin.Int.intBits i:Nat))
 | _=>none
theorem XR:MtR X "int.bit_length" (fun x xs H Q=>∃ i,x=.int i/\xs=[]/\Q (.int ((Builtin.Int.intBits i:Nat):Int)) H):=by
 intro pins s σ H x xs v us Q I rx rs h;obtain⟨i,rfl,rfl,q⟩:=h;obtain⟨t,rfl⟩:=rx;cases rs;exact call_int_bit_length ⟨.int _,H,I.tok _,⟨_,rfl⟩,q⟩
theorem FN {apos:Pos}(he:GE X B fl e f n l) (hbase:attributeBase e "bit_length" X.env (eval e X.env)=eval e X.env:=by rfl) (hline:(apos.endLine == pos.line)=true:=by rfl):
  GE X B fl (.Call (.Attribute e "bit_length" apos) [] [] pos) (f1 f wL) true 3:=by
 refine bB (aAu PySem.F.plainAttrs_int slot_int_bit_length type_int_bit_length XR he hbase hline) ?_;rintro σ H Q ⟨Ex,ρ,M,t,S,hf,q⟩;obtain⟨u,hu,hf⟩:=bind_some hf;have hi:∃ i,u=.int i:=by cases u<;>first | (cases hf;done) | exact⟨_,rfl⟩
 obtain⟨i,rfl⟩:=hi;cases (aHa hf);refine⟨Ex,ρ,M,_,S,hu,fun v H1 s1 r1=>?_⟩;cases (show v=V.int i from (aO.scal rfl).mp r1);exact⟨rfl,i,rfl,rfl,q _ H1 s1 ((aO.scal rfl).mpr rfl)⟩
theorem aA7:OpR X (binaryOp .FloorDiv) (rI (fun _ j=>0<j/\j<2^200) fun i j=>.int (i / j)):=opI fun i j _ _ _ _ _ hc q=>by
 refine floordiv_int (by omega) ?_ (.inl (PyProof.noPylong_of_log2 ?_))
 ·rw[Int.fdiv_eq_ediv_of_nonneg _ (by omega)]
  exact q
 ·have:j.natAbs.log2<200:=(Nat.log2_lt (by omega)).mpr (by omega)
  omega
end
section
variable {X:Cx}{B:Hp}{fl:List Nat}{a b:Expr}{f g:Rho->Option T}{n n':Bool}{l l':Nat}{pos:Pos}
theorem eG (ha:GE X B fl a f n l) (hb:GE X B fl b g n' l'):GE X B fl (.BinOp a .FloorDiv b pos) (f2 f g bK) true 3:=eY aA7 (pQ (fun _ _ k=>by simpa using k) (fun _ _=>rfl) fun _ _=>rfl) ha hb
end
def AM:Option NameKind->Bool
 | some .local=>true
 | _=>false
def HM:Option NameKind->Bool
 | some .cell=>true
 | some .free=>true
 | _=>false
def DZ (env:Env) (N N':List Str) (src:List (Option Nat)) (scope:Scope):Bool:=
 (match scope.kind with | .function=>true | _=>false) &&
 scope.names.all (fun y=>match y.2 with | .cell=>qI (scope.names.lookup y.1) | _=>true) &&
 scope.names.all (fun y=>match y.2 with | .local=>AM (scope.names.lookup y.1) | _=>true) &&
 scope.names.all (fun y=>match y.2 with | .free=>HM (env.kindOf y.1) | _=>true) &&
 (src.length == N'.length) &&
 (List.range src.length).all (fun j=>match src[j]? with | some (some i)=>(match N'[j]?,N[i]? with | some a,some b=>a == b && !AM (scope.names.lookup a) && !qI (scope.names.lookup a) | _,_=>false) | _=>true)
theorem eF {X:Cx}{scope:Scope}{N':List Str}{src:List (Option Nat)}(h:DZ X.env X.N N' src scope=true):BlkOk X scope N' src:=by
 unfold DZ at h;simp only[aHn] at h;obtain⟨⟨⟨⟨⟨h1,h2⟩,h3⟩,h4⟩,h5⟩,h6⟩:=h;refine⟨?_,fun y hy e=>?_,fun y hy e=>?_,fun y hy e=>?_,fun j i e=>?_,eq_of_beq h5⟩
 ·cases q:scope.kind<;>rw[q] at h1<;>first | rfl | cases h1
 ·have:=aHg.mp h2 y hy
  rw[e] at this;exact HN this
 ·have:=aHg.mp h3 y hy
  rw[e] at this;have this:AM (scope.names.lookup y.1)=true:=this;cases q:scope.names.lookup y.1 with
  | none=>rw[q] at this;cases this
  | some k=>rw[q] at this;cases k<;>first | rfl | cases this
 ·have:=aHg.mp h4 y hy
  rw[e] at this;have this:HM (X.env.kindOf y.1)=true:=this;cases q:X.env.kindOf y.1 with
  | none=>rw[q] at this;cases this
  | some k=>rw[q] at this;cases k<;>first | exact .inl rfl | exact .inr rfl | cases this
 ·have hj:j<src.length:=(aHf.mp e).1
  have:=aHg.mp h6 j (aHh.mpr hj);rw[e] at this;dsimp only at this;cases q:N'[j]? with
  | none=>rw[q] at this;cases this
  | some a=>
   cases q2:X.N[i]? with
   | none=>rw[q,q2] at this;cases this
   | some b=>
    rw[q,q2] at this;simp only[aHn] at this;have e1:=eq_of_beq this.1.1;subst e1;refine⟨a,rfl,rfl,fun z=>?_,fun z=>?_⟩
    ·have t2:=this.1.2
     rw[z] at t2;cases t2
    ·have t2:=this.2
     rw[z] at t2;cases t2
def sF:List Str->Bool
 | []=>true
 | x::r=>!(r.any (· == x))&&sF r
theorem fU:∀ {l:List Str},sF l=true->l.Nodup
 | [],_=>List.nodup_nil
 | x::r,h=>by
  unfold sF at h;simp only[aHn] at h;refine aJb.mpr ⟨fun hx=>?_,fU h.2⟩;have h1:=h.1;rw[Bool.not_eq_true',List.any_eq_false] at h1;exact h1 x hx (beq_self_eq_true x)
def EA (N N':List Str) (src:List (Option Nat)) (fl fl':List Nat) (li:Nat) (sc:Bool):Bool:=
 sF N'&&(match src with | none::_=>true | _=>false)&&decide (1<=fl'.getD 0 1)&&(sc||decide (fl'.getD 0 1<=li))&&(fl'.length == src.length)&&(src.length == N'.length) &&
 (List.range src.length).all (fun j=>match src[j]? with | some (some i)=>(match N'[j]?,N[i]? with | some a,some b=>a == b | _,_=>false)&&(fl'.getD j 1 == fl.getD i 1) | _=>true)&&(decide (lc fl'<=lc fl) || !fl'.contains 0)
theorem IA {fl fl':List Nat}(h:(decide (lc fl'<=lc fl) || !fl'.contains 0)=true):lc fl'<=lc fl\/∀ j,fl'.getD j 1≠0:=by
 rcases Bool.or_eq_true_iff.mp h with h | h
 ·exact .inl (of_decide_eq_true h)
 ·refine .inr fun j z=>?_
  rw[aHb] at z;cases q:fl'[j]? with
  | none=>rw[q] at z;cases z
  | some m=>
   rw[q] at z;have z:m=0:=z;have:fl'.contains 0=true:=aI9.mpr (List.mem_of_getElem? (z ▸ q));rw[this] at h;cases h
theorem gM {X:Cx}{N':List Str}{src:List (Option Nat)}{fl fl':List Nat}{li:Nat}{sc:Bool}(h:EA X.N N' src fl fl' li sc=true):FlOk X N' src fl fl' li sc:=by
 unfold EA at h;have h8:=IA (aHo.mp h).2;simp only[aHn,decide_eq_true_eq] at h;obtain⟨⟨⟨⟨⟨⟨⟨h1,h2⟩,h3⟩,h4⟩,h5⟩,h6⟩,h7⟩,_⟩:=h;have key:∀ j i,src[j]?=some (some i)->(∃ a,N'[j]?=some a/\X.N[i]?=some a)/\fl'.getD j 1=fl.getD i 1:=fun j i e=>by
  have hj:j<src.length:=(aHf.mp e).1;have:=aHg.mp h7 j (aHh.mpr hj);rw[e] at this;dsimp only at this;simp only[aHn] at this;refine⟨?_,eq_of_beq this.2⟩;have t1:=this.1;cases q:N'[j]? with
  | none=>rw[q] at t1;cases t1
  | some a=>
   cases q2:X.N[i]? with
   | none=>rw[q,q2] at t1;cases t1
   | some b=>
    rw[q,q2] at t1;exact⟨a,rfl,by rw[eq_of_beq t1]⟩
 refine⟨fU h1,?_,fun j i e=>(key j i e).2,h3,fun z=>by simpa [z] using h4,fun j i e=>?_,eq_of_beq h5,h8⟩
 ·cases src with
  | nil=>cases h2
  | cons o r=>cases o<;>first | rfl | cases h2
 ·obtain⟨⟨a,e1,e2⟩,_⟩:=key j i e
  refine⟨e1.trans e2.symm,?_⟩;exact (aHf.mp e1).1
@[simp] theorem jn {α:Type} (x:Option α):(some x).join=x:=by cases x<;>rfl
@[simp] theorem fVar_at (i:Nat) (ρ:Rho):aA i ρ=(ρ[i]?).join:=id rfl
@[simp] theorem fC_at (t:T) (ρ:Rho):fC t ρ=some t:=id rfl
@[simp] theorem f1_at (f:Rho->Option T) (F:T->Option T) (ρ:Rho):f1 f F ρ=(f ρ).bind F:=id rfl
@[simp] theorem f2_at (f g:Rho->Option T) (F:T->T->Option T) (ρ:Rho):f2 f g F ρ=(f ρ).bind fun x=>(g ρ).bind fun y=>F x y:=id rfl
@[simp] theorem aNil_at (ρ:Rho):aF ρ=some []:=id rfl
@[simp] theorem aCons_at (f:Rho->Option T) (g:Rho->Option (List T)) (ρ:Rho):aC f g ρ=(f ρ).bind fun x=>(g ρ).bind fun y=>some (x::y):=id rfl
@[simp] theorem fCall_at (fa:Rho->Option (List T)) (F:List T->Option T) (ρ:Rho):aJ fa F ρ=(fa ρ).bind F:=id rfl
@[simp] theorem fB_at (f:Rho->Option T) (ρ:Rho):fB f ρ=(f ρ).bind isB:=id rfl
@[simp] theorem fT_at (f:Rho->Option T) (ρ:Rho):fT f ρ=(f ρ).bind vD:=id rfl
@[simp] theorem fL_at (f:Rho->Option T) (ρ:Rho):fL f ρ=(f ρ).bind isL:=id rfl
@[simp] theorem fFL_at (f:Rho->Option T) (ρ:Rho):fFL f ρ=(f ρ).bind jB:=id rfl
@[simp] theorem pNot_at (p:Rho->Option Bool) (ρ:Rho):jI p ρ=(p ρ).map (!·):=id rfl
@[simp] theorem pAnd_at (p q:Rho->Option Bool) (ρ:Rho):sN p q ρ=(p ρ).bind fun b=>if b then q ρ else some false:=id rfl
@[simp] theorem pYes_at (ρ:Rho):bJ ρ=some true:=id rfl
@[simp] theorem vNot_at (f:Rho->Option T) (ρ:Rho):yM f ρ=((f ρ).bind isB).map fun b=>.bl (!b):=id rfl
@[simp] theorem vAnd_at (f g:Rho->Option T) (ρ:Rho):vE f g ρ=((f ρ).bind isB).bind fun b=>if b then g ρ else some (.bl false):=id rfl
@[simp] theorem vOr_at (f g:Rho->Option T) (ρ:Rho):vOr f g ρ=((f ρ).bind isB).bind fun b=>if b then some (.bl true) else g ρ:=id rfl
@[simp] theorem fIf_at (p:Rho->Option Bool) (f g:Rho->Option T) (ρ:Rho):fIf p f g ρ=(p ρ).bind fun b=>if b then f ρ else g ρ:=id rfl
@[simp] theorem fLst_at (fa:Rho->Option (List T)) (ρ:Rho):dQ fa ρ=(fa ρ).bind fun ts=>if ts.length<=cap then some (.lst ts) else none:=id rfl
@[simp] theorem fTup_at (fa:Rho->Option (List T)) (ρ:Rho):eV fa ρ=(fa ρ).bind fun ts=>if ts.length<=cap then some (.tup ts) else none:=id rfl
@[simp] theorem fRange_at (fa:Rho->Option (List T)) (o:List T->Option (List T)) (ρ:Rho):cU fa o ρ=(fa ρ).bind o:=id rfl
@[simp] theorem fComp_at (fi:Rho->Option (List T)) (src:List (Option Nat)) (p:Rho->Option Bool) (f:Rho->Option T) (ρ:Rho):dH fi src p f ρ =
 (fi ρ).bind fun ts=>(bQ p f (bV src ρ) ts).bind fun us=>if us.length<=cap then some (.lst us) else none:=id rfl
@[simp] theorem oNone_at (ρ:Rho):wT ρ=some none:=id rfl
@[simp] theorem oSome_at (f:Rho->Option T) (ρ:Rho):wW f ρ=((f ρ).bind isI).map some:=id rfl
@[simp] theorem fSlice_at (f:Rho->Option T) (lo hi st:Rho->Option (Option Int)) (ρ:Rho):zQ f lo hi st ρ=(f ρ).bind fun x=>(lo ρ).bind fun a=>(hi ρ).bind fun b=>(st ρ).bind fun c=>
 match x with
 | .lst ts=>if c=some 0 then none else some (.lst (cZ ts a b c))
 | _=>none:=id rfl
@[simp] theorem rNext_at (ρ:Rho):bO ρ=some (.nx ρ):=id rfl
@[simp] theorem rSeq_at (r1 r2:Rho->Option Out) (ρ:Rho):aH r1 r2 ρ=(r1 ρ).bind fun o=>match o with | .nx ρ'=>r2 ρ' | o=>some o:=id rfl
@[simp] theorem rSet_at (i:Nat) (f:Rho->Option T) (ρ:Rho):aN i f ρ=(f ρ).map fun t=>.nx (ρ.set i (some t)):=id rfl
@[simp] theorem rSetM_at (i:Nat) (f:Rho->Option T) (ρ:Rho):dX i f ρ=(f ρ).bind fun t=>if okM t then some (.nx (ρ.set i (some t))) else none:=id rfl
@[simp] theorem okM_lst (ts:List T):okM (.lst ts)=true:=rfl
@[simp] theorem okM_non:okM .non=true:=rfl
@[simp] theorem rIf_at (p:Rho->Option Bool) (r1 r2:Rho->Option Out) (ρ:Rho):rIf p r1 r2 ρ=(p ρ).bind fun b=>if b then r1 ρ else r2 ρ:=id rfl
@[simp] theorem rRet_at (f:Rho->Option T) (ρ:Rho):aZ f ρ=(f ρ).map .rt:=id rfl
@[simp] theorem rApp_at (i:Nat) (f:Rho->Option T) (ρ:Rho):BM i f ρ=(aA i ρ).bind fun t=>(f ρ).bind fun x=>match t with | .lst ts=>if ts.length<cap then some (.nx (ρ.set i (some (.lst (ts++[x]))))) else none | _=>none:=id rfl
@[simp] theorem rPut_at (i:Nat) (fi f:Rho->Option T) (ρ:Rho):eC i fi f ρ=(f ρ).bind fun x=>(aA i ρ).bind fun t=>(fi ρ).bind fun k=>match t,k with | .lst ts,.int j=>(ixN ts.length j).map fun j'=>.nx (ρ.set i (some (.lst (ts.set j' x)))) | _,_=>none:=id rfl
@[simp] theorem rFor_at (j:Nat) (fi:Rho->Option (List T)) (body:Rho->Option Out) (ρ:Rho):cW j fi body ρ=(fi ρ).bind fun ts=>bR j body ts ρ:=id rfl
@[simp] theorem oI_int (C:Int->Int->Bool) (h:Int->Int->T) (i j:Int):oI C h (.int i) (.int j)=if C i j then some (h i j) else none:=id rfl
@[simp] theorem oAdd_int (i j:Int):bS (.int i) (.int j)=some (.int (i+j)):=id rfl
@[simp] theorem oSub_int (i j:Int):cR (.int i) (.int j)=some (.int (i-j)):=id rfl
theorem qO {i j:Int}(h:fG i j=true):bN (.int i) (.int j)=some (.int (i*j)):=by simp[bN,h]
theorem fV {i j:Int}(h:0<j) (h2:j<2^200):bK (.int i) (.int j)=some (.int (i / j)):=by simp only[bK,oI_int];rw[if_pos (by simp[h];exact h2)]
theorem cK {i j:Int}(h:0<j):aS (.int i) (.int j)=some (.int (i%j)):=by simp[aS,h]
theorem YN {i j:Int}(h:0<=j):jY (.int i) (.int j)=some (.int (i / 2^j.toNat)):=by simp[jY,h]
theorem YL {i j:Int}(h:0<=j) (h2:j<=1000000) (h3:i.natAbs<2^64):dF (.int i) (.int j)=some (.int (i*2^j.toNat)):=by simp only[dF,oI_int];rw[if_pos (by simp[h,h2];exact h3)]
@[simp] theorem oAnd_int (i j:Int):gQ (.int i) (.int j)=some (.int (Builtin.bitAnd i j)):=id rfl
@[simp] theorem oOr_int (i j:Int):oOr (.int i) (.int j)=some (.int (Builtin.bitOr i j)):=id rfl
@[simp] theorem oXor_int (i j:Int):BB (.int i) (.int j)=some (.int (Builtin.bitXor i j)):=id rfl
@[simp] theorem oLt_int (i j:Int):oLt (.int i) (.int j)=some (.bl (decide (i<j))):=id rfl
@[simp] theorem oLe_int (i j:Int):oLe (.int i) (.int j)=some (.bl (decide (i<=j))):=id rfl
@[simp] theorem oGt_int (i j:Int):oGt (.int i) (.int j)=some (.bl (decide (j<i))):=id rfl
@[simp] theorem oGe_int (i j:Int):oGe (.int i) (.int j)=some (.bl (decide (j<=i))):=id rfl
@[simp] theorem isB_bl (b:Bool):isB (.bl b)=some b:=id rfl
@[simp] theorem truT_bl (b:Bool):vD (.bl b)=some b:=id rfl
@[simp] theorem truT_int (i:Int):vD (.int i)=some (i != 0):=id rfl
@[simp] theorem isL_lst (ts:List T):isL (.lst ts)=some ts:=id rfl
@[simp] theorem isI_int (i:Int):isI (.int i)=some i:=id rfl
@[simp] theorem gScal_int (i:Int):aW (.int i)=some (.int i):=id rfl
@[simp] theorem gScal_bl (i:Bool):aW (.bl i)=some (.bl i):=id rfl
@[simp] theorem oLen_lst (ts:List T):dE [.lst ts]=some (.int ts.length):=id rfl
@[simp] theorem oList_lst (ts:List T):sH [.lst ts]=some (.lst ts):=id rfl
@[simp] theorem oIx_lst (ts:List T) (i:Int):oIx (.lst ts) (.int i)=atI ts i:=id rfl
@[simp] theorem oInst_at (c:String) (t:T):wP c t=some (.bl (wD c t)):=id rfl
@[simp] theorem oBits_int (i:Int):wL (.int i)=some (.int (Builtin.Int.intBits i:Nat)):=id rfl
theorem YE {xs ys:List T}(h:xs.length+ys.length<=cap):sG (.lst xs) (.lst ys)=some (.lst (xs++ys)):=by simp[sG,h]
def tI (ns:List Int):List T:=ns.map T.int
@[simp] theorem tI_length (ns:List Int):(tI ns).length=ns.length:=by simp[tI]
@[simp] theorem tI_nil:tI []=[]:=rfl
@[simp] theorem tI_cons (n:Int) (ns:List Int):tI (n::ns)=.int n::tI ns:=rfl
theorem aDo (ns ms:List Int):tI (ns++ms)=tI ns++tI ms:=by simp[tI]
theorem zR:∀ ns:List Int,cH (tI ns)=true
 | []=>rfl
 | n::ns=>by simp[cH,tI,im]
theorem EL:∀ ns:List Int,depL (tI ns)=0
 | []=>rfl
 | n::ns=>by
  have:=EL ns;show max (dep (.int n)) (depL (tI ns))=0;rw[this];rfl
@[simp] theorem oEq_int (i j:Int):oEq (.int i) (.int j)=some (.bl (i == j)):=rfl
@[simp] theorem oNe_int (i j:Int):oNe (.int i) (.int j)=some (.bl (!(i == j))):=rfl
theorem eI (ns:List Int):jB (.lst (tI ns))=some (tI ns):=by simp[jB,zR]
theorem TB (ns:List Int):pY (.lst (tI ns))=some (.lst (tI ns)):=by simp[pY,zR]
theorem aD5 (ns:List Int) (a b c:Option Int):cZ (tI ns) a b c=tI (cZ ns a b c):=by
 unfold cZ tI;rw[aIr,List.map_filterMap]
 congr 1
 funext i
 simp
theorem OX {α β:Type}(f:α->β) (xs:List α) (i:Int):atI (xs.map f) i=(atI xs i).map f:=by
 unfold atI;rw[aIr];cases ixN xs.length i with
 | none=>rfl
 | some j=>simp
theorem PC (ns:List Int) (i:Int):atI (tI ns) i=(atI ns i).map T.int:=OX _ _ _
theorem PB {α:Type}{xs:List α}{i:Nat}(h:i<xs.length):atI xs (i:Int)=some xs[i]:=OY (aHc h)
theorem OZ {α:Type}{xs:List α}{i:Int}(h0:0<=i) (h:i<xs.length):atI xs i=some (xs[i.toNat]'(by lia)):=by
 have e:((i.toNat:Nat):Int)=i:=by lia
 have:=PB (xs:=xs) (i:=i.toNat) (by lia);rw[e] at this;exact this
theorem EF {p:Rho->Option Bool}{f:Rho->Option T}{ρ:Rho}(c:T->Bool) (h:T->T):∀ ts:List T,(∀ t∈ts,p (ρ.set 0 (some t))=some (c t))->(∀ t∈ts,c t=true->f (ρ.set 0 (some t))=some (h t))->bQ p f ρ ts=some ((ts.filter c).map h)
 | [],_,_=>rfl
 | t::ts,h1,h2=>by
  have ih:=EF (p:=p) (f:=f) (ρ:=ρ) c h ts (fun u hu=>h1 u (aHd _ hu)) (fun u hu=>h2 u (aHd _ hu));unfold bQ;rw[h1 t aHe];cases hc:c t with
  | true=>
   have:=h2 t aHe hc;simp[this,ih,hc]
  | false=>simp[ih,hc]
theorem EG {f:Rho->Option T}{ρ:Rho}(h:T->T) (ts:List T) (h2:∀ t∈ts,f (ρ.set 0 (some t))=some (h t)):bQ bJ f ρ ts=some (ts.map h):=by
 rw[EF (fun _=>true) h ts (fun _ _=>rfl) (fun t ht _=>h2 t ht)]
 congr 2
 exact List.filter_eq_self.mpr fun _ _=>rfl
theorem AT {lo:Int}{n:Nat}{t:T}(h:t∈rangeT lo n):∃ i:Nat,i<n/\t=.int (lo+i):=by
 unfold rangeT at h;obtain⟨i,hi,rfl⟩:=aJ7.mp h;exact⟨i,aHh.mp hi,rfl⟩
theorem QR {f:Rho->Option T}{ρ:Rho}{lo:Int}{n:Nat}(h:Nat->T) (h2:∀ i,i<n->f (ρ.set 0 (some (.int (lo+i))))=some (h i)):bQ bJ f ρ (rangeT lo n)=some ((List.range n).map h):=by
 have key:∀ is:List Nat,(∀ i∈is,i<n)->bQ bJ f ρ (is.map fun (i:Nat)=>T.int (lo+(i:Int)))=some (is.map h):=by
  intro is
  induction is with
  | nil=>intro _;rfl
  | cons i r ih=>
   intro hi;have e:=h2 i (hi i aHe);have ih':=ih fun j hj=>hi j (aHd _ hj);rw[aIy];unfold bQ;simp[e,ih']
 exact key (List.range n) fun i hi=>aHh.mp hi
theorem gR (n:Nat) (h:n<2^62):dM [.int (n:Int)]=some (rangeT 0 n):=by
 unfold dM;dsimp only;rw[if_pos (by lia)];simp
theorem FF {j:Nat}{body:Rho->Option Out}{ρ:Rho}{r:T}(c:T->Bool):∀ ts:List T,(∀ t∈ts,body (ρ.set j (some t))=if c t then some (.nx (ρ.set j (some t))) else some (.rt r)) ->
  ∀ ρ1,(∀ t,ρ1.set j (some t)=ρ.set j (some t))->∃ ρ',bR j body ts ρ1=(if ts.all c then some (.nx ρ') else some (.rt r))/\∀ t,ρ'.set j (some t)=ρ.set j (some t)
 | [],_,ρ1,h1=>⟨ρ1,by simp[bR],h1⟩
 | t::ts,h,ρ1,h1=>by
  unfold bR;rw[h1 t,h t aHe];cases hc:c t with
  | true=>
   obtain⟨ρ',e,q⟩:=FF c ts (fun u hu=>h u (aHd _ hu)) (ρ.set j (some t)) (fun u=>by simp);exact⟨ρ',by simpa [hc] using e,q⟩
  | false=>exact⟨ρ1,by simp[hc],h1⟩
theorem vT {j:Nat}{body:Rho->Option Out}(I:Nat->Rho->Prop) (ts:List T) (h:∀ i (hi:i<ts.length) ρ,I i ρ->∃ ρ',(body (ρ.set j (some ts[i]))=some (.nx ρ')\/body (ρ.set j (some ts[i]))=some (.ct ρ'))/\I (i+1) ρ'):
  ∀ ρ,I 0 ρ->∃ ρ',bR j body ts ρ=some (.nx ρ')/\I ts.length ρ':=by
 have key:∀ (us:List T) (k:Nat),us=ts.drop k->k<=ts.length->∀ ρ,I k ρ->∃ ρ',bR j body us ρ=some (.nx ρ')/\I ts.length ρ':=by
  intro us
  induction us with
  | nil=>
   intro k e hk ρ hI;have:ts.length<=k:=by
    have:=congrArg List.length e;simp at this;lia
   have e2:k=ts.length:=by lia
   subst e2;exact⟨ρ,rfl,hI⟩
  | cons u r ih=>
   intro k e hk ρ hI;have hk':k<ts.length:=by
    have:=congrArg List.length e;simp at this;lia
   rw[List.drop_eq_getElem_cons hk'] at e;cases e;obtain⟨ρ',hb,hI'⟩:=h k hk' ρ hI;obtain⟨ρ2,h2,hI2⟩:=ih (k+1) rfl hk' ρ' hI';refine⟨ρ2,?_,hI2⟩;unfold bR;rcases hb with hb | hb<;>rw[hb]<;>exact h2
 exact fun ρ hI=>key ts 0 (by simp) (aJx _) ρ hI
mutual
def bU:T->T->Bool
 | .non,.non=>true
 | .bl a,.bl b=>a == b
 | .int a,.int b=>a == b
 | .str a,.str b=>decide (a=b)
 | .lst xs,.lst ys=>sameL xs ys
 | .tup xs,.tup ys=>sameL xs ys
 | .exc a,.exc b=>decide (a=b)
 | .dct a,.dct b=>decide (a=b)
 | _,_=>false
def sameL:List T->List T->Bool
 | [],[]=>true
 | x::xs,y::ys=>bU x y&&sameL xs ys
 | _,_=>false
end
mutual
theorem KJ:∀ (t u:T),bU t u=true->t=u
 | .non,u,h=>by cases u<;>simp[bU] at h ⊢
 | .bl a,u,h=>by cases u<;>simp[bU] at h ⊢;exact h
 | .int a,u,h=>by cases u<;>simp[bU] at h ⊢;exact h
 | .str a,u,h=>by cases u<;>simp[bU] at h ⊢;exact h
 | .exc a,u,h=>by cases u<;>simp[bU] at h ⊢;exact h
 | .dct a,u,h=>by cases u<;>simp[bU] at h ⊢;exact h
 | .own a,u,h=>by cases u<;>simp[bU] at h
 | .lst xs,.lst ys,h=>by rw[bU] at h;rw[sameL_eq xs ys h]
 | .tup xs,.tup ys,h=>by rw[bU] at h;rw[sameL_eq xs ys h]
 | .lst xs,.non,h=>by simp[bU] at h
 | .lst xs,.bl _,h=>by simp[bU] at h
 | .lst xs,.int _,h=>by simp[bU] at h
 | .lst xs,.str _,h=>by simp[bU] at h
 | .lst xs,.tup _,h=>by simp[bU] at h
 | .lst xs,.exc _,h=>by simp[bU] at h
 | .lst xs,.dct _,h=>by simp[bU] at h
 | .lst xs,.own _,h=>by simp[bU] at h
 | .tup xs,.non,h=>by simp[bU] at h
 | .tup xs,.bl _,h=>by simp[bU] at h
 | .tup xs,.int _,h=>by simp[bU] at h
 | .tup xs,.str _,h=>by simp[bU] at h
 | .tup xs,.lst _,h=>by simp[bU] at h
 | .tup xs,.exc _,h=>by simp[bU] at h
 | .tup xs,.dct _,h=>by simp[bU] at h
 | .tup xs,.own _,h=>by simp[bU] at h
theorem sameL_eq:∀ (xs ys:List T),sameL xs ys=true->xs=ys
 | [],[],_=>rfl
 | [],_::_,h=>by simp[sameL] at h
 | _::_,[],h=>by simp[sameL] at h
 | x::xs,y::ys,h=>by
  rw[sameL,aHn] at h;rw[KJ x y h.1,sameL_eq xs ys h.2]
end
def yE:Option T->Option T->Bool
 | some t,some u=>bU t u
 | none,none=>true
 | _,_=>false
theorem CC {a b:Option T}(h:yE a b=true):a=b:=by
 cases a<;>cases b<;>first | rfl | cases h | skip
 rw[KJ _ _ h]
theorem below {P:Int->Prop}(n:Nat) (f:Nat->Bool) (h:(List.range n).all f=true) (hP:∀ k:Nat,f k=true->P k) {g:Int}(h0:0<=g) (h1:g<n):P g:=by
 have:=aHg.mp h g.toNat (aHh.mpr (by lia));have:=hP _ this
 rwa [Int.toNat_of_nonneg h0] at this
def dP:List T->Option (List Int)
 | []=>some []
 | .int i::r=>(dP r).map (i :: ·)
 | _=>none
theorem rF:∀ ns:List Int,dP (tI ns)=some ns
 | []=>rfl
 | n::ns=>by
  show (dP (tI ns)).map (n :: ·)=_;rw[rF ns];rfl
theorem rE:∀ {ts:List T}{ns:List Int},dP ts=some ns->ts=tI ns
 | [],ns,h=>by cases (aHa h);rfl
 | .int i::r,ns,h=>by
  cases e:dP r with
  | none=>rw[dP,e] at h;cases h
  | some ms=>
   rw[dP,e] at h;cases (aHa h);rw[rE e];rfl
 | .non::_,_,h=>by cases h
 | .bl _::_,_,h=>by cases h
 | .str _::_,_,h=>by cases h
 | .lst _::_,_,h=>by cases h
 | .tup _::_,_,h=>by cases h
 | .exc _::_,_,h=>by cases h
 | .dct _::_,_,h=>by cases h
 | .own _::_,_,h=>by cases h
theorem BR (n:Nat):rangeT 0 n=(List.range n).map fun (i:Nat)=>T.int (i:Int):=by
 unfold rangeT;simp
theorem sS {K:PySem.W.Frag}{H:Hp}{A:Addr->Prop}:∀ {ns:List Int}{xs:List V},RepL K H A (tI ns) xs->xs=ns.map V.int
 | [],_,h=>h
 | n::ns,_,h=>by
  obtain⟨x,r,e,h1,h2⟩:=h;rw[e,sS h2,(show x=.int n from h1)];rfl
def tB (bs:List Bool):List T:=bs.map T.bl
theorem BV {K:PySem.W.Frag}{H:Hp}{A:Addr->Prop}:∀ {ns:List Bool}{xs:List V},RepL K H A (G.tB ns) xs->xs=ns.map V.bl
 | [],_,h=>h
 | n::ns,_,h=>by
  obtain⟨x,r,e,h1,h2⟩:=h;rw[e,BV h2,(show x=.bl n from h1)];rfl
def gH:List T->Option (List Bool)
 | []=>some []
 | .bl i::r=>(gH r).map (i :: ·)
 | _=>none
theorem yW:∀ {ts:List T}{ns:List Bool},gH ts=some ns->ts=G.tB ns
 | [],ns,h=>by cases (aHa h);rfl
 | .bl i::r,ns,h=>by
  cases e:gH r with
  | none=>rw[gH,e] at h;cases h
  | some ms=>
   rw[gH,e] at h;cases (aHa h);rw[yW e];rfl
 | .non::_,_,h=>by cases h
 | .int _::_,_,h=>by cases h
 | .str _::_,_,h=>by cases h
 | .lst _::_,_,h=>by cases h
 | .tup _::_,_,h=>by cases h
 | .exc _::_,_,h=>by cases h
 | .dct _::_,_,h=>by cases h
 | .own _::_,_,h=>by cases h
theorem JC (ns:List Int):∀ j,j<=ns.length->preSum (fun i=>ns.getD i 0) j=(ns.take j).sum
 | 0,_=>by simp[preSum]
 | j+1,h=>by
  rw[preSum,JC ns j (by lia),List.take_succ,List.sum_append];simp[aHb,show j<ns.length by lia]
section
variable {X:Cx}{B:Hp}{fl:List Nat}{e:Expr}{es:List Expr}{f:Rho->Option T}{fa:Rho->Option (List T)}{n n':Bool}{l l' k:Nat}{pos p' p2:Pos}{x:Str}{ps:List Str}{F:List T->Option T}
theorem HJ {pins:List (Addr × Obj)}{σ:St}{H:Hp}{s s':Shared}(I:Inv X pins σ H s) (o:Obj) (m:Moved [s.heap.objs.size] (fun a b=>b=a) { s with heap:=s.heap.push o } s'):Inv X pins σ H s':=by
 have I2:Inv X pins σ H { s with heap:=s.heap.push o }:=I.kept (t':=s.toks) fun b ob q=>aHl _ q;obtain⟨h',g',d',t',o'⟩:=s';obtain⟨m1,m2,m3,m4,m5⟩:=m;cases (show g'=s.gens from m2);cases (show d'=s.drawn from m3);cases (show o'=s.os from m4);have fp:=I.fpOk (aJf s.heap.objs.size) (I.hok.fresh (aJf _));exact L2.Inv.turned (s:={ s with heap:=s.heap.push o }) (h':=h') (t':=t') (it:=s.heap.objs.size) I2 (fun b ob hb q=>m1 b ob (by simpa using hb) q) fp.1 fp.2.1 fp.2.2.2.1 fp.2.2.2.2.1 fp.2.2.2.2.2
theorem PX (hc:X.calm=true):fI X (.builtin "sum") (fun xs H Q=>∃ (a:Addr) (ns:List Int),xs=[.ref a]/\SqL X.K H a (ns.map V.int)/\Q (.int ns.sum) H):=by
 intro pins s σ H xs us Q I r h;obtain⟨a,ns,rfl,hS,q⟩:=h;obtain⟨u,rfl,ru⟩:=vF r;cases ru;obtain⟨its,rv,p,hz⟩:=I.list hS;have hl:=rv.length;have ha:a<s.heap.objs.size:=by obtain⟨o,n,e,_⟩:=p;exact aHv e
 refine call_sum_walkAnyS (wpAny_pyIter_list p.isList ?_);refine⟨s.heap.objs.size,[s.heap.objs.size,a],[s.heap.objs.size],_,its.toArray.size,_,_,fun i=>ns.getD i 0,rfl,(Walks.list (A:=X.A.in1) (I.ok.hd hc) s.heap.objs.size a (aJo ha) its.toArray).toS,⟨⟨_,aHu _ rfl,rfl,rfl⟩,p.isList.push _⟩,fun b hb=>?_,fun i v hv=>?_,fun s' t' mv=>?_⟩
 ·simp only[aHm,List.mem_nil_iff,or_false] at hb
  rw[aHw];rcases hb with rfl | rfl
  ·exact aJk _
  ·exact Nat.lt_succ_of_lt ha
 ·have hv':its[i]?=some v:=by simpa using hv
  have hi:i<its.length:=(aHf.mp hv').1;have hin:i<ns.length:=by rw[aIr] at hl;lia
  have e1:(ns.map V.int)[i]?=some (V.int (ns.getD i 0)):=by
   rw[aIl,aHc hin];simp[aHb,hin]
  obtain⟨u,e2,ru⟩:=rv.get e1;rw[hv'] at e2;cases (aHa e2);exact ru
 ·have es:its.toArray.size=ns.length:=by simp only[aHj];rw[<- hl];simp
  rw[es,JC ns ns.length (aJf _),List.take_length];exact⟨.int ns.sum,H,HJ I _ mv,⟨_,rfl⟩,q⟩
def wX:List T->Option T
 | [.lst ts]=>(dP ts).map fun ns=>.int ns.sum
 | _=>none
theorem UG (hx:x = "sum") (hc:X.calm=true) (hg:Gl X x) (hm:X.mg x=none) (ha:GA X B fl (e::es) fa l)
  (he:starEach (e::es) X.env=(false,eval e X.env)::starEach es X.env:=by rfl) (hpl:(backTo pos (starEach es X.env)).any (·.1)=false:=by rfl):GE X B fl (.Call (.Name x p') (e::es) [] pos) (aJ fa wX) true 3:=by
 subst hx;refine bB (jZ (PX hc) hg hm PyProof.Rows.boot_sum ha (by decide) (by decide) he hpl) ?_;rintro σ H Q ⟨Ex,ρ,M,t,S,hf,q⟩;obtain⟨ts,hts,hf⟩:=bind_some hf;refine⟨Ex,ρ,M,ts,S,hts,fun vs H1 s1 r1=>?_⟩
 match ts,hf with
 | [.lst us],hf=>
  have hf:(dP us).map (fun ns=>T.int ns.sum)=some t:=hf;cases ea:dP us with
  | none=>rw[ea] at hf;cases hf
  | some ns=>
   rw[ea] at hf;cases (aHa hf);cases rE ea;obtain⟨y,rfl,ry⟩:=eM r1;obtain⟨p,xs,rfl,h1,h2⟩:=ry.sqL;cases sS h2;exact⟨p,ns,rfl,h1,q _ H1 s1 ((aO.scal rfl).mpr rfl)⟩
def AY:List T->Option T
 | [.int i,.int j]=>some (.int (if j<i then j else i))
 | _=>none
theorem TZ (hx:x = "min") (hc:X.calm=true) (hg:Gl X x) (hm:X.mg x=none) (ha:GA X B fl (e::es) fa l)
  (he:starEach (e::es) X.env=(false,eval e X.env)::starEach es X.env:=by rfl) (hpl:(backTo pos (starEach es X.env)).any (·.1)=false:=by rfl):GE X B fl (.Call (.Name x p') (e::es) [] pos) (aJ fa AY) true 3:=by
 subst hx;refine bB (jZ (PU hc) hg hm PyProof.Rows.boot_min ha (by decide) (by decide) he hpl) ?_;rintro σ H Q ⟨Ex,ρ,M,t,S,hf,q⟩;obtain⟨ts,hts,hf⟩:=bind_some hf;refine⟨Ex,ρ,M,ts,S,hts,fun vs H1 s1 r1=>?_⟩
 match ts,hf with
 | [.int i,.int j],hf=>
  cases (aHa hf);obtain⟨y,r,e,ry,h2⟩:=r1;obtain⟨y2,rfl,ry2⟩:=eM h2;subst e;cases (show _=_ from ry);cases (show _=_ from ry2);exact⟨i,j,rfl,q _ H1 s1 ((aO.scal rfl).mpr rfl)⟩
end
theorem YO (ns:List Int):wX [.lst (tI ns)]=some (.int ns.sum):=by simp[wX,rF]
def bF:Out->Option T
 | .rt t=>some t
 | .nx _=>some .non
 | _=>none
def Fof (np k:Nat) (run:Rho->Option Out) (ts:List T):Option T:=if ts.length=np then (run (ts.map some++List.replicate k none)).bind bF else none
theorem bH {np k:Nat}{run:Rho->Option Out}{ts:List T}{t:T}(h:Fof np k run ts=some t):ts.length=np:=by
 unfold Fof at h;split at h
 ·assumption
 ·cases h
theorem bI {np k:Nat}{run:Rho->Option Out}{ts:List T}{t:T}(h:Fof np k run ts=some t):∃ o,run (ts.map some++List.replicate k none)=some o/\pT o t:=by
 unfold Fof at h;split at h
 ·obtain⟨o,e,h⟩:=bind_some h
  refine⟨o,e,?_⟩;cases o with
  | rt u=>exact aHa h
  | nx _=>exact (aHa h).symm
  | bk _=>cases h
  | ct _=>cases h
 ·cases h
@[simp] theorem outT_rt (t:T):bF (.rt t)=some t:=rfl
@[simp] theorem outT_nx (ρ:Rho):bF (.nx ρ)=some .non:=rfl
def BO:Rho->Option Out:=fun _=>none
@[simp] theorem rNone_at (ρ:Rho):BO ρ=none:=rfl
theorem UT {X:Cx}{B:Hp}{fl:List Nat}{n:Bool}{l:Nat}{st:Stmt}:GS X B fl n l st BO:=fun pins s σ H D I h=>by
 obtain⟨_,_,_,_,_,h,_⟩:=h;cases h
def tGR (K:PySem.W.Frag) (B:Hp) (fl:List Nat) (f:Rho->Option T) (n:Bool) (l:Nat):TE:=fun σ H Q=>
 ∃ Ex ρ M t,Sl K B fl Ex σ ρ M H/\f ρ=some t/\∀ v H',aP H H'->RtX K B H' n l t v->Q v H'
def GR (X:Cx) (B:Hp) (fl:List Nat) (e:Expr) (f:Rho->Option T) (n:Bool) (l:Nat):Prop:=PE X e (tGR X.K B fl f n l)
def aDn (K:PySem.W.Frag) (B:Hp) (fl:List Nat) (f:Rho->Option (List T)) (l:Nat):TA:=fun σ H Q=>
 ∃ Ex ρ M ts,Sl K B fl Ex σ ρ M H/\f ρ=some ts/\∀ vs H',aP H H'->RepL K H' (Ad B B [] l) ts vs->Q vs H'
def GRA (X:Cx) (B:Hp) (fl:List Nat) (es:List Expr) (f:Rho->Option (List T)) (l:Nat):Prop:=PA X es (aDn X.K B fl f l)
def gL (i:Nat):Rho->Option T:=fun ρ=>(aA i ρ).bind fun t=>match t with | .lst ts=>if cH ts then some (.lst ts) else none | _=>none
@[simp] theorem fMut_at (i:Nat) (ρ:Rho):gL i ρ=(aA i ρ).bind fun t=>match t with | .lst ts=>if cH ts then some (.lst ts) else none | _=>none:=rfl
section
variable {X:Cx}{B:Hp}{fl:List Nat}{a b c e:Expr}{es:List Expr}{f g:Rho->Option T}{fa:Rho->Option (List T)}{p:Rho->Option Bool}{n n':Bool}{l l':Nat}{pos pos':Pos}{x:Str}
theorem bC (he:GE X B fl e f n' l') (h:((!n||n')&&(decide (l=0)||decide (2<=l'))&&decide (l≠4))=true):GR X B fl e f n l:=by
 refine bB he ?_;rintro σ H Q ⟨Ex,ρ,M,t,S,e1,q⟩;rw[aHn] at h;refine⟨Ex,ρ,M,t,S,e1,fun v H1 s1 rx=>q v H1 s1 ((RtX.of (of_decide_eq_true h.2)).mpr (aCg S ?_ rx))⟩;have h:=h.1;cases n<;>cases n'<;>simp at h ⊢<;>exact h
theorem mQ (i:Nat) (hN:X.N[i]?=some x:=by rfl) (hv:Vis X.env.scope x:=by first | exact Or.inl rfl | exact Or.inr (Or.inl rfl) | exact Or.inr (Or.inr rfl)) (h4:(decide (fl.getD i 1=0)&&decide (l≠4))=true:=by rfl) (hd:(x == ("__debug__" : Str))=false:=by decide)
  (hcd:(x == ("__classdict__" : Str))=false:=by decide):GR X B fl (.Name x pos') (gL i) n l:=by
 have h4:=aHo.mp h4;have h0:fl.getD i 1=0:=of_decide_eq_true h4.1;refine bB (pv (X:=X) i hN hv hd hcd) ?_;rintro σ H Q ⟨Ex,ρ,M,t,S,hr,q⟩;obtain⟨t',e1,hr⟩:=bind_some hr;cases t'<;>first | (cases hr;done) | skip
 dsimp only at hr;split at hr
 ·rename_i hfl
  cases (aHa hr);obtain⟨a,ts,xs,e2,e3,e4,e5,e6⟩:=S.muL i _ (rS e1) h0;cases e2;refine⟨_,e3,q _ H (aP.refl H) ((RtX.of (of_decide_eq_true h4.2)).mpr ?_)⟩;cases n with
  | true=>exact⟨a,xs,rfl,(S.mB a e6).1,e4,xI hfl e5⟩
  | false=>exact⟨a,xs,rfl,.inl ⟨⟨fun _ z=>by simp at z,fun _=>(S.mB a e6).1,fun _=>(S.mB a e6).1⟩,.inl e4⟩,xI hfl e5⟩
 ·cases hr
theorem aO.any {K:PySem.W.Frag}{H':Hp}{t:T}{v:V}(h:aO K B B [] H' n l t v):Rep K H' (Ad B B [] l) t v:=by
 cases n with
 | false=>cases t<;>exact h
 | true=>
  cases t with
  | lst ts=>
   obtain⟨a,xs,e,h1,h2,r⟩:=h;exact⟨a,xs,e,.inl ⟨⟨fun _ z=>by simp at z,fun _=>h1,fun _=>h1⟩,.inl h2⟩,r.weak fun b x=>x.1⟩
  | non=>exact h
  | bl _=>exact h
  | int _=>exact h
  | str _=>exact h
  | tup _=>exact h
  | exc _=>exact h
  | dct _=>exact h
  | own _=>exact h
theorem AD:GRA X B fl [] aF l:=xC fW fun σ H Q ⟨Ex,ρ,M,ts,S,hf,q⟩=>q _ H (aP.refl H) (by cases (aHa hf);rfl)
theorem mR (ha:GR X B fl e f false l) (hr:GRA X B fl es fa l) (hs:starEach (e::es) X.env=(false,eval e X.env)::starEach es X.env:=by rfl) (h4:(l == 4)=false:=by rfl):GRA X B fl (e::es) (aC f fa) l:=by
 refine xC (eB ha hr hs) ?_;rintro σ H Q ⟨Ex,ρ,M,ts,S,hf,q⟩;obtain⟨x,hx,hf⟩:=bind_some hf;obtain⟨xs,hxs,hf⟩:=bind_some hf;cases (aHa hf);exact⟨Ex,ρ,M,x,S,hx,fun v H1 s1 r1=>⟨Ex,ρ,M,xs,S.grow s1,hxs,fun vs H2 s2 r2=>q _ H2 (s1.trans s2) ⟨v,vs,rfl,((RtX.of (by simpa using h4)).mp r1).any.grow s2,r2⟩⟩⟩
theorem AC {k:Nat}(ha:GRA X B fl es fa l) (h4:(l == 4)=false:=by rfl):GR X B fl (.Tuple es k pos) (eV fa) n l:=by
 refine bB (BH ha) ?_;rintro σ H Q ⟨Ex,ρ,M,t,S,hf,q⟩;obtain⟨ts,hts,hf⟩:=bind_some hf;split at hf
 ·rename_i hl
  cases (aHa hf);refine⟨Ex,ρ,M,ts,S,hts,fun vs H1 s1 r1=>⟨by rw[<- r1.length];exact aJe (gJ hl),fun p hp=>q _ _ (s1.trans (cX hp _)) ((RtX.of (by simpa using h4)).mpr ?_)⟩⟩;have z:Rep X.K (upd H1 p (.tup vs)) (Ad B B [] l) (.tup ts) (.ref p):=⟨p,vs,rfl,.inl (.inl cP),r1.grow (cX hp _)⟩;cases n<;>exact z
 ·cases hf
@[simp] theorem okO_lst (ts:List T):okO (.lst ts)=true:=id rfl
@[simp] theorem okO_int (i:Int):okO (.int i)=true:=id rfl
@[simp] theorem okO_str (i:Str):okO (.str i)=true:=id rfl
theorem bA (he:GR X B fl e f n l):GS X B fl n l (.Return (some e) pos) (aZ f):=by
 refine eK (aBn he) ?_;rintro D σ H ⟨Ex,ρ,M,o,S,hr,q⟩;unfold aZ at hr;cases e1:f ρ with
 | none=>rw[e1] at hr;cases hr
 | some t=>
  rw[e1] at hr;cases (aHa hr);exact⟨Ex,ρ,M,t,S,e1,fun v H1 s1 rx=>q v H1 (S.same.trans s1) rx⟩
end
@[simp] theorem forT_nil (j:Nat) (body:Rho->Option Out) (ρ:Rho):bR j body [] ρ=some (.nx ρ):=rfl
theorem vS (j:Nat) (body:Rho->Option Out) (t:T) (ts:List T) (ρ:Rho):bR j body (t::ts) ρ =
 (body (ρ.set j (some t))).bind fun o=>match o with | .nx ρ'=>bR j body ts ρ' | .ct ρ'=>bR j body ts ρ' | .bk ρ'=>some (.nx ρ') | .rt t=>some (.rt t):=rfl
theorem XX {i j:Int}(h:i.natAbs<2^64):fG i j=true:=by unfold fG;rw[decide_eq_true h];rfl
theorem XZ {i j:Int}(h:j.natAbs<2^64):fG i j=true:=by unfold fG;rw[decide_eq_true h];simp
theorem sE {i j:Int}(n m:Nat) (h:i.natAbs<2^n) (h':j.natAbs<2^m) (hn:n<=1048576) (hm:m<=1048576):fG i j=true:=by
 have a:Builtin.Int.intBits i<=2^20:=aJg (intBits_le h) hn;have b:Builtin.Int.intBits j<=2^20:=aJg (intBits_le h') hm;unfold fG;rw[decide_eq_true a,decide_eq_true b];simp
theorem AZ {i j:Int}(h:i.natAbs<2^64):bN (.int i) (.int j)=some (.int (i*j)):=qO (XX h)
theorem sI {i j:Int}(h:j.natAbs<2^64):bN (.int i) (.int j)=some (.int (i*j)):=qO (XZ h)
theorem jV {n:Nat}{i:Int}(h0:0<=i) (h:i<n):ixN n i=some i.toNat:=by unfold ixN;rw[if_pos h0,if_pos h]
theorem jL (ns:List Int) (j:Nat) (x:Int):(tI ns).set j (.int x)=tI (ns.set j x):=by unfold tI;rw[List.map_set]
theorem KW (ns:List Int) (j:Nat):(tI ns)[j]?=(ns[j]?).map T.int:=by unfold tI;rw[aIl]
theorem rG {ns:List Int}{i:Int}(h0:0<=i) (h:i<ns.length):atI (tI ns) i=some (.int (ns.getD i.toNat 0)):=by
 have hl:i.toNat<ns.length:=by lia
 rw[PC,OZ h0 h,aHb,aHc hl];rfl
theorem cA {ns:List Int}{i:Nat}(h:i<ns.length):atI (tI ns) (i:Int)=some (.int (ns.getD i 0)):=by
 rw[rG (by lia) (by lia)];simp
theorem BA {i j:Int}(h0:i.natAbs<2^62) (h:j.natAbs<2^62):gT [.int i,.int j]=some (rangeT i (j-i).toNat):=by
 unfold gT;dsimp only;rw[if_pos ⟨h0,h⟩]
theorem mY (lo:Int) (n:Nat):(rangeT lo n).length=n:=by simp[rangeT]
theorem BQ {lo:Int}{n i:Nat}(h:i<(rangeT lo n).length):(rangeT lo n)[i]=.int (lo+i):=by simp[rangeT]
theorem QM {f:Rho->Option T}{ρ:Rho}{lo:Int}{n:Nat}(h:Nat->Int) (h2:∀ i,i<n->f (ρ.set 0 (some (.int (lo+i))))=some (.int (h i))):bQ bJ f ρ (rangeT lo n)=some (tI ((List.range n).map h)):=by
 rw[QR (fun i=>.int (h i)) h2];simp[tI]
theorem vN {f:Rho->Option T}{ρ:Rho}{ns:List Int}(h:Int->Int) (h2:∀ i∈ns,f (ρ.set 0 (some (.int i)))=some (.int (h i))):bQ bJ f ρ (tI ns)=some (tI (ns.map h)):=by
 rw[EG (fun t=>match t with | .int i=>.int (h i) | t=>t) (tI ns) (fun t ht=>by
  unfold tI at ht;obtain⟨i,hi,rfl⟩:=aJ7.mp ht;exact h2 i hi)]
 simp[tI]
@[simp] theorem gScal_int' (i:Int):aW (.int i)=some (.int i):=rfl
@[simp] theorem flat_tI' (ns:List Int):cH (tI ns)=true:=zR ns
theorem qP (i:Int) (j:Nat) (h:decide ((Builtin.Int.intBits i:Int)*(j:Int)<=2^27)=true):cN (.int i) (.int (j:Int))=some (.int (i^j)):=by
 unfold cN;simp only[oI_int];rw[if_pos (by simpa using h)];simp
theorem aCb {n i:Nat}(h:i<(rangeT 0 n).length):(rangeT 0 n)[i]=.int (i:Int):=by simp[rangeT]
theorem EE {f:Rho->Option T}{ρ:Rho}{n:Nat}(h:Nat->Int) (h2:∀ i,i<n->f (ρ.set 0 (some (.int (i:Int))))=some (.int (h i))):bQ bJ f ρ (rangeT 0 n)=some (tI ((List.range n).map h)):=
 QM h fun i hi=>by rw[Int.zero_add];exact h2 i hi
theorem rO {j n:Nat}{body:Rho->Option Out}(I:Nat->Rho->Prop) (h:∀ i,i<n->∀ ρ,I i ρ->∃ ρ',body (ρ.set j (some (.int (i:Int))))=some (.nx ρ')/\I (i+1) ρ') (ρ:Rho) (h0:I 0 ρ):∃ ρ',bR j body (rangeT 0 n) ρ=some (.nx ρ')/\I n ρ':=by
 have:=vT (j:=j) (body:=body) I (rangeT 0 n) (fun i hi ρ hI=>by
  have hi':i<n:=by rw[mY] at hi;exact hi
  obtain⟨ρ',e,q⟩:=h i hi' ρ hI;refine⟨ρ',.inl ?_,q⟩;rw[aCb];exact e) ρ h0
 rwa [mY] at this
theorem rJ (a b:Nat):Builtin.bitAnd (a:Int) (b:Int)=((a&&&b:Nat):Int):=by
 unfold Builtin.bitAnd;simp
theorem rK (a:Nat):Builtin.bitAnd (a:Int) 1=((a%2:Nat):Int):=by
 have:=rJ a 1;rw[Nat.and_one_is_mod] at this;exact this
theorem zA (a b:Nat):Builtin.bitOr (a:Int) (b:Int)=((a|||b:Nat):Int):=by
 unfold Builtin.bitOr Builtin.bitAnd Builtin.bitNot;have h1:¬ (0 <= -(a:Int)-1):=by lia
 have h2:¬ (0 <= -(b:Int)-1):=by lia
 rw[decide_eq_false h1,decide_eq_false h2];show -(-(((-(-(a:Int)-1)-1).toNat|||(-(-(b:Int)-1)-1).toNat:Nat):Int)-1)-1=_;have e1:(-(-(a:Int)-1)-1).toNat=a:=by lia
 have e2:(-(-(b:Int)-1)-1).toNat=b:=by lia
 rw[e1,e2];lia
theorem sJ (a b:Nat):jY (.int (a:Int)) (.int (b:Int))=some (.int ((a / 2^b:Nat):Int)):=by
 rw[YN (by lia)];simp
theorem YM {a b:Nat}(h:a<2^64) (h2:b<=1000000):dF (.int (a:Int)) (.int (b:Int))=some (.int ((a*2^b:Nat):Int)):=by
 rw[YL (by lia) (by lia) (by lia)];simp
theorem jH {b:Nat}(h2:b<=1000000):dF (.int 1) (.int (b:Int))=some (.int ((2^b:Nat):Int)):=by
 have:=YM (a:=1) (b:=b) (by decide) h2;rw[Nat.one_mul] at this;exact this
theorem JB {α:Type}(xs:List α) (a:Nat):∀ k,((List.range k).map (a + ·)).filterMap (xs[·]?)=(xs.drop a).take k
 | 0=>by simp
 | k+1=>by
  rw[List.range_succ,List.map_append,List.filterMap_append,JB xs a k,List.take_add_one]
  congr 1
  simp only[aIy,aJ0,aIc,List.filterMap_nil,List.getElem?_drop];cases xs[a+k]?<;>rfl
theorem aD4 {α:Type}(xs:List α) (lo hi:Option Int):cZ xs lo hi none=(xs.drop (lo.elim 0 (clipAt xs.length))).take ((hi.elim xs.length (clipAt xs.length))-(lo.elim 0 (clipAt xs.length))):=by
 unfold cZ;rw[sliceBounds_plain,sliceRange_one,JB]
theorem QH {n:Nat}{i:Int}(h:0<=i):clipAt n i=min i.toNat n:=by unfold clipAt;lia
theorem aD3 {α:Type}(xs:List α) {i:Int}(h:0<=i):cZ xs (some i) none none=xs.drop i.toNat:=by
 rw[aD4];simp only[Option.elim,QH h];rw[List.take_of_length_le (by simp)]
 by_cases h':i.toNat<=xs.length
 ·rw[Nat.min_eq_left h']
 ·rw[Nat.min_eq_right (by lia),List.drop_eq_nil_of_le (aJf _),List.drop_eq_nil_of_le (by lia)]
def dC {α:Type} (xs:List α) (i:Int) (y:α):List α:=xs.take (min i.toNat xs.length)++y::xs.drop (min i.toNat xs.length)
def aC6:V->List V->Hp->VK->Prop:=fun x vs H Q=>∃ l xs i y,x=.ref l/\vs=[.int i,y]/\H l=some (.lst xs)/\0<=i/\i<2^63/\xs.length<sizeLine/\Q .non (upd H l (.lst (dC xs i y)))
theorem aEv {xs:List V}{us:List Value}(h:aL xs us):∀ n,aL (xs.take n) (us.take n):=by
 induction h with
 | nil=>intro n;simp;exact .nil
 | cons r t ih=>
  intro n;cases n with
  | zero=>exact .nil
  | succ n=>exact .cons r (ih n)
theorem aEt {xs:List V}{us:List Value}(h:aL xs us):∀ n,aL (xs.drop n) (us.drop n):=by
 induction h with
 | nil=>intro n;simp;exact .nil
 | cons r t ih=>
  intro n;cases n with
  | zero=>exact .cons r t
  | succ n=>exact ih n
theorem XW {X:Cx}:MtM X "list.insert" aC6:=by
 intro pins s σ H x vs v us Q I rx rv h;obtain⟨l,xs,i,y,rfl,rfl,hH,h0,h1,hz,q⟩:=h;cases rx;obtain⟨u1,u,rfl,r1,ru⟩:=rv.two;obtain⟨tk,rfl⟩:=r1;obtain⟨z,its,n,r,hl,e⟩:=I.lstM hH;refine call_meets PySem.F.slot_list_insert ⟨_,e,rfl⟩ PySem.F.entry_list_insert (PySem.F.args_list_insert_3 _ _ _) (PySem.AutoListH.list_insert_list_int_val_1 l its.toArray n i tk u (by unfold Builtin.List.listFitsIndex;simp;lia) (by rw[aHj];lia)) ⟨e,?_⟩;refine⟨.non,_,I.lset (its':=dC its i u) hH e ?_ ?_ ?_,rfl,q⟩
 ·unfold dC
  have h0':¬ i<0:=by lia
  simp[h0'];exact List.take_of_length_le (by simp)
 ·unfold dC
  rw[hl];exact (aEv r _).append (.cons ru (aEt r _))
 ·unfold dC;simp;lia
def BN (i:Nat) (fk f:Rho->Option T):Rho->Option Out:=fun ρ=>(aA i ρ).bind fun t=>(fk ρ).bind fun k=>(f ρ).bind fun x=>match t,k with | .lst ts,.int j=>if ts.length<cap/\0<=j/\j<2^63 then some (.nx (ρ.set i (some (.lst (dC ts j x))))) else none | _,_=>none
@[simp] theorem rIns_at (i:Nat) (fk f:Rho->Option T) (ρ:Rho):BN i fk f ρ=(aA i ρ).bind fun t=>(fk ρ).bind fun k=>(f ρ).bind fun x=>match t,k with | .lst ts,.int j=>if ts.length<cap/\0<=j/\j<2^63 then some (.nx (ρ.set i (some (.lst (dC ts j x))))) else none | _,_=>none:=rfl
theorem aCd {K:PySem.W.Frag}{H:Hp}{A:Addr->Prop}{ts:List T}{xs:List V}{t:T}{x:V}(h:RepL K H A ts xs) (r:Rep K H A t x) (i:Int):RepL K H A (dC ts i t) (dC xs i x):=by
 unfold dC;rw[h.length];exact RepL.app (h.take _) ⟨x,_,rfl,r,h.drop _⟩
section
variable {X:Cx}{B:Hp}{fl:List Nat}{e k:Expr}{f fk:Rho->Option T}{n n' nk:Bool}{l l' lk:Nat}{pos pos':Pos}{x:Str}
theorem US (i:Nat) {apos p2:Pos}(hk:GE X B fl k fk nk lk) (he:GE X B fl e f n' l') (h1:(decide (fl.getD i 1=0)&&decide (lc fl<=l'))=true) (hN:X.N[i]?=some x:=by rfl) (hv:Vis X.env.scope x:=by first | exact Or.inl rfl | exact Or.inr (Or.inl rfl) | exact Or.inr (Or.inr rfl))
  (hd:(x == ("__debug__" : Str))=false:=by decide) (hcd:(x == ("__classdict__" : Str))=false:=by decide)
  (hbase:attributeBase (.Name x p2) "insert" X.env (eval (.Name x p2) X.env)=eval (.Name x p2) X.env:=by rfl)
  (hfew:((backTo pos' (starEach [k,e] X.env)).all (fun x=>!x.1)&&(backToKw pos' (keywordEach [] X.env)).all (fun x=>x.1.isSome)
   && decide (([k,e]:List Expr).length+([]:List Keyword).length+(if ([]:List Keyword).isEmpty then 0 else 1)<30))=true:=by rfl)
  (hline:(apos.endLine == pos'.line)=true:=by rfl) (hs:starEach [k,e] X.env=(false,eval k X.env)::starEach [e] X.env:=by rfl) (hs2:starEach [e] X.env=[(false,eval e X.env)]:=by rfl) (hpl:(backTo pos' (starEach [e] X.env)).any (·.1)=false:=by rfl) (hsw:swapsWith (.Call (.Attribute (.Name x p2) "insert" apos) [k,e] [] pos') none pos.line X.env=pure false:=by rfl):
  GS X B fl n l (.Expr (.Call (.Attribute (.Name x p2) "insert" apos) [k,e] [] pos') pos) (BN i fk f):=by
 simp only[aHn,decide_eq_true_eq] at h1;refine eK (JD (sO PySem.F.plainAttrs_list PySem.F.slot_list_insert PySem.F.type_list_insert XW (pv (X:=X) i hN hv hd hcd) (eB hk (eB he fW hs2) hs) hbase hfew hline hs hpl) hsw) ?_;rintro D σ H ⟨Ex,ρ,M,o,S,hr,q⟩;obtain⟨t,e1,hr⟩:=bind_some hr;obtain⟨j,e0,hr⟩:=bind_some hr;obtain⟨y,e2,hr⟩:=bind_some hr;cases t<;>first | (cases hr;done) | skip
 cases j<;>first | (cases hr;done) | skip
 dsimp only at hr;split at hr
 ·rename_i hl
  cases (aHa hr);have e1':=rS e1;have lcl:=mT fl;have lcp:=qK fl;obtain⟨a,ts,xs,e3,e4,e5,e6,e7⟩:=S.muL i _ e1' h1.1;cases e3;refine⟨_,e4,.inl ⟨rfl,xs,SqL.of e5⟩,?_⟩;refine⟨Ex,ρ,M,_,S,e0,fun v0 H0 s0 r0=>?_⟩;cases (aO.scal rfl).mp r0;have S0:=S.grow s0;refine⟨Ex,ρ,M,y,S0,e2,fun v H1 s1 rx=>?_⟩;refine⟨a,xs,_,v,rfl,rfl,s1 _ _ (s0 _ _ e5),hl.2.1,hl.2.2,by rw[<- e6.length];exact gJ (aJe hl.1),?_⟩;refine q σ M _ ((S0.grow s1).write h1.1 e1' e4 e7 (s1 _ _ (s0 _ _ e5)) (aCd (((e6.grow s0).grow s1).weak fun b x=>x.any (by lia)) ((rx.rep S0).weak fun b x=>?_) _));exact⟨fun z=>x.1 (by lia),fun z=>x.2.1 (by lia),fun z=>by lia⟩
 ·cases hr
end
theorem HI:∀ {ns:List Int}{us:List Value},aL (ns.map V.int) us->IntsAre us ns
 | [],_,h=>by cases h;exact .nil
 | n::ns,_,h=>by
  cases h with
  | cons r t=>
   obtain⟨k,rfl⟩:=r;exact .cons n k (HI t)
theorem XU {X:Cx}:MtR X "list.index" (fun x xs H Q=>∃ (a:Addr) (ns:List Int) (k:Int),x=.ref a/\xs=[.int k]/\SqL X.K H a (ns.map V.int)/\k∈ns/\Q (.int (ns.idxOf k:Nat)) H):=by
 intro pins s σ H x xs v us Q I rx rv h;obtain⟨a,ns,k,rfl,rfl,hS,hk,q⟩:=h;cases rx;obtain⟨u,rfl,ru⟩:=rv.one;obtain⟨t,rfl⟩:=ru;obtain⟨its,r,p,hz⟩:=I.list hS;have hi:=HI r;have hlen:=hi.length;have hj:ns.idxOf k<ns.length:=List.idxOf_lt_length_iff.mpr hk;have hz':ns.length<=sizeLine:=by simpa using hz
 rw[sizeLine_eq] at hz';obtain⟨⟨cls,dd,data,sl⟩,ho,hc,n,hd⟩:=p.isList;simp only at hc hd;subst hc hd;refine call_meets PySem.F.slot_list_index ⟨_,ho,rfl⟩ PySem.F.entry_list_index (PySem.F.args_list_index_2 _ _)
  (PySem.SeqAt.list_indexAt a its.toArray n dd sl (.int k t) (isInt k) (ns.idxOf k) (by simpa [hlen] using hj) (by lia) ?_ ?_) ⟨ho,fun y hy=>(eq_isInt k t hi y (by simpa using hy)).at _ _,⟨.int _,H,I.tok _,⟨_,rfl⟩,q⟩⟩
 ·show isInt k its[ns.idxOf k]=true
  rw[isInt_at k hi _ (by lia) hj]
  simpa using List.getElem_idxOf hj
 ·intro j hjs hlt
  show isInt k its[j]=false;rw[isInt_at k hi j (by simpa using hjs) (by lia)];exact ne_of_lt_idxOf hlt _
def wN:T->T->Option T
 | .lst ts,.int k=>(dP ts).bind fun ns=>if k∈ns then some (.int (ns.idxOf k:Nat)) else none
 | _,_=>none
theorem YF {ns:List Int}{k:Int}(h:k∈ns):wN (.lst (tI ns)) (.int k)=some (.int (ns.idxOf k:Nat)):=by simp[wN,rF,h]
theorem TR {X:Cx}{B:Hp}{fl:List Nat}{o e:Expr}{f g:Rho->Option T}{n n':Bool}{l l':Nat}{apos pos:Pos}(ho:GE X B fl o f n l) (he:GE X B fl e g n' l')
  (hbase:attributeBase o "index" X.env (eval o X.env)=eval o X.env:=by rfl)
  (hfew:((backTo pos (starEach [e] X.env)).all (fun x=>!x.1)&&(backToKw pos (keywordEach [] X.env)).all (fun x=>x.1.isSome)
   && decide (([e]:List Expr).length+([]:List Keyword).length+(if ([]:List Keyword).isEmpty then 0 else 1)<30))=true:=by rfl)
  (hline:(apos.endLine == pos.line)=true:=by rfl) (hs:starEach [e] X.env=[(false,eval e X.env)]:=by rfl):GE X B fl (.Call (.Attribute o "index" apos) [e] [] pos) (f2 f g wN) true 3:=by
 refine bB (sO PySem.F.plainAttrs_list PySem.F.slot_list_index PySem.F.type_list_index XU ho (eB he fW hs) hbase hfew hline hs rfl) ?_;rintro σ H Q ⟨Ex,ρ,M,t,S,hf,q⟩;obtain⟨x,hx,hf⟩:=bind_some hf;obtain⟨y,hy,hf⟩:=bind_some hf;cases x<;>first | (cases y<;>cases hf;done) | skip
 cases y<;>first | (cases hf;done) | skip
 rename_i us _ k;obtain⟨ns,ea,hg⟩:=bind_some (show ((dP us).bind fun ns=>if k∈ns then some (T.int (ns.idxOf k:Nat)) else none)=some t from hf);cases rE ea
 by_cases hk:k∈ns
 ·rw[if_pos hk] at hg
  cases (aHa hg);refine⟨Ex,ρ,M,_,S,hx,fun v H1 s1 rx=>?_⟩;obtain⟨p,xs,rfl,h1,h2⟩:=(rx.rep S).sqL;cases sS h2;refine⟨.inl ⟨rfl,_,h1⟩,Ex,ρ,M,_,S.grow s1,hy,fun v2 H2 s2 ry=>?_⟩;cases (aO.scal rfl).mp ry;have h1':SqL X.K H2 p (ns.map V.int):=by
   rcases h1 with h | h
   ·exact .inl (eL (fun o q=>s2 _ _ q) h)
   ·exact .inr h
  exact⟨p,ns,k,rfl,rfl,h1',hk,q _ _ (s1.trans s2) ((aO.scal rfl).mpr rfl)⟩
 ·rw[if_neg hk] at hg
  cases hg
section
variable {X:Cx}{pins:List (Addr × Obj)}{σ:St}{H:Hp}{s:Shared}{h':Heap}
theorem HL {t':Nat}{fs:List Addr}{T:Addr}{ys:List V}(I:Inv X pins σ H s) (hT:s.heap.objs.size<=T) (k:∀ b o,b ∉ fs->s.heap.get? b=some o->h'.get? b=some o) (hf:∀ b∈fs,eS X pins H b)
  (new:cL X.prog X.w (upd H T (.tup ys)) h' T (.tup ys)):Inv X pins σ (upd H T (.tup ys)) { s with heap:=h',toks:=t' }:=by
 have hn:H T=none:=I.hok.fresh hT;have nfs:∀ b u,H b=some u->b ∉ fs:=fun b u e z=>by rw[(hf b z).1] at e;cases e
 have nT:∀ b (o:Obj),s.heap.get? b=some o->b≠T:=fun b o e z=>absurd (aHi (aHv e) (by rw[z];exact hT)) (aJh _);refine I.step (g':=s.gens) (d':=s.drawn) (ch:=fs) (fun b hb=>⟨(hf b hb).2.2.2.1,(hf b hb).2.1,(hf b hb).2.2.2.2.1,(hf b hb).2.2.2.2.2⟩) (fun b o _ _ hc e _=>k b o hc e) (fun b o _ _ hc e _=>⟨o.slots,k b o hc e⟩)
  (fun b o hc e n=>by rw[aR (nT b o e)];exact n) (fun b o hc e=>⟨o,k b o hc e⟩) (fun b xs e=>by rw[aR (fS e hn)];exact e) (fun b o u e=>by rw[aR (fS e hn)];exact e) (fun b ps e=>⟨#[],by rw[aR (fS e hn),e];simp⟩) (fun m hm=>?_) (fun b u e=>?_) I.bare
 ·obtain⟨o,es,ep,ho,r⟩:=hm
  exact⟨o,es,ep,k _ o (fun z=>(hf _ z).2.1 rfl) ho,r⟩
 ·by_cases hb:b=T
  ·subst hb;rw[cP] at e;cases e;exact new
  ·rw[aR hb] at e
   refine (I.hok b u e).stay (fun c v hc q=>k c v ?_ q) (fun c q=>by rw[aR (fS q hn)];exact q) fun c xs q=>by rw[aR (fS q hn)];exact q
   rcases hc with z | z
   ·rw[z];exact nfs b u e
   ·exact nfs c _ z
theorem HK {t':Nat}{fs:List Addr}(I:Inv X pins σ H s) (k:∀ b o,b ∉ fs->s.heap.get? b=some o->h'.get? b=some o) (hf:∀ b∈fs,eS X pins H b):Inv X pins σ H { s with heap:=h',toks:=t' }:=by
 have nfs:∀ b u,H b=some u->b ∉ fs:=fun b u e z=>by rw[(hf b z).1] at e;cases e
 refine I.step (g':=s.gens) (d':=s.drawn) (ch:=fs) (fun b hb=>⟨(hf b hb).2.2.2.1,(hf b hb).2.1,(hf b hb).2.2.2.2.1,(hf b hb).2.2.2.2.2⟩) (fun b o _ _ hc e _=>k b o hc e) (fun b o _ _ hc e _=>⟨o.slots,k b o hc e⟩)
  (fun _ _ _ _ n=>n) (fun b o hc e=>⟨o,k b o hc e⟩) (fun _ _ e=>e) (fun _ _ _ e=>e) (fun b ps e=>⟨#[],by rw[e];simp⟩) (fun m hm=>?_) (fun b u e=>?_) I.bare
 ·obtain⟨o,es,ep,ho,r⟩:=hm
  exact⟨o,es,ep,k _ o (fun z=>(hf _ z).2.1 rfl) ho,r⟩
 ·refine (I.hok b u e).stay (fun c v hc q=>k c v ?_ q) (fun _ q=>q) fun _ _ q=>q
  rcases hc with z | z
  ·rw[z];exact nfs b u e
  ·exact nfs c _ z
end
def Ite (K:PySem.W.Frag) (a:Addr):It:=
 ⟨fun i H=>∃ xs x,SqL K H a xs/\xs[i]?=some x,fun i H x H'=>∃ T y,(∀ xs,SqL K H a xs->xs[i]?=some y)/\H T=none/\x=.ref T/\H'=upd H T (.tup [.int (i:Nat),y]),fun i H=>∃ xs,SqL K H a xs/\xs.length<=i⟩
theorem cQ {h:Heap}{a b:Addr}{o o':Obj}(e:h.get? a=some o) (e':h.get? b=some o') (hc:o.cls≠o'.cls):a≠b:=fun z=>by
 subst z;rw[e] at e';cases e';exact hc rfl
theorem aEj {P:Program}{w:World}{K:PySem.W.Frag}{elts:List Expr}{k:Nat}{pos:Pos}(a e it:Addr) (hei:e≠it):Turn P w K (.Tuple elts k pos) (Ite K a) [e,it] e (fun i h=>(∃ old,IsEnum h e it i old)/\h.IsListIter it a i) where
 mem:=by simp
 obj:=fun i h st b hb=>by
  obtain⟨⟨old,he⟩,hit⟩:=st;rcases aHm.mp hb with rfl | hb
  ·exact⟨_,he,fun v z=>by cases (show Data.fields _=Data.cell v from z)⟩
  ·have eb:b=it:=by simpa using hb
   subst eb;obtain⟨o,q,c,d⟩:=hit;exact⟨o,q,fun v z=>by rw[d] at z;cases z⟩
 keep:=fun i h h' st kp=>by
  obtain⟨⟨old,he⟩,hit⟩:=st;exact⟨⟨old,kp e (by simp) _ he⟩,hit.at fun o q=>kp it (by simp) o q⟩
 item:=by
  intro X hP hw hK hc i pins s σ H E I hf st hg;subst hP hw hK;obtain⟨xs,x,hq,hx⟩:=hg;obtain⟨its,rv,p,hz⟩:=I.list hq;obtain⟨u,hu,ru⟩:=rv.get hx;obtain⟨⟨old,he⟩,hit⟩:=st;obtain⟨oit,eit,cit,dit⟩:=id hit;obtain⟨ol,el,cl,nl,dl⟩:=id p.isList;have hle:a≠e:=cQ el he (by rw[cl];simp);have hli:a≠it:=cQ el eit (by rw[cl,cit];simp);have W:=WalksT.enumerate (prog:=X.prog) (w:=X.w) (I.ok.hd hc) e it a hei hle hli its.toArray;have hi:i<its.toArray.size:=by
   have:=(aHf.mp hu).1
   simpa using this
  refine W.item i s _ E hi ⟨⟨old,he⟩,hit,p.isList⟩ fun T vals h1 tk hPt hT hTup hMid keep1=>⟨_,rfl,?_⟩;refine W.go elts k pos i T { s with heap:=h1,toks:=tk } _ E hMid fun h2 hSt keep2=>?_;obtain⟨t,v,hv,rfl⟩:=hPt;have hvu:v=u:=by
   have:its[i]?=some v:=by simpa using hv
   rw[hu] at this;exact (aHa this).symm
  subst hvu;have hTw:=W.apart i T h1 hMid;obtain⟨oT,eT,cT,nT,dT⟩:=hTup;have eT2:h2.get? T=some oT:=keep2 T oT hTw eT;have new:cL X.prog X.w (upd H T (.tup [.int (i:Nat),x])) h2 T (.tup [.int (i:Nat),x]):=by
   refine⟨by rw[sizeLine_eq];show 2<=16777216;decide,[.int (i:Nat) t,v],.cons ⟨t,rfl⟩ (.cons ru .nil),⟨oT,eT2,cT,nT,dT⟩⟩
  have I2:Inv X pins σ (upd H T (.tup [.int (i:Nat),x])) { s with heap:=h2,toks:=tk }:=HL (fs:=[e,it]) I hT (fun b o hb q=>keep2 b o hb (keep1 b o hb q)) hf new;refine⟨.ref T,_,I2,rfl,⟨T,x,fun ys hy=>by rw[I.list_inj hy hq];exact hx,I.hok.fresh hT,rfl,rfl⟩,⟨hSt.1,hSt.2.1⟩,fun b hb=>?_⟩;rw[aR (fun z=>hTw (by rw[<- z];exact hb))];exact (hf b hb).1
 done:=by
  intro X hP hw hK hc i pins s σ H E I hf st hg;subst hP hw hK;obtain⟨xs,hq,hx⟩:=hg;obtain⟨its,rv,p,hz⟩:=I.list hq;obtain⟨⟨old,he⟩,hit⟩:=st;obtain⟨oit,eit,cit,dit⟩:=id hit;obtain⟨ol,el,cl,nl,dl⟩:=id p.isList;have hle:a≠e:=cQ el he (by rw[cl];simp);have hli:a≠it:=cQ el eit (by rw[cl,cit];simp);have hl:=rv.length;exact wpAny_pyNext_enum_end (I.ok.hd hc) he hit p.isList (by simp;lia) fun h' hx=>⟨rfl,HK (t':=s.toks) (fs:=[e,it]) I (fun b o hb q=>hx b o (fun z=>hb (by simp[z])) q) hf⟩
 self:=fun A i s Q E st h=>by
  obtain⟨⟨old,he⟩,hit⟩:=st;exact wpAny_pyIter_enum he h
def Itz (K:PySem.W.Frag) (a b:Addr):It:=
  ⟨fun i H=>∃ xs ys x y,SqL K H a xs/\SqL K H b ys/\xs[i]?=some x/\ys[i]?=some y,
   fun i H x H'=>∃ T y z,(∀ xs,SqL K H a xs->xs[i]?=some y)/\(∀ ys,SqL K H b ys->ys[i]?=some z)/\H T=none/\x=.ref T/\H'=upd H T (.tup [y,z]),
   fun i H=>∃ xs ys,SqL K H a xs/\SqL K H b ys/\(xs.length<=i\/ys.length<=i)⟩
structure ZA (z TI TO i1 i2:Addr):Prop where
 TIz:TI≠z
 TOz:TO≠z
 i1z:i1≠z
 i2z:i2≠z
 TITO:TI≠TO
 TIi1:TI≠i1
 TIi2:TI≠i2
 TOi1:TO≠i1
 TOi2:TO≠i2
 i12:i1≠i2
theorem aF3 (n:Nat):ZA (n+4) (n+2) (n+3) n (n+1):=by
 have h:∀ a b:Nat,a<b->(a:Addr)≠b/\(b:Addr)≠a:=fun a b q=>⟨aJo q,aJn q⟩;exact⟨(h _ _ (by lia)).1,(h _ _ (by lia)).1,(h _ _ (by lia)).1,(h _ _ (by lia)).1,(h _ _ (by lia)).1,(h _ _ (by lia)).2,(h _ _ (by lia)).2,(h _ _ (by lia)).2,(h _ _ (by lia)).2,(h _ _ (by lia)).1⟩
theorem aEm {P:Program}{w:World}{K:PySem.W.Frag}{elts:List Expr}{k:Nat}{pos:Pos}(a b z TI TO i1 i2:Addr) (A0:ZA z TI TO i1 i2):Turn P w K (.Tuple elts k pos) (Itz K a b) [z,TI,TO,i1,i2] z
  (fun i h=>IsZip h z TI TO .none/\IsPair h TI (.ref i1) (.ref i2)/\(∃ a b,IsPair h TO a b)/\h.IsListIter i1 a i/\h.IsListIter i2 b i) where
 mem:=by simp
 obj:=fun i h st c hc=>by
  obtain⟨hz,hTI,⟨u,v,hTO⟩,h1,h2⟩:=st;simp only[aHm,List.mem_nil_iff,or_false] at hc;rcases hc with rfl | rfl | rfl | rfl | rfl
  ·exact⟨_,hz,fun v z=>by cases (show Data.fields _=Data.cell v from z)⟩
  ·exact⟨_,hTI,fun v z=>by cases (show Data.seq _ _=Data.cell v from z)⟩
  ·exact⟨_,hTO,fun v z=>by cases (show Data.seq _ _=Data.cell v from z)⟩
  ·obtain⟨o,q,c,d⟩:=h1
   exact⟨o,q,fun v z=>by rw[d] at z;cases z⟩
  ·obtain⟨o,q,c,d⟩:=h2
   exact⟨o,q,fun v z=>by rw[d] at z;cases z⟩
 keep:=fun i h h' st kp=>by
  obtain⟨hz,hTI,⟨u,v,hTO⟩,h1,h2⟩:=st;exact⟨kp z (by simp) _ hz,kp TI (by simp) _ hTI,⟨u,v,kp TO (by simp) _ hTO⟩,h1.at fun o q=>kp i1 (by simp) o q,h2.at fun o q=>kp i2 (by simp) o q⟩
 item:=by
  intro X hP hw hK hc i pins s σ H E I hf st hg;subst hP hw hK;obtain⟨xs,ys,x,y,hq,hq',hx,hy⟩:=hg;obtain⟨its,rv,p,hzl⟩:=I.list hq;obtain⟨its',rv',p',hzl'⟩:=I.list hq';obtain⟨u,hu,ru⟩:=rv.get hx;obtain⟨u',hu',ru'⟩:=rv'.get hy;obtain⟨hz,hTI,⟨w1,w2,hTO⟩,h1,h2⟩:=st;obtain⟨o1,e1,c1,d1⟩:=id h1;obtain⟨o2,e2,c2,d2⟩:=id h2;obtain⟨ol,el,cl,nl,dl⟩:=id p.isList;obtain⟨ol',el',cl',nl',dl'⟩:=id p'.isList;have D:ZipApart z TI TO i1 i2 a b:=⟨A0.TIz,A0.TOz,A0.i1z,A0.i2z,A0.TITO,A0.TIi1,A0.TIi2,A0.TOi1,A0.TOi2,A0.i12,
   cQ el hz (by rw[cl];simp),cQ el hTO (by rw[cl];simp),cQ el e1 (by rw[cl,c1];simp),cQ el e2 (by rw[cl,c2];simp),
   cQ el' hz (by rw[cl'];simp),cQ el' hTO (by rw[cl'];simp),cQ el' e1 (by rw[cl',c1];simp),cQ el' e2 (by rw[cl',c2];simp)⟩
  have W:=WalksT.zip2 (prog:=X.prog) (w:=X.w) (I.ok.hd hc) z TI TO i1 i2 a b D its.toArray its'.toArray;have hi:i<min its.toArray.size its'.toArray.size:=by
   have a1:=(aHf.mp hu).1;have a2:=(aHf.mp hu').1;simp;lia
  refine W.item i s _ E hi ⟨hz,hTI,⟨w1,w2,hTO⟩,h1,h2,p.isList,p'.isList⟩ fun T vals h1 tk hPt hT hTup hMid keep1=>⟨_,rfl,?_⟩;refine W.go elts k pos i T { s with heap:=h1,toks:=tk } _ E hMid fun h2 hSt keep2=>?_;obtain⟨v,v',hv,hv',rfl⟩:=hPt;have hvu:v=u:=by
   have:its[i]?=some v:=by simpa using hv
   rw[hu] at this;exact (aHa this).symm
  have hvu':v'=u':=by
   have:its'[i]?=some v':=by simpa using hv'
   rw[hu'] at this;exact (aHa this).symm
  subst hvu hvu';have hTw:=W.apart i T h1 hMid;obtain⟨oT,eT,cT,nT,dT⟩:=hTup;have eT2:h2.get? T=some oT:=keep2 T oT hTw eT;have new:cL X.prog X.w (upd H T (.tup [x,y])) h2 T (.tup [x,y]):=by
   refine⟨by rw[sizeLine_eq];show 2<=16777216;decide,[v,v'],.cons ru (.cons ru' .nil),⟨oT,eT2,cT,nT,dT⟩⟩
  have hsub:∀ c∈[z,TO,i1,i2],c∈[z,TI,TO,i1,i2]:=by simp
  have I2:Inv X pins σ (upd H T (.tup [x,y])) { s with heap:=h2,toks:=tk }:=HL (fs:=[z,TO,i1,i2]) I hT (fun b o hb q=>keep2 b o hb (keep1 b o hb q)) (fun b hb=>hf b (hsub b hb)) new;have hTn:∀ c∈[z,TI,TO,i1,i2],c≠T:=fun c hcm zz=>by
   by_cases hcT:c=TI
   ·exact absurd (aHi (aHv hTI) hT) (by rw[<- hcT,zz];exact aJh _)
   ·refine hTw ?_
    rw[<- zz];simp only[aHm,List.mem_nil_iff,or_false] at hcm ⊢;rcases hcm with q | q | q | q | q
    ·exact .inl q
    ·exact absurd q hcT
    ·exact .inr (.inl q)
    ·exact .inr (.inr (.inl q))
    ·exact .inr (.inr (.inr q))
  refine⟨.ref T,_,I2,rfl,⟨T,x,y,fun zs hz=>by rw[I.list_inj hz hq];exact hx,fun zs hz=>by rw[I.list_inj hz hq'];exact hy,I.hok.fresh hT,rfl,rfl⟩,⟨hSt.1,hSt.2.1,hSt.2.2.1,hSt.2.2.2.1,hSt.2.2.2.2.1⟩,fun c hcm=>?_⟩;rw[aR (hTn c hcm)];exact (hf c hcm).1
 done:=by
  intro X hP hw hK hc i pins s σ H E I hf st hg;subst hP hw hK;obtain⟨xs,ys,hq,hq',hx⟩:=hg;obtain⟨its,rv,p,hzl⟩:=I.list hq;obtain⟨its',rv',p',hzl'⟩:=I.list hq';obtain⟨hz,hTI,⟨w1,w2,hTO⟩,h1,h2⟩:=st;obtain⟨o1,e1,c1,d1⟩:=id h1;obtain⟨o2,e2,c2,d2⟩:=id h2;obtain⟨ol,el,cl,nl,dl⟩:=id p.isList;obtain⟨ol',el',cl',nl',dl'⟩:=id p'.isList;have D:ZipApart z TI TO i1 i2 a b:=⟨A0.TIz,A0.TOz,A0.i1z,A0.i2z,A0.TITO,A0.TIi1,A0.TIi2,A0.TOi1,A0.TOi2,A0.i12,
   cQ el hz (by rw[cl];simp),cQ el hTO (by rw[cl];simp),cQ el e1 (by rw[cl,c1];simp),cQ el e2 (by rw[cl,c2];simp),
   cQ el' hz (by rw[cl'];simp),cQ el' hTO (by rw[cl'];simp),cQ el' e1 (by rw[cl',c1];simp),cQ el' e2 (by rw[cl',c2];simp)⟩
  have hl:=rv.length;have hl':=rv'.length;have hend:its.toArray[i]?=none\/its'.toArray[i]?=none:=by
   rcases hx with hx | hx
   ·exact .inl (by simp;lia)
   ·exact .inr (by simp;lia)
  exact wpAny_pyNext_zip_end (I.ok.hd hc) D hz hTI hTO h1 h2 p.isList p'.isList hend fun h' hk=>⟨rfl,HK (t':=s.toks) (fs:=[z,TI,TO,i1,i2]) I (fun b o hb q=>hk b o (fun x=>hb (by simp[x])) (fun x=>hb (by simp[x])) (fun x=>hb (by simp[x])) (fun x=>hb (by simp[x])) q) hf⟩
 self:=fun A i s Q E st h=>wpAny_pyIter_zip st.1 h
section
variable {X:Cx}{elts:List Expr}{k:Nat}{p2:Pos}
def VL (K:PySem.W.Frag) (ta:TA):TI:=fun σ H R=>ta σ H fun vs H1=>∃ l xs,vs=[.ref l]/\SqL K H1 l xs/\R (Ite K l) H1
theorem aBb {a:Expr}{ta:TA}{p pos:Pos}(hg:Gl X "enumerate") (hm:X.mg "enumerate" = none) (ha:PA X [a] ta) (hs:starEach [a] X.env=[(false,eval a X.env)]:=by rfl):PI X (.Tuple elts k p2) (.Call (.Name "enumerate" p) [a] [] pos) (VL X.K ta):=by
 intro pins s σ H R I h;refine Call_ (jF I hg hm PyProof.Rows.boot_enumerate (PyProof.Rows.callWith_type1 (thn (ha pos pins s σ H _ I h) fun us s1 ⟨vs,H1,I1,r1,q1⟩=>?_) hs rfl));obtain⟨l,xs,e,hq,q⟩:=q1;subst e;cases r1 with
 | cons r rr=>
  cases rr;cases r;obtain⟨its,rv,p,hz⟩:=I1.list hq;refine call_enumerate_list p.isList fun h' he hit hsz keep=>wpAny_pyIter_enum he ?_;refine⟨_,[s1.heap.objs.size+1,s1.heap.objs.size],_,_,H1,rfl,I1.kept (t':=s1.toks) keep,aEj l _ _ (aJn (aJk _)),⟨⟨_,he⟩,hit⟩,fun b hb=>?_,q⟩;have hb':s1.heap.objs.size<=b:=by
   simp only[aHm,List.mem_nil_iff,or_false] at hb;rcases hb with rfl | rfl<;>lia
  exact I1.fpOk hb' (I1.hok.fresh hb')
def VO (K:PySem.W.Frag) (ta:TA):TI:=fun σ H R=>ta σ H fun vs H1=>∃ l l' xs ys,vs=[.ref l,.ref l']/\SqL K H1 l xs/\SqL K H1 l' ys/\R (Itz K l l') H1
theorem aBe {a b:Expr}{ta:TA}{p pos:Pos}(hg:Gl X "zip") (hm:X.mg "zip" = none) (ha:PA X [a,b] ta) (hs:starEach [a,b] X.env=[(false,eval a X.env),(false,eval b X.env)]:=by rfl) (hs2:starEach [b] X.env=[(false,eval b X.env)]:=by rfl):PI X (.Tuple elts k p2) (.Call (.Name "zip" p) [a,b] [] pos) (VO X.K ta):=by
 intro pins s σ H R I h;refine Call_ (jF I hg hm PyProof.Rows.boot_zip (PyProof.Rows.callWith_type1 (thn (ha pos pins s σ H _ I h) fun us s1 ⟨vs,H1,I1,r1,q1⟩=>?_) (by rw[hs,hs2]) (by rw[hs2];rfl)));obtain⟨l,l',xs,ys,e,hq,hq',q⟩:=q1;subst e;cases r1 with
 | cons r rr=>
  cases rr with
  | cons r' rr=>
   cases rr;cases r;cases r';obtain⟨its,rv,p,hz⟩:=I1.list hq;obtain⟨its',rv',p',hz'⟩:=I1.list hq';refine call_zip_2 p.isList p'.isList fun h' a1 a2 a3 a4 a5 hsz keep=>wpAny_pyIter_zip a1 ?_;refine⟨_,[s1.heap.objs.size+4,s1.heap.objs.size+2,s1.heap.objs.size+3,s1.heap.objs.size,s1.heap.objs.size+1],_,_,H1,rfl,I1.kept (t':=s1.toks) keep,aEm l l' _ _ _ _ _ (aF3 _),⟨a1,a2,⟨_,_,a3⟩,a4,a5⟩,fun b hb=>?_,q⟩;have hb':s1.heap.objs.size<=b:=by
    simp only[aHm,List.mem_nil_iff,or_false] at hb;rcases hb with rfl | rfl | rfl | rfl | rfl<;>lia
   exact I1.fpOk hb' (I1.hok.fresh hb')
end
def cS (n:Nat):List T->List T
 | []=>[]
 | u::us=>.tup [.int (n:Int),u]::cS (n+1) us
theorem zK:∀ (us:List T) (n i:Nat),(cS n us)[i]?=(us[i]?).map fun u=>.tup [.int ((n+i:Nat):Int),u]
 | [],n,i=>by simp[cS]
 | u::us,n,0=>by simp[cS]
 | u::us,n,i+1=>by
  rw[cS,List.getElem?_cons_succ,zK us (n+1) i,List.getElem?_cons_succ]
  congr 2
  funext u
  congr 4
  omega
theorem EN:∀ (us:List T) (n:Nat),(cS n us).length=us.length
 | [],n=>rfl
 | u::us,n=>by simp[cS,EN us (n+1)]
def mM (fi:Rho->Option (List T)):Rho->Option (List T):=fun ρ=>(fi ρ).map (cS 0)
@[simp] theorem fEnum_at (fi:Rho->Option (List T)) (ρ:Rho):mM fi ρ=(fi ρ).map (cS 0):=rfl
def gC (xs ys:List T):List T:=List.zipWith (fun x y=>.tup [x,y]) xs ys
def rN (fi gi:Rho->Option (List T)):Rho->Option (List T):=fun ρ=>(fi ρ).bind fun xs=>(gi ρ).map fun ys=>gC xs ys
@[simp] theorem fZip_at (fi gi:Rho->Option (List T)) (ρ:Rho):rN fi gi ρ=(fi ρ).bind fun xs=>(gi ρ).map fun ys=>gC xs ys:=rfl
theorem yX {K:PySem.W.Frag}{H H':Hp}{A:Addr->Prop}{u:T}{y:V}{sc:Bool}(hsc:sc=true->im u=true) (s:aP H H') (r:Rep K H A u y):Rep K H' (Am sc A H) u y:=by
 cases sc with
 | false=>exact (r.grow s).weak fun b x=>⟨rfl,.inl x⟩
 | true=>exact qR u (hsc rfl) (r.grow s)
theorem aEx {K:PySem.W.Frag}{a:Addr}{us:List T}{sc:Bool}(hsc:sc=true->cH us=true):rD K (Ite K a) [(.lst us,.ref a)] (cS 0 us) sc:=by
 intro H A hA i;obtain⟨a',xs,e,hs,hr⟩:=(hA _ aHe).sqL;cases e;refine⟨fun t ht=>?_,fun hi=>⟨xs,hs,by rw[<- hr.length,<- EN us 0];exact hi⟩⟩;rw[zK] at ht;cases hu:us[i]? with
 | none=>rw[hu] at ht;cases ht
 | some u=>
  rw[hu] at ht;cases (aHa ht);obtain⟨y,hy,ry⟩:=hr.get hu;refine⟨⟨xs,y,hs,hy⟩,fun x H' hx=>?_⟩;obtain⟨T,y',hy',hT,rfl,rfl⟩:=hx;have:=hy' xs hs;rw[hy] at this;cases (aHa this);have sn:=cX hT (.tup [.int (i:Nat),y]);refine⟨sn,T,[.int (i:Nat),y],rfl,.inl (.inl cP),.int (i:Nat),[y],rfl,?_,y,[],rfl,yX (fun z=>aHg.mp (hsc z) u (List.mem_of_getElem? hu)) sn ry,rfl⟩;show V.int _=V.int _
  congr 1
  omega
theorem aEy {K:PySem.W.Frag}{a b:Addr}{us ws:List T}{sc:Bool}(hsc:sc=true->cH us=true/\cH ws=true):rD K (Itz K a b) [(.lst us,.ref a),(.lst ws,.ref b)] (gC us ws) sc:=by
 intro H A hA i;obtain⟨a',xs,e,hs,hr⟩:=(hA _ aHe).sqL;obtain⟨b',ys,e',hs',hr'⟩:=(hA _ (aHd _ aHe)).sqL;cases e;cases e';refine⟨fun t ht=>?_,fun hi=>⟨xs,ys,hs,hs',?_⟩⟩
 ·unfold gC at ht
  rw[List.getElem?_zipWith] at ht;cases hu:us[i]? with
  | none=>rw[hu] at ht;cases ht
  | some u=>
   cases hw:ws[i]? with
   | none=>rw[hu,hw] at ht;cases ht
   | some w=>
    rw[hu,hw] at ht;cases (aHa ht);obtain⟨y,hy,ry⟩:=hr.get hu;obtain⟨z,hz,rz⟩:=hr'.get hw;refine⟨⟨xs,ys,y,z,hs,hs',hy,hz⟩,fun x H' hx=>?_⟩;obtain⟨T,y',z',hy',hz',hT,rfl,rfl⟩:=hx;have q1:=hy' xs hs;have q2:=hz' ys hs';rw[hy] at q1;rw[hz] at q2;cases (aHa q1);cases (aHa q2);have sn:=cX hT (.tup [y,z]);exact⟨sn,T,[y,z],rfl,.inl (.inl cP),y,[z],rfl,yX (fun z=>aHg.mp (hsc z).1 u (List.mem_of_getElem? hu)) sn ry,z,[],rfl,yX (fun z=>aHg.mp (hsc z).2 w (List.mem_of_getElem? hw)) sn rz,rfl⟩
 ·unfold gC at hi
  rw[List.length_zipWith] at hi;rw[<- hr.length,<- hr'.length];omega
section
variable {X:Cx}{B:Hp}{fl:List Nat}{e e':Expr}{f g:Rho->Option T}{n n':Bool}{l l':Nat}{pos p' p2:Pos}{x:Str}{elts:List Expr}{k:Nat}
theorem Ad.min3 {H:Hp}{M:List Addr}{a:Addr}(h:Ad B H M (min l 3) a):Ad B H M l a:=⟨fun z=>h.1 (by omega),fun z=>h.2.1 (by omega),fun z=>h.2.2 (by omega)⟩
theorem AL {t:T}{us:List T}(h:jB t=some us):t=.lst us/\cH us=true:=by
 cases t<;>first | (cases h;done) | skip
 unfold jB at h;dsimp only at h;split at h
 ·rename_i hfl
  cases (aHa h);exact⟨rfl,hfl⟩
 ·cases h
theorem UL {sc:Bool}{fi:Rho->Option (List T)}(hfi:∀ ρ us,fi ρ=some us->f ρ=some (.lst us)/\(sc=true->cH us=true)) (hx:x = "enumerate") (hg:Gl X x) (hm:X.mg x=none) (he:GE X B fl e f n l) (hs:starEach [e] X.env=[(false,eval e X.env)]):
  GI X B fl (.Tuple elts k p2) (.Call (.Name x p') [e] [] pos) (mM fi) l sc:=by
 subst hx;refine sQ (aBb hg hm (aD he aG hs) hs) ?_;rintro σ H R ⟨Ex,ρ,M,ts,S,hf,q⟩;unfold mM at hf;cases hu:fi ρ with
 | none=>rw[hu] at hf;cases hf
 | some us=>
  rw[hu] at hf;cases (aHa hf);obtain⟨h1,h2⟩:=hfi ρ us hu;refine⟨Ex,ρ,M,[.lst us],S,by unfold aC aF;rw[h1];rfl,fun vs H1 s1 r1=>?_⟩;obtain⟨y,rfl,ry⟩:=eM r1;obtain⟨p,xs,rfl,h3,h4⟩:=ry.sqL;exact⟨p,xs,rfl,h3,q _ H1 [(.lst us,.ref p)] s1 (fun pv hp=>by cases aJa.mp hp;exact ry.weak fun b x=>x.min3) (aEx h2)⟩
theorem zZ (hx:x = "enumerate") (hg:Gl X x) (hm:X.mg x=none) (he:GE X B fl e f n l) (hs:starEach [e] X.env=[(false,eval e X.env)]:=by rfl):
  GI X B fl (.Tuple elts k p2) (.Call (.Name x p') [e] [] pos) (mM (fFL f)) l true:=
 UL (fun ρ us h=>by
  obtain⟨t,h1,h2⟩:=bind_some h;obtain⟨h3,h4⟩:=AL h2;exact⟨by rw[h1,h3],fun _=>h4⟩) hx hg hm he hs
theorem UN {sc:Bool}{fi gi:Rho->Option (List T)}(hfi:∀ ρ us,fi ρ=some us->f ρ=some (.lst us)/\(sc=true->cH us=true)) (hgi:∀ ρ us,gi ρ=some us->g ρ=some (.lst us)/\(sc=true->cH us=true)) (hx:x = "zip") (hg:Gl X x) (hm:X.mg x=none) (he:GE X B fl e f n l) (he':GE X B fl e' g n' l')
  (hs:starEach [e,e'] X.env=[(false,eval e X.env),(false,eval e' X.env)]) (hs2:starEach [e'] X.env=[(false,eval e' X.env)]):
  GI X B fl (.Tuple elts k p2) (.Call (.Name x p') [e,e'] [] pos) (rN fi gi) (min l l') sc:=by
 subst hx;refine sQ (aBe hg hm (aD he (aD he' aG hs2) (by rw[hs,hs2])) hs hs2) ?_;rintro σ H R ⟨Ex,ρ,M,ts,S,hf,q⟩;obtain⟨us,hu,hf⟩:=bind_some hf;cases hw:gi ρ with
 | none=>rw[hw] at hf;cases hf
 | some ws=>
  rw[hw] at hf;cases (aHa hf);obtain⟨h1,h2⟩:=hfi ρ us hu;obtain⟨h1',h2'⟩:=hgi ρ ws hw;refine⟨Ex,ρ,M,[.lst us,.lst ws],S,by simp only[aC,aF,h1,h1',aK0],fun vs H1 s1 r1=>?_⟩;obtain⟨y,r,rfl,ry,r2⟩:=r1;obtain⟨z,rfl,rz⟩:=eM r2;obtain⟨p,xs,rfl,h3,h4⟩:=ry.sqL;obtain⟨p2,ys,rfl,h3',h4'⟩:=rz.sqL;have wk:∀ a,Ad B H M (min l (min l' 3)) a->Ad B H M (min l l') a:=fun a h=>⟨fun z=>h.1 (by omega),fun z=>h.2.1 (by omega),fun z=>h.2.2 (by omega)⟩;refine⟨p,p2,xs,ys,rfl,h3,h3',q _ H1 [(.lst us,.ref p),(.lst ws,.ref p2)] s1 (fun pv hp=>?_) (aEy fun z=>⟨h2 z,h2' z⟩)⟩;rcases aHm.mp hp with rfl | hp
  ·exact ry.weak wk
  ·cases aJa.mp hp
   exact rz.weak wk
theorem FY (hx:x = "zip") (hg:Gl X x) (hm:X.mg x=none) (he:GE X B fl e f n l) (he':GE X B fl e' g n' l') (hs:starEach [e,e'] X.env=[(false,eval e X.env),(false,eval e' X.env)]:=by rfl) (hs2:starEach [e'] X.env=[(false,eval e' X.env)]:=by rfl):
  GI X B fl (.Tuple elts k p2) (.Call (.Name x p') [e,e'] [] pos) (rN (fFL f) (fFL g)) (min l l') true:=
 UN (fun ρ us h=>by
  obtain⟨t,h1,h2⟩:=bind_some h;obtain⟨h3,h4⟩:=AL h2;exact⟨by rw[h1,h3],fun _=>h4⟩) (fun ρ us h=>by
  obtain⟨t,h1,h2⟩:=bind_some h;obtain⟨h3,h4⟩:=AL h2;exact⟨by rw[h1,h3],fun _=>h4⟩) hx hg hm he he' hs hs2
end
def setL (ρ:Rho):List Nat->List T->Option Rho
 | [],[]=>some ρ
 | j::js,t::ts=>setL (ρ.set j (some t)) js ts
 | _,_=>none
def gZ (σ:St):List Nat->List V->St
 | j::js,v::vs=>gZ (σ.set j (some v)) js vs
 | _,_=>σ
def gNs (js:List Nat):TGs:=fun vs σ H Q=>vs.length=js.length/\Q (gZ σ js vs) H
theorem qC {X:Cx}:PGs X [] (gNs []):=by
 intro pins s σ H vs us Q I r h;refine aBa pins s σ H vs us Q I r ⟨List.length_eq_zero_iff.mp h.1,?_⟩;have e:=List.length_eq_zero_iff.mp h.1;subst e;exact h.2
theorem eZ {X:Cx}{j:Nat}{x:Str}{pos:Pos}{es:List Expr}{js:List Nat}(hN:X.N.Nodup) (hi:X.N[j]?=some x) (hx:Loc X.env.scope x) (h2:PGs X es (gNs js)) (hf:X.fn x=true\/X.env.scope.names.lookup x=some .local:=by first | exact .inl rfl | exact .inr rfl | assumption)
  (hs:(assignEach ((.Name x pos)::es) X.env).map (·.2)=assign (.Name x pos) X.env::(assignEach es X.env).map (·.2):=by rfl):PGs X ((.Name x pos)::es) (gNs (j::js)):=by
 intro pins s σ H vs us Q I r h;refine aB9 (xD hN hi hx hf) h2 hs pins s σ H vs us Q I r ?_
 match vs,h with
 | v::vr,h=>exact⟨v,vr,rfl,by simpa using h.1,h.2⟩
theorem KP:∀ (js:List Nat) (vs:List V) (σ:St),(gZ σ js vs).length=σ.length
 | [],_,_=>rfl
 | _::_,[],_=>rfl
 | j::js,v::vs,σ=>by rw[gZ,KP js vs];simp
theorem KO:∀ (js:List Nat) (vs:List V) (σ:St) (i:Nat),i ∉ js->(gZ σ js vs)[i]?=σ[i]?
 | [],_,_,_,_=>rfl
 | _::_,[],_,_,_=>rfl
 | j::js,v::vs,σ,i,h=>by
  have h1:i≠j:=fun z=>h (by rw[z];exact aHe);have h2:i ∉ js:=fun z=>h (aHd _ z);rw[gZ,KO js vs _ i h2,aHk (Ne.symm h1)]
theorem CI:∀ (js:List Nat) (ts:List T) (ρ ρ':Rho),setL ρ js ts=some ρ'->ts.length=js.length
 | [],[],_,_,_=>rfl
 | [],_::_,_,_,h=>by cases h
 | _::_,[],_,_,h=>by cases h
 | j::js,t::ts,ρ,ρ',h=>by simp[CI js ts _ ρ' h]
theorem Sl.setL {K:PySem.W.Frag}{B H:Hp}{fl:List Nat}{Ex:List (T × V)}{M:List Addr}{lv:Nat}:∀ (js:List Nat) (ts:List T) (vs:List V) {σ:St}{ρ ρ':Rho},Sl K B fl Ex σ ρ M H->(∀ j∈js,j<fl.length/\1<=fl.getD j 1/\min (fl.getD j 1) 2<=lv)->RepL K H (Ad B H M lv) ts vs->G.setL ρ js ts=some ρ'->Sl K B fl Ex (gZ σ js vs) ρ' M H
 | [],[],vs,σ,ρ,ρ',S,_,r,h=>by
  cases (aHa h);cases (show vs=[] from r);exact S
 | [],_::_,_,_,_,_,_,_,_,h=>by cases h
 | _::_,[],_,_,_,_,_,_,_,h=>by cases h
 | j::js,t::ts,vs,σ,ρ,ρ',S,hj,r,h=>by
  obtain⟨v,vr,rfl,r1,r2⟩:=r;have h0:=hj j aHe;exact Sl.setL js ts vr (S.set h0.1 (.inl h0.2.1) (r1.weak fun b x=>⟨fun z=>x.1 (by omega),fun z=>x.2.1 (by omega),fun z=>by omega⟩)) (fun i hi=>hj i (aHd _ hi)) r2 h
def eA (js:List Nat) (body:Rho->Option Out):List T->Rho->Option Out
 | [],ρ=>some (.nx ρ)
 | .tup us::ts,ρ=>(setL ρ js us).bind fun ρ1=>(body ρ1).bind fun o=>match o with | .nx ρ'=>eA js body ts ρ' | .ct ρ'=>eA js body ts ρ' | .bk ρ'=>some (.nx ρ') | .rt t=>some (.rt t)
 | _::_,_=>none
def xF (js:List Nat) (fi:Rho->Option (List T)) (body:Rho->Option Out):Rho->Option Out:=fun ρ=>(fi ρ).bind fun ts=>eA js body ts ρ
@[simp] theorem rForT_at (js:List Nat) (fi:Rho->Option (List T)) (body:Rho->Option Out) (ρ:Rho):xF js fi body ρ=(fi ρ).bind fun ts=>eA js body ts ρ:=rfl
theorem SU {js:List Nat}{body:Rho->Option Out}{t:T}{ts:List T}{ρ:Rho}{o:Out}(h:eA js body (t::ts) ρ=some o):∃ us ρ1 o1,t=.tup us/\setL ρ js us=some ρ1/\body ρ1=some o1/\(match o1 with | .nx ρ'=>eA js body ts ρ' | .ct ρ'=>eA js body ts ρ' | .bk ρ'=>some (.nx ρ') | .rt t=>some (.rt t))=some o:=by
 cases t with
 | tup us=>
  obtain⟨ρ1,h1,h⟩:=bind_some h;obtain⟨o1,h2,h⟩:=bind_some h;exact⟨us,ρ1,o1,rfl,h1,h2,h⟩
 | exc _=>cases h
 | dct _=>cases h
 | own _=>cases h
 | non=>cases h
 | bl _=>cases h
 | int _=>cases h
 | str _=>cases h
 | lst _=>cases h
theorem JW {K:PySem.W.Frag}{H:Hp}{A:Addr->Prop}{us:List T}{v:V}(h:Rep K H A (.tup us) v):∃ a xs,v=.ref a/\SqT K H a xs/\RepL K H A us xs:=h.sqT
theorem GJ {X:Cx}{B:Hp}{fl:List Nat}{n:Bool}{l:Nat}{body:List Stmt}{r:Rho->Option Out}{pos p2:Pos}{k m:Nat}(js:List Nat) {iter:Expr}{elts:List Expr}{fi:Rho->Option (List T)}{li:Nat}{sc:Bool}(hp:PassesOwn (model X.prog X.w) X.A X.env X.xe) (hc:X.calm=true) (hi:GI X B fl (.Tuple elts k p2) iter fi li sc)
  (hg:PGs X elts (gNs js)) (hb:GSs X B fl n l body r) (hfl:(js.all fun j=>decide (j<fl.length)&&decide (fl.getD j 1=1))=true) (hli:decide (1<=li)=true)
  (hn:(assignEach elts X.env).length=m:=by rfl) (hst:(assignEach elts X.env).findIdx? (·.1)=none:=by rfl) (hm:js.length=m:=by rfl)
  (hs:∀ x,foldedSetIterable iter X.env x=pure x:=by intro _;rfl):
  GS X B fl n l (.For (.Tuple elts k p2) iter body [] pos) (xF js fi r):=by
 have hfl':∀ j∈js,j<fl.length/\1<=fl.getD j 1/\min (fl.getD j 1) 2<=1:=fun j hj=>by
  have:=aHg.mp hfl j hj;simp only[aHn,decide_eq_true_eq] at this;exact⟨this.1,by omega,by omega⟩
 have hli:=of_decide_eq_true hli;refine eK (JE hp hc hi (JA hc hg hn hst) hb hs) ?_;rintro D σ H ⟨Ex,ρ,M,o,S,hr,q⟩;obtain⟨ts,hts,hr⟩:=bind_some hr;refine⟨Ex,ρ,M,ts,S,hts,fun J H1 ps s1 rp wk=>?_⟩;refine⟨fun i m σ1 H2=>m=ts.length-i/\i<=ts.length/\∃ ρ1 M1,Sl X.K B fl (ps++Ex) σ1 ρ1 M1 H2/\eA js r (ts.drop i) ρ1=some o,⟨ts.length,by simp,aJx _,ρ,M,(S.grow s1).plus (fun p hp=>(rp p hp).weak fun b x=>⟨fun z=>x.1 (by omega),fun z=>by omega,fun z=>by omega⟩),hr⟩,?_⟩;rintro i m' σ1 H2 ⟨rfl,hi,ρ1,M1,S1,e1⟩;have w:=wk H2 _ (fun p hp=>S1.ex p (aJ2 _ hp)) i
 by_cases hlt:i<ts.length
 ·have et:ts[i]?=some ts[i]:=aHc hlt
  obtain⟨go,yl⟩:=w.1 _ et;rw[List.drop_eq_getElem_cons hlt] at e1;obtain⟨us,ρ2,o1,eu,h0,h1,e1⟩:=SU e1;refine .inr ⟨go,fun σ' H'=>∃ ρ1 M1,Sl X.K B fl (ps++Ex) σ' ρ1 M1 H'/\eA js r (ts.drop (i+1)) ρ1=some o,fun σ' H' ⟨ρ',M',S',e'⟩=>⟨ts.length-(i+1),by omega,rfl,hlt,ρ',M',S',e'⟩,fun y H3 hy=>?_⟩;obtain⟨s23,ry⟩:=yl y H3 hy;have ry':Rep X.K H3 (Ad B H3 M1 1) ts[i] y:=ry.weak fun c hc=>by
   obtain⟨_,hc⟩:=hc;rcases hc with hc | hc
   ·exact⟨fun z=>hc.1 (aJf _),fun z=>by omega,fun z=>by omega⟩
   ·exact⟨fun _ z=>(S1.mB c z).2 hc,fun z=>by omega,fun z=>by omega⟩
  rw[eu] at ry';obtain⟨a,xs,rfl,hsq,rl⟩:=JW ry';have hlen:xs.length=js.length:=by rw[<- rl.length];exact CI js us ρ1 ρ2 h0
  refine⟨a,xs,rfl,hsq,by rw[hlen,hm],hlen,?_⟩;refine⟨ps++Ex,_,M1,o1,(S1.grow s23).setL js us xs hfl' rl h0,h1,?_⟩;cases o1 with
  | nx ρ'=>exact fun σ' M' H' S'=>⟨ρ',M',S',e1⟩
  | ct ρ'=>exact fun σ' M' H' S'=>⟨ρ',M',S',e1⟩
  | bk ρ'=>cases (aHa e1);exact fun σ' M' H' S'=>q σ' M' H' S'.fewer
  | rt t=>cases (aHa e1);exact q
 ·have ei:i=ts.length:=by omega
  subst ei;rw[List.drop_eq_nil_of_le (aJf _)] at e1;cases (aHa (show some (Out.nx ρ1)=some o from e1));exact .inl ⟨w.2 (aJf _),q σ1 M1 H2 S1.fewer⟩
def cG (js:List Nat) (p:Rho->Option Bool) (f:Rho->Option T) (ρ:Rho):List T->Option (List T)
 | []=>some []
 | .tup us::ts=>(setL ρ js us).bind fun ρ1=>(p ρ1).bind fun b=>if b then (f ρ1).bind fun y=>(cG js p f ρ ts).map (y :: ·) else cG js p f ρ ts
 | _::_=>none
def hV (js:List Nat) (fi:Rho->Option (List T)) (src:List (Option Nat)) (p:Rho->Option Bool) (f:Rho->Option T):Rho->Option T:=fun ρ=>
 (fi ρ).bind fun ts=>(cG js p f (bV src ρ) ts).bind fun us=>if us.length<=cap then some (.lst us) else none
@[simp] theorem fCompT_at (js:List Nat) (fi:Rho->Option (List T)) (src:List (Option Nat)) (p:Rho->Option Bool) (f:Rho->Option T) (ρ:Rho):hV js fi src p f ρ =
 (fi ρ).bind fun ts=>(cG js p f (bV src ρ) ts).bind fun us=>if us.length<=cap then some (.lst us) else none:=rfl
theorem QP {js:List Nat}{p:Rho->Option Bool}{f:Rho->Option T}{ρ:Rho}{t:T}{ts us:List T}(h:cG js p f ρ (t::ts)=some us):
  ∃ xs ρ1 b,t=.tup xs/\setL ρ js xs=some ρ1/\p ρ1=some b/\((b=true/\∃ y r,f ρ1=some y/\cG js p f ρ ts=some r/\us=y::r)\/(b=false/\cG js p f ρ ts=some us)):=by
 cases t with
 | tup xs=>
  obtain⟨ρ1,h1,h⟩:=bind_some h;obtain⟨b,h2,h⟩:=bind_some h;refine⟨xs,ρ1,b,rfl,h1,h2,?_⟩;cases b with
  | true=>
   obtain⟨y,h3,h⟩:=bind_some (show ((f ρ1).bind fun y=>(cG js p f ρ ts).map (y :: ·))=some us from h);cases e:cG js p f ρ ts with
   | none=>rw[e] at h;cases h
   | some r=>rw[e] at h;cases (aHa h);exact .inl ⟨rfl,y,r,h3,rfl,rfl⟩
  | false=>exact .inr ⟨rfl,h⟩
 | exc _=>cases h
 | dct _=>cases h
 | own _=>cases h
 | non=>cases h
 | bl _=>cases h
 | int _=>cases h
 | str _=>cases h
 | lst _=>cases h
structure FlT (X:Cx) (N':List Str) (src:List (Option Nat)) (fl fl':List Nat) (li:Nat) (sc:Bool) (js:List Nat):Prop where
 nd:N'.Nodup
 own:∀ j∈js,src[j]?=some none
 cap:∀ (j i:Nat),src[j]?=some (some i)->fl'.getD j 1=fl.getD i 1
 pos:∀ j∈js,1<=fl'.getD j 1
 le:sc=false->∀ j∈js,fl'.getD j 1<=li
 xN:∀ (j i:Nat),src[j]?=some (some i)->N'[j]?=X.N[i]?/\j<N'.length
 lf:fl'.length=src.length
 lcs:lc fl'<=lc fl\/∀ j,fl'.getD j 1≠0
def EB (N N':List Str) (src:List (Option Nat)) (fl fl':List Nat) (li:Nat) (sc:Bool) (js:List Nat):Bool:=
 sF N'&&(js.all fun j=>(match src[j]? with | some none=>true | _=>false)&&decide (1<=fl'.getD j 1)&&(sc||decide (fl'.getD j 1<=li)))&&(fl'.length == src.length)&&(src.length == N'.length) &&
 (List.range src.length).all (fun j=>match src[j]? with | some (some i)=>(match N'[j]?,N[i]? with | some a,some b=>a == b | _,_=>false)&&(fl'.getD j 1 == fl.getD i 1) | _=>true)&&(decide (lc fl'<=lc fl) || !fl'.contains 0)
theorem vP {X:Cx}{N':List Str}{src:List (Option Nat)}{fl fl':List Nat}{li:Nat}{sc:Bool}{js:List Nat}(h:EB X.N N' src fl fl' li sc js=true):FlT X N' src fl fl' li sc js:=by
 unfold EB at h;have h8:=IA (aHo.mp h).2;simp only[aHn] at h;obtain⟨⟨⟨⟨⟨h1,h2⟩,h5⟩,h6⟩,h7⟩,_⟩:=h;have key:∀ j i,src[j]?=some (some i)->(N'[j]?=X.N[i]?/\j<N'.length)/\fl'.getD j 1=fl.getD i 1:=fun j i e=>by
  have hj:j<src.length:=(aHf.mp e).1;have t:=aHg.mp h7 j (aHh.mpr hj);rw[e] at t;simp only[aHn] at t;refine⟨⟨?_,by rw[<- eq_of_beq h6];exact hj⟩,eq_of_beq t.2⟩;have t1:=t.1;cases q:N'[j]? with
  | none=>rw[q] at t1;cases t1
  | some a=>
   cases q2:X.N[i]? with
   | none=>rw[q,q2] at t1;cases t1
   | some b=>
    rw[q,q2] at t1;rw[eq_of_beq t1]
 have own:∀ j∈js,src[j]?=some none/\1<=fl'.getD j 1/\(sc=false->fl'.getD j 1<=li):=fun j hj=>by
  have t:=aHg.mp h2 j hj;simp only[aHn,decide_eq_true_eq] at t;refine⟨?_,t.1.2,fun z=>by simpa [z] using t.2⟩;have t1:=t.1.1;cases q:src[j]? with
  | none=>rw[q] at t1;cases t1
  | some o=>
   cases o with
   | none=>rfl
   | some _=>rw[q] at t1;cases t1
 exact⟨fU h1,fun j hj=>(own j hj).1,fun j i e=>(key j i e).2,fun j hj=>(own j hj).2.1,fun z j hj=>(own j hj).2.2 z,fun j i e=>(key j i e).1,eq_of_beq h5,h8⟩
section
variable {X:Cx}{K:PySem.W.Frag}{B H:Hp}{fl fl':List Nat}{src:List (Option Nat)}{N':List Str}{Ex:List (T × V)}{σ σ1:St}{ρ:Rho}{M:List Addr}{li:Nat}{sc:Bool}{js:List Nat}
theorem Sl.block0 (F:FlT X N' src fl fl' li sc js) (S:Sl K B fl Ex σ ρ M H) (h0:∀ j,j ∉ js->σ1[j]?=(cO src σ)[j]?) (hl:σ1.length=src.length):Sl K B fl' Ex σ1 (bV src ρ) M H:=by
 have get:∀ j u,(bV src ρ)[j]?=some (some u)->∃ i,src[j]?=some (some i)/\ρ[i]?=some (some u)/\j ∉ js:=fun j u e=>by
  obtain⟨i,e1,e2⟩:=LI e;exact⟨i,e1,e2,fun z=>by rw[F.own j z] at e1;cases e1⟩
 have put:∀ j i v,j ∉ js->src[j]?=some (some i)->σ[i]?=some (some v)->σ1[j]?=some (some v):=fun j i v hj e1 e2=>by
  rw[h0 j hj];exact LJ e1 e2
 obtain⟨g,hg,ap⟩:=S.mu;refine⟨S.same,fun j u e k=>?_,⟨fun j=>g (((src[j]?).join).getD 0),fun j u e k hm=>?_,fun j j' c d u u' us ws hne e e' k k' hm hm'=>?_⟩,S.ex,S.mB,by rw[hl];exact Nat.le_of_eq F.lf⟩
 ·obtain⟨i,e1,e2,hj⟩:=get j u e
  rw[F.cap j i e1] at k ⊢;obtain⟨v,e3,r3⟩:=S.slot i u e2 k;exact⟨v,put j i v hj e1 e3,r3⟩
 ·obtain⟨i,e1,e2,hj⟩:=get j u e
  rw[F.cap j i e1] at k;obtain⟨v,e4,e5,e6⟩:=hg i u e2 k hm;simp only[show ((src[j]?).join).getD 0=i by rw[e1];rfl];refine⟨v,put j i _ hj e1 e4,e5,fun c us h=>?_⟩;obtain⟨xs,q1,q2,q3⟩:=e6 c us h;rcases F.lcs with lk | lk
  ·exact⟨xs,q1,q2.weak fun b x=>x.le lk,q3⟩
  ·exact absurd ((F.cap j i e1).trans k) (lk j)
 ·obtain⟨i,e1,e2,hj⟩:=get j u e
  obtain⟨i',e1',e2',hj'⟩:=get j' u' e';rw[F.cap j i e1] at k;rw[F.cap j' i' e1'] at k';have hii:j≠j'->i≠i':=fun hjj z=>by
   subst z;have q1:=F.xN j i e1;have q2:=F.xN j' i e1';have:N'[j]?=N'[j']?:=q1.1.trans q2.1.symm;rw[aHc q1.2,aHc q2.2] at this;exact hjj ((List.getElem_inj F.nd).mp (aHa this))
  simp only[show ((src[j]?).join).getD 0=i by rw[e1];rfl,show ((src[j']?).join).getD 0=i' by rw[e1'];rfl];exact ap i i' c d u u' us ws (hne.imp hii id) e2 e2' k k' hm hm'
end
def OS (K:PySem.W.Frag) (H₁:Hp) (J:It) (ps:List (T × V)) (ts:List T) (sc:Bool):Prop:=
 ∀ (H:Hp) (A:Addr->Prop),aP H₁ H->(∀ p∈ps,Rep K H A p.1 p.2)->∀ i:Nat,(∀ t,ts[i]?=some t->J.go i H/\∀ x H',J.yld i H x H'->aP H H'/\Rep K H' (Am sc A H) t x)/\(ts.length<=i->J.stop i H)
def yL (K:PySem.W.Frag) (B:Hp) (fl:List Nat) (f:Rho->Option (List T)) (l:Nat) (sc:Bool):TI:=fun σ H R=>
 ∃ Ex ρ M ts,Sl K B fl Ex σ ρ M H/\f ρ=some ts/\∀ J H' ps,aP H H'->(∀ p∈ps,Rep K H' (Ad B H M l) p.1 p.2)->OS K H' J ps ts sc->R J H'
def GIc (X:Cx) (B:Hp) (fl:List Nat) (tg e:Expr) (f:Rho->Option (List T)) (l:Nat) (sc:Bool):Prop:=PI X tg e (yL X.K B fl f l sc)
theorem GI.c {X:Cx}{B:Hp}{fl:List Nat}{tg e:Expr}{f:Rho->Option (List T)}{l:Nat}{sc:Bool}(h:GI X B fl tg e f l sc):GIc X B fl tg e f l sc:=
 sQ h fun _ _ _ ⟨Ex,ρ,M,ts,S,hf,q⟩=>⟨Ex,ρ,M,ts,S,hf,fun J H' ps s r w=>q J H' ps s r fun H2 A _ hA=>w H2 A hA⟩
section
variable {X:Cx}{B:Hp}{fl fl':List Nat}{elt iter:Expr}{elts:List Expr}{ifs:List Expr}{scope:Scope}{pos p2:Pos}{N':List Str}{src:List (Option Nat)}{fi:Rho->Option (List T)}{p:Rho->Option Bool}{f:Rho->Option T}{n sc:Bool}{l li k m:Nat}{js:List Nat}
theorem EH (F:FlT X N' src fl fl' li sc js) (hl1':1<=l) (hm:js.length=m) {σ:St}{H:Hp}{Q:VK}(h:tG X.K B fl (hV js fi src p f) true l σ H Q):
  vC (yL X.K B fl fi li sc) (cO src) (mO X.K m (gNs js)) (tGT X.K B fl' p) (tG X.K B fl' f n l) σ H Q:=by
 obtain⟨Ex,ρ,M,t,S,hf,q⟩:=h;obtain⟨ts,hts,hf⟩:=bind_some hf;obtain⟨fin,hfin,hf⟩:=bind_some hf;split at hf
 rotate_left
 ·cases hf
 rename_i hcap;cases (aHa hf);refine⟨Ex,ρ,M,ts,S,hts,fun J H1 ps s01 rp wk=>?_⟩;intro D hD;refine⟨fun i m σ1 H2=>m=ts.length-i/\i<=ts.length/\aP H1 H2/\σ1.length=src.length/\(∀ j,j ∉ js->σ1[j]?=(cO src σ)[j]?) /\
  ∃ us rest xs,us++rest=fin/\cG js p f (bV src ρ) (ts.drop i)=some rest/\H2 D=some (.lst xs)/\RepL X.K H2 (fun b=>Ad B H M l b/\b≠D) us xs,?_,?_⟩
 ·refine⟨ts.length,by simp,aJx _,cX hD _,by unfold cO;simp,fun _ _=>rfl,[],fin,[],rfl,by simpa using hfin,cP,rfl⟩
 ·rintro i m' σ1 H2 ⟨rfl,hi,s12,hl1,hσ,us,rest,xs,e1,e2,e3,e4⟩
  have hD2:H2 D≠none:=by rw[e3];simp
  have S2:=(S.grow s01).more hD s12 hD2;have rp1:∀ pv∈ps,Rep X.K H1 (fun b=>Ad B H M li b/\b≠D) pv.1 pv.2:=fun pv hpv=>Rep.keep (fun _ _ e=>e) (fun _ _ _ e=>e) (fun b x y=>⟨x,fun z=>y (z ▸ hD)⟩) pv.1 (rp pv hpv);have w:=wk H2 _ s12 (fun pv hpv=>(rp1 pv hpv).grow s12) i
  by_cases hlt:i<ts.length
  ·refine .inr ?_
   have et:ts[i]?=some ts[i]:=aHc hlt;obtain⟨go,yl⟩:=w.1 _ et;refine⟨go,fun x H3 hy=>?_⟩;obtain⟨s23,rx⟩:=yl x H3 hy;rw[List.drop_eq_getElem_cons hlt] at e2;obtain⟨ws,ρ1,b,ew,hset,hb,hcase⟩:=QP e2;have S3:=S2.grow s23;have rx':Rep X.K H3 (Ad B H3 (D::M) (if sc then 2 else min li 2)) ts[i] x:=rx.weak fun c hc=>by
    obtain⟨h0,hc⟩:=hc;rw[if_neg (by rw[h0];simp)];rcases hc with hc | hc
    ·refine⟨fun z w=>?_,fun z=>hc.1.2.1 (by omega),fun z=>by omega⟩
     rcases aHm.mp w with rfl | w
     ·exact hc.2 rfl
     ·exact hc.1.1 (by omega) w
    ·exact⟨fun _ z=>(S2.mB c z).2 hc,fun _=>S2.same.free hc,fun z=>by omega⟩
   rw[ew] at rx';obtain⟨a,vs,rfl,hsq,rl⟩:=JW rx';have hlen:vs.length=js.length:=by rw[<- rl.length];exact CI js ws _ _ hset
   have hjs:∀ j∈js,j<fl'.length/\1<=fl'.getD j 1/\min (fl'.getD j 1) 2<=(if sc then 2 else min li 2):=fun j hj=>by
    refine⟨by rw[F.lf];exact (aHf.mp (F.own j hj)).1,F.pos j hj,?_⟩;cases hsc:sc with
    | true=>simp only[if_true];omega
    | false=>
     have:=F.le hsc j hj;simp only[aHq,if_false];omega
   have Sb:=(Sl.block0 (σ1:=σ1) F S3 hσ hl1).setL js ws vs hjs rl hset;refine⟨a,vs,rfl,hsq,by rw[hlen,hm],hlen,?_⟩;show tGT X.K B fl' p (gZ σ1 js vs) H3 _;refine⟨Ex,_,D::M,b,Sb,hb,fun H5 s35=>?_⟩;have hσ':∀ j,j ∉ js->(gZ σ1 js vs)[j]?=(cO src σ)[j]?:=fun j hj=>by rw[KO js vs σ1 j hj];exact hσ j hj
   have hl1'':(gZ σ1 js vs).length=src.length:=by rw[KP];exact hl1
   rcases hcase with ⟨rfl,y,r,hy',hr,rfl⟩ | ⟨rfl,hr⟩
   ·refine jD ⟨Ex,_,D::M,y,Sb.grow s35,hy',fun v H6 s56 rv=>?_⟩
    have s26:=(s23.trans s35).trans s56;have e5:=s26 _ _ e3;have hl:xs.length<sizeLine:=by
     rw[<- e4.length];refine gJ (aJg ?_ hcap);rw[<- e1];simp
    refine⟨xs,e5,hl,ts.length-(i+1),by omega,rfl,hlt,?_,hl1'',hσ',us++[y],r,xs++[v],by rw[<- e1];simp,hr,cP,?_⟩
    ·intro c o hc
     have:c≠D:=fun z=>by rw[z,hD] at hc;cases hc
     rw[aR this];exact (s12.trans s26) c o hc
    ·have k1:RepL X.K H6 (fun b=>Ad B H M l b/\b≠D) us xs:=e4.grow s26
     have k2:Rep X.K H6 (fun b=>Ad B H M l b/\b≠D) y v:=by
      have z:=rv.rep (Sb.grow s35);exact z.weak fun c hc=>⟨⟨fun k w=>hc.1 k (aHd _ w),hc.2.1,fun k=>((s01.trans s12).trans (s23.trans s35)).free (hc.2.2 k)⟩,fun w=>hc.1 hl1' (by rw[w];exact aHe)⟩
     exact (RepL.app k1 (RepL.one k2)).keep (fun c _ e=>gU e5 e) (fun c o hc e=>by rw[aR hc.2];exact e) (fun c hc _=>hc) _
   ·refine jC ⟨ts.length-(i+1),by omega,rfl,hlt,(s12.trans s23).trans s35,hl1'',hσ',us,rest,xs,e1,hr,(s23.trans s35) _ _ e3,e4.grow (s23.trans s35)⟩
  ·have ei:i=ts.length:=by omega
   subst ei;refine .inl ⟨w.2 (aJf _),?_⟩;rw[List.drop_eq_nil_of_le (aJf _)] at e2;cases (aHa (show some []=some rest from e2));rw[aI8] at e1;subst e1;exact q _ H2 (s01.trans s12) ⟨D,xs,rfl,s01.free hD,e3,e4⟩
theorem zW (S:BlkOk X scope N' src) (F:FlT X N' src fl fl' li sc js) (hl1:1<=l) (hc:X.calm=true) (hi:GI X B fl (.Tuple elts k p2) iter fi li sc)
  (hg:∀ cl C s H ex,PG (cxB X scope N' cl C s H ex) (.Tuple elts k p2) (mO X.K m (gNs js))) (hm:js.length=m)
  (hb:∀ cl C s H ex,GIf (cxB X scope N' cl C s H ex) B fl' ifs p/\GE (cxB X scope N' cl C s H ex) B fl' elt f n l)
  (hs:∀ x,foldedSetIterable iter X.env x=pure x:=by intro _;rfl):GE X B fl (.ListComp elt [⟨.Tuple elts k p2,iter,ifs,0⟩] scope pos) (hV js fi src p f) true l:=
 bB (IW (wi:=yL X.K B fl fi li sc) (g:=mO X.K m (gNs js)) (tc:=tGT X.K B fl' p) (te:=tG X.K B fl' f n l) S hc hi.c (fun cl C s H ex=>⟨hg cl C s H ex,(hb cl C s H ex).1,(hb cl C s H ex).2⟩) hs) fun σ H Q h=>EH F hl1 hm h
theorem UV (i:Nat) {x:Str}{pos' spos:Pos}{l':Nat}{n':Bool}{N0:Bool}{L0:Nat}(S:BlkOk X scope N' src) (F:FlT X N' src fl fl' li sc js) (hc:X.calm=true) (hi:GI X B fl (.Tuple elts k p2) iter fi li sc)
  (hg:∀ cl C s H ex,PG (cxB X scope N' cl C s H ex) (.Tuple elts k p2) (mO X.K m (gNs js))) (hm:js.length=m)
  (hb:∀ cl C s H ex,GIf (cxB X scope N' cl C s H ex) B fl' ifs p/\GE (cxB X scope N' cl C s H ex) B fl' elt f n' l') (hN:X.N.Nodup) (hiN:X.N[i]?=some x) (hx:Loc X.env.scope x) (hfl:(decide (i<fl.length)&&decide (1<=fl.getD i 1)&&decide (fl.getD i 1<=l')&&decide (1<=l'))=true)
  (hsw:swapsWith (.ListComp elt [⟨.Tuple elts k p2,iter,ifs,0⟩] scope pos) (some (.Name x pos')) spos.line X.env=pure true:=by rfl)
  (hs:∀ x,foldedSetIterable iter X.env x=pure x:=by intro _;rfl) (hf:X.fn x=true\/X.env.scope.names.lookup x=some .local:=by first | exact .inl rfl | exact .inr rfl | assumption):
  GS X B fl N0 L0 (.Assign [.Name x pos'] (.ListComp elt [⟨.Tuple elts k p2,iter,ifs,0⟩] scope pos) spos) (aN i (hV js fi src p f)):=by
 refine eK (JG (wi:=yL X.K B fl fi li sc) (g:=mO X.K m (gNs js)) (tc:=tGT X.K B fl' p) (te:=tG X.K B fl' f n' l') hN hiN hx S hc hi.c (fun cl C s H ex=>⟨hg cl C s H ex,(hb cl C s H ex).1,(hb cl C s H ex).2⟩) hsw hs hf) ?_;rintro D σ H ⟨Ex,ρ,M,o,S,hr,q⟩;simp only[aHn,decide_eq_true_eq] at hfl;unfold aN at hr;cases e1:hV js fi src p f ρ with
 | none=>rw[e1] at hr;cases hr
 | some t=>
  rw[e1] at hr;cases (aHa hr);refine EH F hfl.2 hm ⟨Ex,ρ,M,t,S,e1,fun v H1 s1 rx=>q _ M H1 ((S.grow s1).set hfl.1.1.1 (.inl hfl.1.1.2) ?_)⟩;exact (rx.rep S).weak fun b x=>⟨fun z=>x.1 (by omega),fun z=>x.2.1 (by omega),fun z=>by omega⟩
end
theorem pgT {X:Cx}{elts:List Expr}{k m:Nat}{p2:Pos}{js:List Nat}(hc:X.calm=true) (h:PGs X elts (gNs js)) (hn:(assignEach elts X.env).length=m:=by rfl) (hst:(assignEach elts X.env).findIdx? (·.1)=none:=by rfl):PG X (.Tuple elts k p2) (mO X.K m (gNs js)):=JA hc h hn hst
def VU:Expr->Option Int
 | .Constant (.int i) _ _=>some i
 | _=>none
def wE:List Expr->Option (List Int)
 | []=>some []
 | e::es=>(VU e).bind fun i=>(wE es).map (i :: ·)
theorem FJ {X:Cx}{B:Hp}{fl:List Nat}:∀ (es:List Expr) (ns:List Int),wE es=some ns->GA X B fl es (fun _=>some (tI ns)) 3
 | [],ns,h=>by
  cases (aHa h);exact aG
 | e::es,ns,h=>by
  obtain⟨i,h1,h⟩:=bind_some h;cases h2:wE es with
  | none=>rw[h2] at h;cases h
  | some ms=>
   rw[h2] at h;cases (aHa h);have ih:=FJ (X:=X) (B:=B) (fl:=fl) es ms h2;cases e<;>first | (cases h1;done) | skip
   rename_i c j pos;cases c<;>first | (cases h1;done) | skip
   cases (aHa h1);have:=aD (X:=X) (B:=B) (fl:=fl) (aE (i:=i) (j:=j) (pos:=pos)) ih (by rfl);exact this
theorem zX {X:Cx}{B:Hp}{fl:List Nat}{es:List Expr}{pos:Pos}{ns:List Int}(h:wE es=some ns) (hl:decide (ns.length<=cap)=true):GE X B fl (.List es pos) (fC (.lst (tI ns))) true 3:=by
 refine bB (eX (B:=B) (fl:=fl) (FJ es ns h)) ?_;rintro σ H Q ⟨Ex,ρ,M,t,S,hf,q⟩;refine⟨Ex,ρ,M,t,S,?_,q⟩;cases (aHa hf);show (if (tI ns).length<=cap then some (T.lst (tI ns)) else none)=_;rw[if_pos (by rw[tI_length];exact of_decide_eq_true hl)]
@[simp] theorem setL_nil (ρ:Rho):setL ρ [] []=some ρ:=rfl
@[simp] theorem setL_cons (ρ:Rho) (j:Nat) (js:List Nat) (t:T) (ts:List T):setL ρ (j::js) (t::ts)=setL (ρ.set j (some t)) js ts:=rfl
theorem QL {f:Rho->Option T}{ρ:Rho}{ns:List Int}(h:Nat->Int) (h2:∀ i,i<ns.length->f ((ρ.set 0 (some (.int (i:Int)))).set 1 (some (.int (ns.getD i 0))))=some (.int (h i))):
  cG [0,1] bJ f ρ (cS 0 (tI ns))=some (tI ((List.range ns.length).map h)):=by
 have key:∀ (ms:List Int) (n:Nat),(∀ i,i<ms.length->f ((ρ.set 0 (some (.int ((n+i:Nat):Int)))).set 1 (some (.int (ms.getD i 0))))=some (.int (h (n+i))))->cG [0,1] bJ f ρ (cS n (tI ms))=some (tI ((List.range' n ms.length).map h)):=by
  intro ms
  induction ms with
  | nil=>intro n _;rfl
  | cons m ms ih=>
   intro n hh;have e0:=hh 0 (by simp);have ih':=ih (n+1) (fun i hi=>by
    have:=hh (i+1) (by simpa using hi);rw[show n+1+i=n+(i+1) by lia]
    simpa using this)
   rw[Nat.add_zero] at e0;show (setL ρ [0,1] [.int (n:Int),.int m]).bind _=_;simp only[setL_cons,setL_nil,aK0,bJ,if_true];rw[show f ((ρ.set 0 (some (.int (n:Int)))).set 1 (some (.int m)))=some (.int (h n)) from e0];show ((cG [0,1] bJ f ρ (cS (n+1) (tI ms))).map (T.int (h n) :: ·))=_;rw[ih']
   rfl
 have:=key ns 0 (fun i hi=>by rw[aJw];exact h2 i hi)
 rwa [<- List.range_eq_range'] at this
theorem zT {j:Nat}{body:Rho->Option Out}(I:Rho->Prop) (c:T->Option T):∀ ts:List T,(∀ t∈ts,∀ ρ,I ρ->(c t=none/\∃ ρ',body (ρ.set j (some t))=some (.nx ρ')/\I ρ')\/(∃ r,c t=some r/\body (ρ.set j (some t))=some (.rt r)))->∀ ρ,I ρ ->
  (ts.findSome? c=none/\∃ ρ',bR j body ts ρ=some (.nx ρ')/\I ρ')\/(∃ r,ts.findSome? c=some r/\bR j body ts ρ=some (.rt r))
 | [],_,ρ,h=>.inl ⟨rfl,ρ,rfl,h⟩
 | t::ts,hb,ρ,h=>by
  rw[vS];rcases hb t aHe ρ h with ⟨h1,ρ',h2,h3⟩ | ⟨r,h1,h2⟩
  ·rw[h2]
   simp only[aK0,aIe,h1];exact zT I c ts (fun u hu=>hb u (aHd _ hu)) ρ' h3
  ·rw[h2]
   simp only[aK0,aIe,h1];exact .inr ⟨r,rfl,rfl⟩
theorem FD {js:List Nat}{body:Rho->Option Out}(I:Rho->Prop) (c:T->Option T):∀ ts:List T,(∀ t∈ts,∀ ρ,I ρ->∃ us ρ1,t=.tup us/\setL ρ js us=some ρ1/\((c t=none/\∃ ρ',body ρ1=some (.nx ρ')/\I ρ')\/(∃ r,c t=some r/\body ρ1=some (.rt r))))->∀ ρ,I ρ ->
  (ts.findSome? c=none/\∃ ρ',eA js body ts ρ=some (.nx ρ')/\I ρ')\/(∃ r,ts.findSome? c=some r/\eA js body ts ρ=some (.rt r))
 | [],_,ρ,h=>.inl ⟨rfl,ρ,rfl,h⟩
 | t::ts,hb,ρ,h=>by
  obtain⟨us,ρ1,rfl,hs,hc⟩:=hb t aHe ρ h;have e:eA js body (.tup us::ts) ρ=(body ρ1).bind fun o=>match o with | .nx ρ'=>eA js body ts ρ' | .ct ρ'=>eA js body ts ρ' | .bk ρ'=>some (.nx ρ') | .rt t=>some (.rt t):=by
   show (setL ρ js us).bind _=_;rw[hs];rfl
  rw[e];rcases hc with ⟨h1,ρ',h2,h3⟩ | ⟨r,h1,h2⟩
  ·rw[h2]
   simp only[aK0,aIe,h1];exact FD I c ts (fun u hu=>hb u (aHd _ hu)) ρ' h3
  ·rw[h2]
   simp only[aK0,aIe,h1];exact .inr ⟨r,rfl,rfl⟩
theorem zL (ns:List Int):cS 0 (tI ns)=(List.range ns.length).map fun p=>.tup [.int (p:Int),.int (ns.getD p 0)]:=by
 apply List.ext_getElem?
 intro i;rw[zK,KW,aIl,aJw]
 by_cases h:i<ns.length
 ·rw[List.getElem?_range h,aHc h]
  simp[aHb,h]
 ·rw[List.getElem?_eq_none (Nat.le_of_not_lt h),List.getElem?_eq_none (by simpa using h)];rfl
theorem EW {α β:Type}(q:α->Bool) (g:α->β):∀ l:List α,l.findSome? (fun x=>if q x then some (g x) else none)=(l.find? q).map g
 | []=>rfl
 | a::l=>by
  rw[aIe,List.find?_cons];cases q a with
  | true=>rfl
  | false=>exact EW q g l
theorem vO {α β:Type}{f g:α->Option β}:∀ {l:List α},(∀ x∈l,f x=g x)->l.findSome? f=l.findSome? g
 | [],_=>rfl
 | a::l,h=>by
  rw[aIe,aIe,h a aHe,vO fun x hx=>h x (aHd _ hx)]
def bZ:List Int->Int
 | []=>0
 | x::r=>r.foldl (fun a b=>if b<a then b else a) x
theorem DO (c:Int->Int->Bool) (ns:List Int):∀ k,k<ns.length ->
  ns.getD (argBest (fun i j=>c (ns.getD i 0) (ns.getD j 0)) k) 0=((ns.take (k+1)).drop 1).foldl (fun a b=>if c b a then b else a) (ns.getD 0 0)
 | 0,h=>by
  cases ns with
  | nil=>simp at h
  | cons x r=>simp[argBest]
 | k+1,h=>by
  have ih:=DO c ns k (by lia);have e:(ns.take (k+1+1)).drop 1=(ns.take (k+1)).drop 1++[ns.getD (k+1) 0]:=by
   rw[List.take_succ,List.drop_append_of_le_length (by rw[aIw];lia)];simp[aHb,h]
  rw[e,List.foldl_append,<- ih];rw[argBest];cases hb:c (ns.getD (k+1) 0) (ns.getD (argBest (fun i j=>c (ns.getD i 0) (ns.getD j 0)) k) 0) with
  | true=>simp only[List.foldl_cons,List.foldl_nil,hb,if_true]
  | false=>simp only[List.foldl_cons,List.foldl_nil,hb,aHq,if_false]
theorem OW {ns:List Int}(h:0<ns.length):ns.getD (argBest (fun i j=>decide (ns.getD i 0<ns.getD j 0)) (ns.length-1)) 0=bZ ns:=by
 have:=DO (fun a b=>decide (a<b)) ns (ns.length-1) (by lia);rw[this];cases ns with
 | nil=>simp at h
 | cons x r=>simp[bZ]
theorem vQ:∀ (r:List Int) (x:Int),r.foldl (fun a b=>if b<a then b else a) x<=x/\(∀ y∈r,r.foldl (fun a b=>if b<a then b else a) x<=y)/\(r.foldl (fun a b=>if b<a then b else a) x=x\/r.foldl (fun a b=>if b<a then b else a) x∈r)
 | [],x=>⟨Int.le_refl _,by simp,.inl rfl⟩
 | z::r,x=>by
  rw[List.foldl_cons];obtain⟨h1,h2,h3⟩:=vQ r (if z<x then z else x);have hw:(if z<x then z else x)=z/\z<x\/(if z<x then z else x)=x/\¬ z<x:=by
   by_cases h:z<x
   ·exact .inl ⟨if_pos h,h⟩
   ·exact .inr ⟨if_neg h,h⟩
  generalize (if z<x then z else x)=w at h1 h2 h3 hw;refine⟨by lia,fun y hy=>?_,?_⟩
  ·rcases aHm.mp hy with rfl | hy
   ·lia
   ·exact h2 y hy
  ·rcases h3 with h3 | h3
   ·rw[h3]
    rcases hw with hw | hw
    ·rw[hw.1];exact .inr aHe
    ·exact .inl hw.1
   ·exact .inr (aHd _ h3)
theorem AV {ns:List Int}(h:ns≠[]):bZ ns∈ns:=by
 cases ns with
 | nil=>exact absurd rfl h
 | cons x r=>
  rcases (vQ r x).2.2 with e | e
  ·rw[bZ,e];exact aHe
  ·exact aHd _ e
theorem AU {ns:List Int}{y:Int}(h:y∈ns):bZ ns<=y:=by
 cases ns with
 | nil=>cases h
 | cons x r=>
  rcases aHm.mp h with rfl | h
  ·exact (vQ r _).1
  ·exact (vQ r x).2.1 y h
def wR:List T->Option T
 | [.lst ts]=>(dP ts).bind fun ns=>if ns=[] then none else some (.int (bZ ns))
 | _=>none
theorem YI {ns:List Int}(h:ns≠[]):wR [.lst (tI ns)]=some (.int (bZ ns)):=by simp[wR,rF,h]
section
variable {X:Cx}{B:Hp}{fl:List Nat}{e:Expr}{es:List Expr}{f:Rho->Option T}{fa:Rho->Option (List T)}{n n':Bool}{l l' k:Nat}{pos p' p2:Pos}{x:Str}{ps:List Str}{F:List T->Option T}
theorem PV (hc:X.calm=true):fI X (.builtin "min") (fun xs H Q=>∃ (a:Addr) (ns:List Int),xs=[.ref a]/\ns≠[]/\SqL X.K H a (ns.map V.int)/\Q (.int (bZ ns)) H):=by
 intro pins s σ H xs us Q I r h;obtain⟨a,ns,rfl,hne,hS,q⟩:=h;obtain⟨u,rfl,ru⟩:=vF r;cases ru;obtain⟨its,rv,p,hz⟩:=I.list hS;have hl:=rv.length;have ha:a<s.heap.objs.size:=by obtain⟨o,n,e,_⟩:=p;exact aHv e
 have es:its.toArray.size=ns.length:=by simp only[aHj];rw[<- hl];simp
 have hpos:0<ns.length:=List.length_pos_iff.mpr hne;have val:∀ i v,its.toArray[i]?=some v->∃ t,v=Value.int (ns.getD i 0) t:=fun i v hv=>by
  have hv':its[i]?=some v:=by simpa using hv
  have hi:i<its.length:=(aHf.mp hv').1;have hin:i<ns.length:=by rw[aIr] at hl;lia
  have e1:(ns.map V.int)[i]?=some (V.int (ns.getD i 0)):=by
   rw[aIl,aHc hin];simp[aHb,hin]
  obtain⟨u,e2,ru⟩:=rv.get e1;rw[hv'] at e2;cases (aHa e2);exact ru
 refine call_min_walkS (wpAny_pyIter_list p.isList ?_);refine⟨s.heap.objs.size,[s.heap.objs.size,a],[s.heap.objs.size],_,its.toArray.size,_,_,_,rfl,(Walks.list (A:=X.A.in1) (I.ok.hd hc) s.heap.objs.size a (aJo ha) its.toArray).toS,⟨⟨_,aHu _ rfl,rfl,rfl⟩,p.isList.push _⟩,fun b hb=>?_,by lia,CmpOf.ints_lt (fun i=>ns.getD i 0) val,fun v s' hP mv=>?_⟩
 ·simp only[aHm,List.mem_nil_iff,or_false] at hb
  rw[aHw];rcases hb with rfl | rfl
  ·exact aJk _
  ·exact Nat.lt_succ_of_lt ha
 ·obtain⟨t,rfl⟩:=val _ _ hP
  rw[es,OW hpos];exact⟨.int (bZ ns),H,HJ I _ mv,⟨_,rfl⟩,q⟩
theorem UA (hx:x = "min") (hc:X.calm=true) (hg:Gl X x) (hm:X.mg x=none) (ha:GA X B fl (e::es) fa l)
  (he:starEach (e::es) X.env=(false,eval e X.env)::starEach es X.env:=by rfl) (hpl:(backTo pos (starEach es X.env)).any (·.1)=false:=by rfl):GE X B fl (.Call (.Name x p') (e::es) [] pos) (aJ fa wR) true 3:=by
 subst hx;refine bB (jZ (PV hc) hg hm PyProof.Rows.boot_min ha (by decide) (by decide) he hpl) ?_;rintro σ H Q ⟨Ex,ρ,M,t,S,hf,q⟩;obtain⟨ts,hts,hf⟩:=bind_some hf;refine⟨Ex,ρ,M,ts,S,hts,fun vs H1 s1 r1=>?_⟩
 match ts,hf with
 | [.lst us],hf=>
  obtain⟨ns,ea,hg⟩:=bind_some (show ((dP us).bind fun ns=>if ns=[] then none else some (T.int (bZ ns)))=some t from hf);cases rE ea
  by_cases hne:ns=[]
  ·rw[if_pos hne] at hg;cases hg
  ·rw[if_neg hne] at hg
   cases (aHa hg);obtain⟨y,rfl,ry⟩:=eM r1;obtain⟨p,xs,rfl,h1,h2⟩:=ry.sqL;cases sS h2;exact⟨p,ns,rfl,hne,h1,q _ H1 s1 ((aO.scal rfl).mpr rfl)⟩
variable {a b:Expr}{g:Rho->Option T}
def cD (p:Rho->Option Bool) (r:Rho->Option Out):Nat->Rho->Option Out
 | 0,_=>none
 | k+1,ρ=>(p ρ).bind fun b=>if b then (r ρ).bind fun o=>match o with | .nx ρ'=>cD p r k ρ' | .ct ρ'=>cD p r k ρ' | .bk ρ'=>some (.nx ρ') | .rt t=>some (.rt t) else some (.nx ρ)
def mX (p:Rho->Option Bool) (r:Rho->Option Out):Rho->Option Out:=cD p r 100000
theorem AE {c:Expr}{body:List Stmt}{p:Rho->Option Bool}{r:Rho->Option Out}(hp:PassesOwn (model X.prog X.w) X.A X.env X.xe) (hc:GT X B fl c p) (hb:GSs X B fl n l body r):GS X B fl n l (.While c body [] pos) (mX p r):=by
 refine eK (aBp hp hc hb) ?_;rintro D σ H ⟨Ex,ρ,M,o,S,hr,q⟩;refine⟨fun m σ1 H1=>∃ ρ1 M1,Sl X.K B fl Ex σ1 ρ1 M1 H1/\cD p r m ρ1=some o,⟨_,ρ,M,S,hr⟩,?_⟩;rintro m σ1 H1 ⟨ρ1,M1,S1,e1⟩;cases m with
 | zero=>cases e1
 | succ m=>
  obtain⟨b,hb,e1⟩:=bind_some (show ((p ρ1).bind fun b=>if b then (r ρ1).bind fun o=>match o with | .nx ρ'=>cD p r m ρ' | .ct ρ'=>cD p r m ρ' | .bk ρ'=>some (.nx ρ') | .rt t=>some (.rt t) else some (.nx ρ1))=some o from e1)
  refine⟨Ex,ρ1,M1,b,S1,hb,fun H2 s2=>?_⟩;cases b with
  | false=>
   cases (aHa (show some (Out.nx ρ1)=some o from e1));exact jC (q σ1 M1 H2 (S1.grow s2))
  | true=>
   obtain⟨o1,h1,e1⟩:=bind_some (show ((r ρ1).bind fun o=>match o with | .nx ρ'=>cD p r m ρ' | .ct ρ'=>cD p r m ρ' | .bk ρ'=>some (.nx ρ') | .rt t=>some (.rt t))=some o from e1)
   refine jD ⟨fun σ' H'=>∃ ρ1 M1,Sl X.K B fl Ex σ' ρ1 M1 H'/\cD p r m ρ1=some o,fun σ' H' h=>⟨m,aJk m,h⟩,Ex,ρ1,M1,o1,S1.grow s2,h1,?_⟩;cases o1 with
   | nx ρ'=>exact fun σ' M' H' S'=>⟨ρ',M',S',e1⟩
   | ct ρ'=>exact fun σ' M' H' S'=>⟨ρ',M',S',e1⟩
   | bk ρ'=>cases (aHa e1);exact fun σ' M' H' S'=>q σ' M' H' S'
   | rt t=>cases (aHa e1);exact q
end
@[simp] theorem rWhile_at (p:Rho->Option Bool) (r:Rho->Option Out) (ρ:Rho):mX p r ρ=cD p r 100000 ρ:=id rfl
theorem DU (g k:Nat):(g / 2^k%2 == 1)=g.testBit k:=by
 rw[Nat.testBit_eq_decide_div_mod_eq];rw[aHp];simp
theorem AQ {g n k:Nat}(h:g<2^n) (hk:n<=k):g.testBit k=false:=Nat.testBit_lt_two_pow (aHi h (aJq (by decide) hk))
theorem dB {a b:Nat}(h:∀ i,a.testBit i=b.testBit i):a=b:=Nat.eq_of_testBit_eq h
theorem OV (a b p:Nat):(a&&&b)&&&p=(a&&&p)&&&(b&&&p):=dB fun i=>by
 simp only[aJt];cases a.testBit i<;>cases b.testBit i<;>cases p.testBit i<;>rfl
theorem or3 (a b p:Nat):(a|||b)&&&p=(a&&&p)|||(b&&&p):=dB fun i=>by
 simp only[aJt,aJu];cases a.testBit i<;>cases b.testBit i<;>cases p.testBit i<;>rfl
def gvS (row:List Int):List Nat->Nat->Int
 | [],_=>0
 | k::ks,g=>(if g.testBit k then row.getD k 0 else 0)+gvS row ks g
def gv (row:List Int) (g:Nat):Int:=gvS row (List.range row.length) g
theorem GV (row:List Int) (g:Nat):∀ ks:List Nat,((ks.filter fun k=>g / 2^k%2 == 1).map fun k=>row.getD k 0).sum=gvS row ks g
 | []=>rfl
 | k::ks=>by
  have ih:=GV row g ks;rw[aId,gvS,<- ih,DU];cases g.testBit k<;>simp
theorem GY (row:List Int) (a b:Nat):∀ ks:List Nat,gvS row ks (a|||b)+gvS row ks (a&&&b)=gvS row ks a+gvS row ks b
 | []=>rfl
 | k::ks=>by
  have ih:=GY row a b ks;simp only[gvS,aJu,aJt];generalize row.getD k 0=x;cases a.testBit k<;>cases b.testBit k<;>simp<;>lia
theorem rV (row:List Int) (a b:Nat):gv row (a|||b)+gv row (a&&&b)=gv row a+gv row b:=GY row a b _
theorem HA (row:List Int):∀ ks:List Nat,gvS row ks 0=0
 | []=>rfl
 | k::ks=>by
  rw[gvS,HA row ks,aJy];rfl
theorem jT (row:List Int):gv row 0=0:=HA row _
theorem EJ {n a:Nat}(h:a<2^n) (k:Nat):(2^n-1-a).testBit k=(decide (k<n) && !a.testBit k):=by
 have e:2^n-1-a=2^n-(a+1):=by lia
 rw[e,Nat.testBit_two_pow_sub_succ h]
theorem vV (n k:Nat):(2^n-1).testBit k=decide (k<n):=Nat.testBit_two_pow_sub_one n k
theorem HC {row:List Int}{a:Nat}(h:a<2^row.length):gv row (2^row.length-1-a)+gv row a=gv row (2^row.length-1):=by
 have e1:a|||(2^row.length-1-a)=2^row.length-1:=dB fun k=>by
  rw[aJu,EJ h,vV]
  by_cases hk:k<row.length
  ·simp[hk]
  ·rw[AQ h (by lia)];simp[hk]
 have e2:a&&&(2^row.length-1-a)=0:=dB fun k=>by
  rw[aJt,EJ h,aJy];cases a.testBit k<;>simp
 have:=rV row a (2^row.length-1-a);rw[e1,e2,jT] at this;lia
def Sub (n:Nat) (t:List Int):Prop:=∀ a b,a<2^n->b<2^n->t.getD (a|||b) 0+t.getD (a&&&b) 0<=t.getD a 0+t.getD b 0
def aM (g:Nat):Nat:=g%2+g / 2%2+g / 4%2+g / 8%2+g / 16%2+g / 32%2
theorem PZ:((List.range 64).all fun a=>(List.range 64).all fun b=>(aM (a|||b)+aM (a&&&b) == aM a+aM b)&&decide (aM (a&&&b)<=aM a)&&decide (aM (a&&&b)<=aM b))=true:=by decide +kernel
theorem DX {a b:Nat}(ha:a<64) (hb:b<64):aM (a|||b)+aM (a&&&b)=aM a+aM b/\aM (a&&&b)<=aM a/\aM (a&&&b)<=aM b:=by
 have h:=aHg.mp (aHg.mp PZ a (aHh.mpr ha)) b (aHh.mpr hb);simp only[aHn,decide_eq_true_eq,beq_iff_eq] at h;exact⟨h.1.1,h.1.2,h.2⟩
def mn (a:Nat) (m:Int):Int:=if m<(a:Int) then m else (a:Int)
theorem XQ {a b p:Nat}{m:Int}(ha:a<64) (hb:b<64):mn (aM ((a|||b)&&&p)) m+mn (aM ((a&&&b)&&&p)) m<=mn (aM (a&&&p)) m+mn (aM (b&&&p)) m:=by
 rw[or3,OV];have h1:a&&&p<64:=aJi Nat.and_le_left ha;have h2:b&&&p<64:=aJi Nat.and_le_left hb;obtain⟨q1,q2,q3⟩:=DX h1 h2;unfold mn;generalize aM ((a&&&p)|||(b&&&p))=u at *;generalize aM ((a&&&p)&&&(b&&&p))=v at *;generalize aM (a&&&p)=s at *;generalize aM (b&&&p)=w at *
 split<;>split<;>split<;>split<;>lia
def sq (k:Nat):Nat:=aM k*aM k
theorem aD7:((List.range 64).all fun a=>(List.range 64).all fun b=>((a|||b == a)&&(a&&&b == b))||((a|||b == b)&&(a&&&b == a))||decide (sq a+sq b+2<=sq (a|||b)+sq (a&&&b)))=true:=by decide +kernel
theorem YB {n:Nat}(h6:n<=6) {wide:Int}(hw:0<wide) {t:List Int}(h:∀ k,k<2^n->∃ e:Int,0<=e/\e<wide/\t.getD k 0=e-wide*((sq k:Nat):Int)):Sub n t:=by
 have h64:2^n<=64:=aJg (aJq (by decide) h6) (by decide:2^6<=64);intro a b ha hb;have c:=aHg.mp (aHg.mp aD7 a (aHh.mpr (by lia))) b (aHh.mpr (by lia));simp only[aHt,aHn,beq_iff_eq,decide_eq_true_eq] at c;rcases c with (⟨e1,e2⟩ | ⟨e1,e2⟩) | c
 ·rw[e1,e2];lia
 ·rw[e1,e2];lia
 ·obtain⟨x1,p1,q1,r1⟩:=h _ (aJp ha hb)
  obtain⟨x2,p2,q2,r2⟩:=h _ (aJi (Nat.and_le_left (n:=a) (m:=b)) ha);obtain⟨x3,p3,q3,r3⟩:=h _ ha;obtain⟨x4,p4,q4,r4⟩:=h _ hb;rw[r1,r2,r3,r4];have m:=aI2 (show ((sq a:Nat):Int)+(sq b:Nat)+2<=(sq (a|||b):Nat)+(sq (a&&&b):Nat) by lia) (aHz hw);rw[aI1,aI1,aI1] at m;lia
theorem IK {x:T}(h:dep x<=60):oEq x x=some (.bl true):=by unfold oEq;rw[if_pos (by lia),EO]
theorem atI_last {ns:List Int}(h:0<ns.length):atI (tI ns) (-1)=some (.int (ns.getD (ns.length-1) 0)):=by
 unfold atI ixN;rw[if_neg (by lia),if_pos (by rw[tI_length];lia),aK0,KW,tI_length];have e:(-1+(ns.length:Int)).toNat=ns.length-1:=by lia
 rw[e,aHb,aHc (by lia)];rfl
@[simp] theorem oLen_tup (ts:List T):dE [.tup ts]=some (.int ts.length):=rfl
@[simp] theorem oList_tup (ts:List T):sH [.tup ts]=some (.lst ts):=rfl
def tP {α:Type} (tp:α->List T) (xs:List α):List T:=xs.map fun x=>.tup (tp x)
theorem zG {α:Type}{js:List Nat}{p:Rho->Option Bool}{f:Rho->Option T}{ρ:Rho}(tp:α->List T) (c:α->Bool) (h:α->T):∀ xs:List α,(∀ x∈xs,∃ ρ1,setL ρ js (tp x)=some ρ1/\p ρ1=some (c x)/\(c x=true->f ρ1=some (h x)))->cG js p f ρ (tP tp xs)=some ((xs.filter c).map h)
 | [],_=>rfl
 | x::xs,hx=>by
  have ih:=zG tp c h xs fun y hy=>hx y (aHd _ hy);obtain⟨ρ1,e1,e2,e3⟩:=hx x aHe;show (setL ρ js (tp x)).bind _=_;rw[e1,aK0,e2,aK0,aId];cases hc:c x with
  | true=>
   rw[if_pos rfl,if_pos rfl,e3 hc,aK0];show ((cG js p f ρ (tP tp xs)).map _)=_;rw[ih];rfl
  | false=>
   rw[if_neg (by decide),if_neg (by decide)];exact ih
theorem FE {α:Type}{js:List Nat}{body:Rho->Option Out}(tp:α->List T) (I:List α->Rho->Prop):∀ (xs ys:List α),(∀ x∈xs,∀ ys ρ,I ys ρ->∃ ρ1 ρ',setL ρ js (tp x)=some ρ1/\body ρ1=some (.nx ρ')/\I (ys++[x]) ρ')->∀ ρ,I ys ρ->∃ ρ',eA js body (tP tp xs) ρ=some (.nx ρ')/\I (ys++xs) ρ'
 | [],ys,_,ρ,h=>⟨ρ,rfl,by simpa using h⟩
 | x::xs,ys,hx,ρ,h=>by
  obtain⟨ρ1,ρ',e1,e2,h2⟩:=hx x aHe ys ρ h;obtain⟨ρ'',e3,h3⟩:=FE tp I xs (ys++[x]) (fun y hy=>hx y (aHd _ hy)) ρ' h2;refine⟨ρ'',?_,by simpa using h3⟩;show (setL ρ js (tp x)).bind _=_;rw[e1,aK0,e2];exact e3
theorem wI {m g:Nat}{f:Nat->Int}(h:g<m):((List.range m).map f).getD g 0=f g:=by
 simp[aHb,h]
where ite_le2 (c:Bool) {x:Int} (h:0<=x):(if c then x else 0)<=x:=by cases c<;>simp<;>lia
theorem aEz (g k:Nat):((2^k&&&g:Nat) == 2^k)=g.testBit k:=by
 rw[aHp,beq_iff_eq]
 constructor
 ·intro h
  have:=congrArg (fun x=>x.testBit k) h
  simpa [aJt,Nat.testBit_two_pow_self] using this
 ·intro h
  refine dB fun i=>?_;rw[aJt,aJv]
  by_cases hk:k=i
  ·subst hk;simp[h]
  ·simp[hk]
theorem AG (row:List Int) (g k:Nat):∀ ks:List Nat,gvS row (ks++[k]) g=gvS row ks g+if g.testBit k then row.getD k 0 else 0
 | []=>by simp[gvS]
 | j::ks=>by rw[List.cons_append,gvS,AG row g k ks,gvS];lia
theorem SM (ns:List Int):cS 0 (tI ns)=tP (fun p:Nat=>[T.int (p:Int),T.int (ns.getD p 0)]) (List.range ns.length):=zL ns
theorem zB (g i:Nat):((((g / 2^i%2:Nat):Int)) == 1)=g.testBit i:=by
 rw[<- DU];generalize g / 2^i=m;rw[aHp];simp;lia
theorem GZ {row:List Int}{h:Nat}{x:Int}(hh:h<row.length) (g:Nat):∀ ks:List Nat,ks.Nodup->gvS (row.set h x) ks g=gvS row ks g+(if h∈ks then (if g.testBit h then x-row.getD h 0 else 0) else 0)
 | [],_=>by simp[gvS]
 | k::ks,hn=>by
  have ih:=GZ (x:=x) hh g ks (aJb.mp hn).2;have hk:=(aJb.mp hn).1;rw[gvS,gvS,ih]
  by_cases e:k=h
  ·subst e
   rw[if_neg hk,if_pos aHe,aHb,aIn hh];simp only[Option.getD_some];cases g.testBit k<;>simp<;>lia
  ·have e':¬ h=k:=fun z=>e z.symm
   rw[aHb,aHk (fun z=>e z.symm),<- List.getD_eq_getElem?_getD];simp only[aHm,e',false_or];lia
theorem AH {row:List Int}{h:Nat}{x:Int}(hh:h<row.length) (g:Nat):gv (row.set h x) g=gv row g+if g.testBit h then x-row.getD h 0 else 0:=by
 unfold gv;rw[aIv,GZ hh g _ aJc,if_pos (aHh.mpr hh)]
def dN (t:List Int):List Nat->Nat->List Int->List Int
 | [],_,s=>s
 | h::r,a,s=>dN t r (a|||2^h) (s.set h (t.getD (a|||2^h) 0-t.getD a 0))
theorem CN (t:List Int):∀ (o:List Nat) (a:Nat) (s:List Int),(dN t o a s).length=s.length
 | [],_,_=>rfl
 | h::r,a,s=>by rw[dN,CN t r,aIv]
structure Tk (n:Nat) (t:List Int) (a:Nat) (s:List Int):Prop where
 len:s.length=n
 lt:a<2^n
 out:∀ h,a.testBit h=false->s.getD h 0=0
 full:gv s a=t.getD a 0
theorem HB {s:List Int}{a:Nat}(h0:∀ h,a.testBit h=false->s.getD h 0=0) (g:Nat):gv s g=gv s (g&&&a):=by
 unfold gv;have:∀ ks:List Nat,gvS s ks g=gvS s ks (g&&&a):=by
  intro ks
  induction ks with
  | nil=>rfl
  | cons k ks ih=>
   rw[gvS,gvS,ih,aJt];cases hb:a.testBit k with
   | true=>simp
   | false=>rw[h0 k hb];simp
 exact this _
theorem Tk.step {n:Nat}{t:List Int}{a:Nat}{s:List Int}(T:Tk n t a s) {h:Nat}(hh:h<n) (hb:a.testBit h=false):Tk n t (a|||2^h) (s.set h (t.getD (a|||2^h) 0-t.getD a 0)):=by
 refine⟨by rw[aIv,T.len],aJp T.lt (Nat.pow_lt_pow_right (by decide) hh),fun k hk=>?_,?_⟩
 ·rw[aJu,aJv] at hk
  simp at hk;rw[aHb,aHk hk.2,<- List.getD_eq_getElem?_getD];exact T.out k hk.1
 ·rw[AH (by rw[T.len];exact hh),T.out h hb]
  have e:(a|||2^h).testBit h=true:=by rw[aJu,Nat.testBit_two_pow_self];simp
  rw[e,HB T.out,if_pos rfl];have e2:(a|||2^h)&&&a=a:=dB fun i=>by
   rw[aJt,aJu];cases a.testBit i<;>simp
  rw[e2,T.full];lia
theorem Tk.start {n:Nat}{t:List Int}(h0:t.getD 0 0=0):Tk n t 0 (List.replicate n 0):=by
 refine⟨aIu ..,aJs (by decide),fun h _=>?_,by rw[jT,h0]⟩;rw[aHb,List.getElem?_replicate]
 split<;>rfl
def Und (t:List Int) (a:Nat) (s:List Int):Prop:=∀ g,g&&&a=g->gv s g<=t.getD g 0
theorem Und.step {n:Nat}{t:List Int}(hs:Sub n t) {a:Nat}{s:List Int}(T:Tk n t a s) (U:Und t a s) {h:Nat}(hh:h<n) (hb:a.testBit h=false):Und t (a|||2^h) (s.set h (t.getD (a|||2^h) 0-t.getD a 0)):=by
 intro g hg;have hlt:g<2^n:=by
  rw[<- hg];exact aJi Nat.and_le_right (aJp T.lt (Nat.pow_lt_pow_right (by decide) hh))
 rw[AH (by rw[T.len];exact hh),T.out h hb,HB T.out];have u:=U (g&&&a) (by rw[Nat.and_assoc,Nat.and_self]);have bits:∀ i,g.testBit i=true->a.testBit i=true\/i=h:=fun i hi=>by
  have:=congrArg (fun x=>x.testBit i) hg;simp only[aJt,aJu,aJv,hi,Bool.true_and,aHt,decide_eq_true_eq] at this;rcases this with h1 | h1
  ·exact .inl h1
  ·exact .inr h1.symm
 cases hgh:g.testBit h with
 | false=>
  have e:g&&&a=g:=dB fun i=>by
   rw[aJt];cases hi:g.testBit i with
   | false=>rfl
   | true=>
    rcases bits i hi with h1 | h1
    ·rw[h1];rfl
    ·rw[h1,hgh] at hi;cases hi
  rw[e] at u ⊢;rw[if_neg (by decide)];lia
 | true=>
  have e1:g|||a=a|||2^h:=dB fun i=>by
   rw[aJu,aJu,aJv]
   by_cases hi:h=i
   ·subst hi;rw[hgh];simp
   ·cases ha:a.testBit i with
    | true=>simp
    | false=>
     cases hgi:g.testBit i with
     | false=>simp[hi]
     | true=>
      rcases bits i hgi with h1 | h1
      ·rw[ha] at h1;cases h1
      ·exact absurd h1.symm hi
  have sb:=hs g a hlt T.lt;rw[e1] at sb;rw[if_pos rfl];lia
theorem LD {n:Nat}{t:List Int}:∀ (o:List Nat) (a:Nat) (s:List Int),Tk n t a s->o.Nodup->(∀ h∈o,h<n/\a.testBit h=false)->∃ a',Tk n t a' (dN t o a s)/\(∀ k,a'.testBit k=(a.testBit k||o.contains k))/\(Sub n t->Und t a s->Und t a' (dN t o a s))
 | [],a,s,T,_,_=>⟨a,T,fun k=>by simp,fun _ u=>u⟩
 | h::r,a,s,T,hn,hb=>by
  obtain⟨h1,h2⟩:=hb h aHe;obtain⟨hr,hn'⟩:=aJb.mp hn;obtain⟨a',T',b',u'⟩:=LD r (a|||2^h) _ (T.step h1 h2) hn' (fun k hk=>⟨(hb k (aHd _ hk)).1,by
   rw[aJu,aJv,(hb k (aHd _ hk)).2];simp;intro e;subst e;exact hr hk⟩)
  refine⟨a',T',fun k=>?_,fun S U=>u' S (U.step S T h1 h2)⟩;rw[b' k,aJu,aJv,List.contains_cons];cases a.testBit k with
  | true=>simp
  | false=>
   by_cases e:h=k
   ·subst e;simp
   ·have e':¬ k=h:=fun z=>e z.symm
    simp[e,e']
theorem aEr {n:Nat}(t:List Int) (h0:t.getD 0 0=0):Und t 0 (List.replicate n 0):=fun g hg=>by
 rw[Nat.and_zero] at hg;rw[<- hg,jT,h0];exact Int.le_refl _
theorem LL {n:Nat}{t:List Int}(h0:t.getD 0 0=0) {o:List Nat}(hp:o.Perm (List.range n)):gv (dN t o 0 (List.replicate n 0)) (2^n-1)=t.getD (2^n-1) 0/\(Sub n t->∀ g,g<2^n->gv (dN t o 0 (List.replicate n 0)) g<=t.getD g 0):=by
 obtain⟨a',T',b',u'⟩:=LD o 0 _ (Tk.start (n:=n) h0) (hp.nodup_iff.mpr aJc) (fun h hh=>⟨aHh.mp (hp.mem_iff.mp hh),aJy h⟩);have e:a'=2^n-1:=dB fun k=>by
  rw[b' k,vV,aJy,Bool.false_or,aHp,aI9,hp.mem_iff,aHh,decide_eq_true_eq]
 refine⟨by rw[<- e];exact T'.full,fun S g hg=>?_⟩;refine u' S (aEr t h0) g ?_;rw[e];refine dB fun k=>?_;rw[aJt,vV]
 by_cases hk:k<n
 ·simp[hk]
 ·rw[AQ hg (by lia)];rfl
theorem LG {n:Nat}(t:List Int) (b:Nat):∀ (o:List Nat) (a:Nat) (s:List Int),s.length=n->(∀ h∈o,h<n/\b.testBit h=false)->gv (dN t o a s) b=gv s b
 | [],_,_,_,_=>rfl
 | h::r,a,s,hs,hb=>by
  obtain⟨h1,h2⟩:=hb h aHe;rw[dN,LG t b r _ _ (by rw[aIv,hs]) (fun k hk=>hb k (aHd _ hk)),AH (by lia),h2];simp
theorem PL {a h k:Nat}(hk:a.testBit k=false) (hne:k≠h):(a|||2^h).testBit k=false:=by
 rw[aJu,aJv,hk];simp;exact fun e=>hne e.symm
theorem HE {row:List Int}{k:Nat}(hk:k<row.length):gv row (2^k)=row.getD k 0:=by
 have:∀ ks:List Nat,ks.Nodup->gvS row ks (2^k)=if k∈ks then row.getD k 0 else 0:=by
  intro ks
  induction ks with
  | nil=>intro _;simp[gvS]
  | cons j ks ih=>
   intro hn;obtain⟨h1,h2⟩:=aJb.mp hn;rw[gvS,ih h2,aJv]
   by_cases e:k=j
   ·subst e
    rw[if_neg h1];simp
   ·simp[e]
 unfold gv;rw[this _ aJc,if_pos (aHh.mpr hk)]
section
variable {n:Nat}{f g:List Int}
end
def upT (n:Nat):List Int:=(List.range n).map fun (i:Nat)=>(i:Int)
@[simp] theorem upT_length (n:Nat):(upT n).length=n:=by simp[upT]
theorem aEs {n i:Nat}(h:i<n):(upT n)[i]?=some (i:Int):=by simp[upT,h]
theorem aEw:∀ (n:Nat) (its:List Value),its.length=n->(∀ (j:Nat) v,its[j]?=some v->∃ t,v=Value.int ((0:Int)+(j:Nat)*1) t)->aL ((upT n).map V.int) its:=by
 have key:∀ (ks:List Int) (its:List Value),its.length=ks.length->(∀ (j:Nat) v k,its[j]?=some v->ks[j]?=some k->∃ t,v=Value.int k t)->aL (ks.map V.int) its:=by
  intro ks
  induction ks with
  | nil=>intro its hl _;cases its with
   | nil=>exact .nil
   | cons _ _=>simp at hl
  | cons k ks ih=>intro its hl h;cases its with
   | nil=>simp at hl
   | cons v its=>
    refine .cons (h 0 v k rfl rfl) (ih its (by simpa using hl) fun j v' k' e1 e2=>h (j+1) v' k' (by simpa using e1) (by simpa using e2))
 intro n its hl h;refine key _ its (by rw[hl,upT_length]) fun j v k e1 e2=>?_;obtain⟨t,rfl⟩:=h j v e1;have hj:j<n:=by
  have:j<(upT n).length:=(aHf.mp e2).1
  simpa using this
 rw[aEs hj] at e2;cases e2;exact⟨t,by simp⟩
section
variable {X:Cx}{B:Hp}{fl:List Nat}{a:Expr}{fa:Rho->Option (List T)}{l:Nat}{pos:Pos}
theorem BU {K:PySem.W.Frag}{H:Hp}{A:Addr->Prop}:∀ (ns:List Int),RepL K H A (tI ns) (ns.map V.int)
 | []=>rfl
 | n::ns=>⟨.int n,ns.map V.int,rfl,rfl,BU ns⟩
end
section
variable {X:Cx}{B:Hp}{fl:List Nat}{a b:Expr}{f g:Rho->Option T}{n n':Bool}{l l':Nat}{pos:Pos}
def YG:T->T->Option T
 | .bl a,.bl b=>some (.bl (a == b))
 | _,_=>none
def YH:T->T->Option T
 | .bl a,.bl b=>some (.bl (!(a == b)))
 | _,_=>none
@[simp] theorem oIsNotB_bl (a b:Bool):YH (.bl a) (.bl b)=some (.bl (!(a == b))):=rfl
@[simp] theorem oIsB_bl (a b:Bool):YG (.bl a) (.bl b)=some (.bl (a == b)):=rfl
end
def WB:T->Bool
 | .lst _=>true
 | _=>false
@[simp] theorem isLs_lst (ts:List T):WB (.lst ts)=true:=id rfl
section
variable {X:Cx}{B:Hp}{fl:List Nat}{e:Expr}{es:List Expr}{fa:Rho->Option (List T)}{l:Nat}{pos p':Pos}{x:Str}
end
section
variable {P:Program}{w:World}{K:PySem.W.Frag}{mg:Str->Option Value}{base:Heap}
end
section
variable {X:Cx}{B:Hp}{fl:List Nat}{e:Expr}{es:List Expr}{fa:Rho->Option (List T)}{n:Bool}{l l' k:Nat}{pos p':Pos}{x:Str}{ps:List Str}{F:List T->Option T}
end
theorem aEu {ns:List Int}{its:List Value}(h:IntsAre its ns):aL (ns.map V.int) its:=by
 induction h with
 | nil=>exact .nil
 | cons n t _ ih=>exact .cons ⟨t,rfl⟩ ih
section
variable {X:Cx}{B:Hp}{fl:List Nat}{e kv:Expr}{f g:Rho->Option T}{n n':Bool}{l l':Nat}{pos p kpos:Pos}
end
section
variable {X:Cx}{B:Hp}{fl:List Nat}{e:Expr}{es:List Expr}{f:Rho->Option T}{fa:Rho->Option (List T)}{n n':Bool}{l l':Nat}{pos p' p2:Pos}{x:Str}
theorem PP:fI X (.builtin "abs") (fun xs H Q=>∃ i:Int,xs=[.int i]/\Q (.int (if i<0 then -i else i)) H):=by
 intro pins s σ H xs us Q I r h;obtain⟨i,rfl,q⟩:=h;obtain⟨u,rfl,t,rfl⟩:=vF r;exact call_abs_int fun u tk=>⟨.int _,H,I.tok _,⟨_,rfl⟩,q⟩
def wK:List T->Option T
 | [.int i]=>some (.int (if i<0 then -i else i))
 | _=>none
theorem YD (i:Int):wK [.int i]=some (.int (i.natAbs:Int)):=by
 show some (T.int (if i<0 then -i else i))=_
 congr 2
 split<;>lia
theorem FM (hx:x = "abs") (hg:Gl X x) (hm:X.mg x=none) (ha:GA X B fl (e::es) fa l)
  (he:starEach (e::es) X.env=(false,eval e X.env)::starEach es X.env:=by rfl) (hpl:(backTo pos (starEach es X.env)).any (·.1)=false:=by rfl):GE X B fl (.Call (.Name x p') (e::es) [] pos) (aJ fa wK) true 3:=by
 subst hx;refine bB (jZ PP hg hm PyProof.Rows.boot_abs ha (by decide) (by decide) he hpl) ?_;rintro σ H Q ⟨Ex,ρ,M,t,S,hf,q⟩;obtain⟨ts,hts,hf⟩:=bind_some hf;refine⟨Ex,ρ,M,ts,S,hts,fun vs H1 s1 r1=>?_⟩
 match ts,hf with
 | [.int i],hf=>
  cases (aHa hf);obtain⟨y,rfl,ry⟩:=eM r1;cases (show _=_ from ry);exact⟨i,rfl,q _ H1 s1 ((aO.scal rfl).mpr rfl)⟩
def mV:T->T->Option T:=oI (fun _ j=>decide (j≠0)&&decide (j.natAbs<2^9000)) fun i j=>.int (i.fdiv j)
theorem IJ {i j:Int}(h:j≠0) (h2:j.natAbs<2^9000):mV (.int i) (.int j)=some (.int (i.fdiv j)):=by
 simp only[mV,oI_int];rw[if_pos (by rw[decide_eq_true h,decide_eq_true h2];rfl)]
theorem aA8:OpR X (binaryOp .FloorDiv) (rI (fun _ j=>j≠0/\j.natAbs<2^9000) fun i j=>.int (i.fdiv j)):=opI fun _ _ _ _ _ _ _ hc q=>floordiv_int hc.1 q (.inl (PyProof.noPylong_of_log2 ((Nat.log2_lt (by lia)).mpr hc.2)))
theorem FR {a b:Expr}{g:Rho->Option T}(ha:GE X B fl a f n l) (hb:GE X B fl b g n' l'):GE X B fl (.BinOp a .FloorDiv b pos) (f2 f g mV) true 3:=eY aA8 (pQ (fun _ _ k=>by simpa only [aHn,decide_eq_true_eq] using k) (fun _ _=>rfl) fun _ _=>rfl) ha hb
end
theorem TF {p:Rho->Option Bool}{r:Rho->Option Out}{st:Nat->Nat->Option T->Rho}(hp:∀ a b x,p (st a b x)=some (decide (b≠0)))
  (hr:∀ a b x,0<b->∃ x',r (st a b x)=some (.nx (st b (a%b) x'))):∀ m k a b x,b<=a->a*b<2^m->m<k->∃ x',cD p r k (st a b x)=some (.nx (st (Nat.gcd a b) 0 x')):=by
 have z:∀ k a x,0<k->∃ x',cD p r k (st a 0 x)=some (.nx (st (Nat.gcd a 0) 0 x')):=fun k a x hk=>by
  obtain⟨k,rfl⟩:∃ k',k=k'+1:=⟨k-1,by lia⟩;refine⟨x,?_⟩;rw[cD,hp];simp
 intro m
 induction m with
 | zero=>
  intro k a b x hab h hk;have hb:b=0:=by
   rcases Nat.eq_zero_or_pos b with e | e
   ·exact e
   ·have:=Nat.mul_pos (show 0<a by lia) e;lia
  subst hb;exact z k a x hk
 | succ m ih=>
  intro k a b x hab h hk;rcases Nat.eq_zero_or_pos b with e | e
  ·subst e;exact z k a x (by lia)
  ·obtain⟨k,rfl⟩:∃ k',k=k'+1:=⟨k-1,by lia⟩
   obtain⟨x1,h1⟩:=hr a b x e;have hlt:=Nat.mod_lt a e;have hq:b+a%b<=a:=by
    have h2:=Nat.div_add_mod a b;have h3:1<=a / b:=(Nat.one_le_div_iff e).mpr hab;have h4:b*1<=b*(a / b):=Nat.mul_le_mul_left b h3;lia
   have h5:b*(a%b)<2^m:=by
    have h6:(b+a%b)*b<=a*b:=Nat.mul_le_mul_right b hq;have h7:a%b*b<=b*b:=Nat.mul_le_mul_right b (by lia);rw[Nat.add_mul] at h6;rw[Nat.pow_succ] at h;have h8:b*(a%b)=a%b*b:=Nat.mul_comm _ _;lia
   obtain⟨x',h9⟩:=ih k b (a%b) x1 (by lia) h5 (by lia);refine⟨x',?_⟩;rw[cD,hp,h1];have hd:decide (b≠0)=true:=decide_eq_true (by lia);rw[hd];simp only[aK0,if_true];rw[h9,Nat.gcd_comm a b,Nat.gcd_rec b a,Nat.gcd_comm]
theorem TH {p:Rho->Option Bool}{r:Rho->Option Out}{st:Nat->Nat->Option T->Rho}(hp:∀ a b x,p (st a b x)=some (decide (b≠0)))
  (hr:∀ a b x,0<b->∃ x',r (st a b x)=some (.nx (st b (a%b) x'))) (a b:Nat) (x:Option T) (hb:b<2^9000):∃ x',mX p r (st a b x)=some (.nx (st (Nat.gcd a b) 0 x')):=by
 unfold mX;rcases Nat.eq_zero_or_pos b with e | e
 ·subst e
  refine⟨x,?_⟩;rw[show (100000:Nat)=99999+1 from rfl,cD,hp];simp
 ·obtain⟨x1,h1⟩:=hr a b x e
  have hlt:=Nat.mod_lt a e;have hm:b*(a%b)<2^18000:=by
   have h2:b*(a%b)<=b*b:=Nat.mul_le_mul_left b (by lia);have h3:b*b<2^9000*2^9000:=Nat.mul_lt_mul'' hb hb;rw[<- Nat.pow_add] at h3;exact aJi h2 h3
  obtain⟨x',h9⟩:=TF hp hr 18000 99999 b (a%b) x1 (by lia) hm (by lia);refine⟨x',?_⟩;rw[show (100000:Nat)=99999+1 from rfl,cD,hp,h1];have hd:decide (b≠0)=true:=decide_eq_true (by lia);rw[hd];simp only[aK0,if_true];rw[h9,Nat.gcd_comm a b,Nat.gcd_rec b a,Nat.gcd_comm]
def frD (t b:Int):Int:=if b<0 then -(Int.gcd t b:Int) else (Int.gcd t b:Int)
def frI (t b:Int):Int × Int:=(t.fdiv (frD t b),b.fdiv (frD t b))
theorem FG {t b:Int}(hb:b≠0):frD t b≠0/\(frD t b).natAbs<=b.natAbs/\t=frD t b*(frI t b).1/\b=frD t b*(frI t b).2/\0<(frI t b).2/\Int.gcd (frI t b).1 (frI t b).2=1/\(frD t b).natAbs=Int.gcd t b:=by
 have hg:0<Int.gcd t b:=Int.gcd_pos_of_ne_zero_right t hb;have hn:(frD t b).natAbs=Int.gcd t b:=by unfold frD;split<;>lia
 have h0:frD t b≠0:=by lia
 have d1:frD t b ∣ t:=by
  rw[<- Int.natAbs_dvd,hn];exact Int.gcd_dvd_left t b
 have d2:frD t b ∣ b:=by
  rw[<- Int.natAbs_dvd,hn];exact Int.gcd_dvd_right t b
 have e1:t=frD t b*(frI t b).1:=(Int.mul_fdiv_cancel' d1).symm;have e2:b=frD t b*(frI t b).2:=(Int.mul_fdiv_cancel' d2).symm;have hle:(frD t b).natAbs<=b.natAbs:=by rw[hn];exact Nat.le_of_dvd (by lia) (Int.natAbs_dvd_natAbs.mpr (Int.gcd_dvd_right t b))
 have hs:0<(frI t b).2:=by
  rcases aI0 b 0 with h | h
  ·have hd:frD t b<0:=by unfold frD;rw[if_pos h];lia
   rcases aI0 0 (frI t b).2 with k | k
   ·exact k
   ·have:=Int.mul_nonneg_of_nonpos_of_nonpos (aHz hd) k
    lia
  ·have hd:0<frD t b:=by unfold frD;rw[if_neg (by lia)];lia
   rcases aI0 0 (frI t b).2 with k | k
   ·exact k
   ·have:=Int.mul_nonpos_of_nonneg_of_nonpos (aHz hd) k
    lia
 refine⟨h0,hle,e1,e2,hs,?_,hn⟩;have hh:Int.gcd t b=(frD t b).natAbs*Int.gcd (frI t b).1 (frI t b).2:=by
  have q:=Int.gcd_mul_left (frD t b) (frI t b).1 (frI t b).2;rw[<- e1,<- e2] at q;exact q
 rw[hn] at hh;exact Nat.eq_of_mul_eq_mul_left hg (by lia)
end G
namespace G
section
variable {n:Nat}{t w:List Int}
end
end G
namespace G
section
variable {n:Nat}{t w:List Int}
end
end G
namespace G
open PySem PySem.Spec PyProof.Rows L2
section
variable {X:Cx}{B:Hp}{fl:List Nat}{k:Expr}{fk:Rho->Option T}{n nk:Bool}{l lk:Nat}{pos pos' pos2:Pos}{x y:Str}
end
abbrev FA (K:PySem.W.Frag) (x:Str) (f:Addr):Prop:=PySem.W.nsIn K mainGlobals x=some (some (.ref f))
abbrev FL (K:PySem.W.Frag) (f:Addr) (x:Str) (st:Stmt) (df oc:Value) (od:Option Addr) (kV dc pm:Value) (an:Option Addr) (cd ct:Value) (sl:Array (Option Value)):Prop:=K.lookup f=some ⟨oc,od,.func (PySem.W.fnOf x x (defArgs st) (defBody st) (defScope st) df kV dc pm an cd ct),sl⟩
abbrev FC (K:PySem.W.Frag) (cd:Value) (x:Str):Prop:=PySem.W.codeIn K cd x=true
abbrev FK (K:PySem.W.Frag) (f:Addr):Prop:=PySem.W.keepIn K (.ref f)=true
theorem zz0 {α:Type _}{a:α}{l:List α}:(a::l)[0]?=some a:=List.getElem?_cons_zero
theorem zz1 {α:Type _}{a:α}{i:Nat}{l:List α}:(a::l)[i+1]?=l[i]?:=List.getElem?_cons_succ
theorem zz2 {α β:Type _}(a:α) (f:α->Option β):(some a).bind f=f a:=aK0 a f
theorem zz3 {α β:Type _}(a:α) (f:α->β):(some a).map f=some (f a):=Option.map_some ..
end G
namespace G
section
variable {n:Nat}{t w:List Int}
end
end G
namespace G
open PySem PySem.Spec PyProof.Rows L2
section
variable {X:Cx}{B:Hp}{fl:List Nat}{n:Bool}{l l':Nat}{e:Expr}{f:Rho->Option T}{x y:Str}{pos pos':Pos}
end
section
variable {X:Cx}{B:Hp}{fl:List Nat}{n n':Bool}{l l' k:Nat}{e:Expr}{es:List Expr}{f:Rho->Option T}{fa:Rho->Option (List T)}{x y:Str}{ps:List Str}{F:List T->Option T}{pos pos' p' cpos:Pos}
end
def aAr:Out->Option T
 | .rt t=>some t
 | _=>none
@[simp] theorem outO_rt (t:T):aAr (.rt t)=some t:=id rfl
end G
set_option maxRecDepth 100000
namespace HD
open PySem PySem.W PySem.Calls PyProof.Rows
noncomputable def sU (thr ok:Thread->Bool) (stp:SharedT->Thread->Option (SharedT × Thread)) (n:Nat):SharedT->Thread->Option SharedT:=
 @Nat.rec (fun _=>SharedT->Thread->Option SharedT) (fun _ _=>none)
  (fun _ ih s t=>@Bool.rec (fun _=>Option SharedT) (@Bool.rec (fun _=>Option SharedT) none
   (@Option.rec (SharedT × Thread) (fun _=>Option SharedT) none (fun r=>ih r.1 r.2) (stp s t)) (ok t)) (some s) (thr t)) n
theorem KB {tb:String->Option Builtin}{p:Program}{w:World}{n₀:Nat}{ann:Option Value}:∀ {n:Nat}{s s':SharedT}{t:Thread},
  sU through (stepOk n₀ ann) (stepT (denote tb) p w) n s t=some s'->topRun tb p w n₀ ann n s.abs t=some s'.abs
 | 0,_,_,_,h=>by cases h
 | n+1,s,s',t,h=>by
  have e:sU through (stepOk n₀ ann) (stepT (denote tb) p w) (n+1) s t=@Bool.rec (fun _=>Option SharedT) (@Bool.rec (fun _=>Option SharedT) none
   (@Option.rec (SharedT × Thread) (fun _=>Option SharedT) none (fun r=>sU through (stepOk n₀ ann) (stepT (denote tb) p w) n r.1 r.2) (stepT (denote tb) p w s t)) (stepOk n₀ ann t)) (some s) (through t):=rfl
  rw[e] at h;unfold topRun;cases h1:through t with
  | true=>rw[h1] at h;cases h;rfl
  | false=>
   rw[h1] at h;cases h2:stepOk n₀ ann t with
   | false=>rw[h2] at h;cases h
   | true=>
    rw[h2] at h;cases h3:stepT (denote tb) p w s t with
    | none=>rw[h3] at h;cases h
    | some r=>
     obtain⟨s₂,t₂⟩:=r;rw[h3] at h;rw[stepT_spec h3];exact KB h
theorem WX {p q:Program}{loose:List Str}{Xt:Shared->Bool}{α:Type}{Yf:Shared->α}{Ya:World->α}{N:Nat}{g0:Bool}{B:Params->BT}{b:Nat}{life:Life}{m₀:Nat}{ann:Option Value}{M:Nat}
  (open_:∀ w:World,(fencedOpening treeTable p w N).map (fun s=>(s.heap,s.gens,s.drawn,s.toks))=some (boot_heap w.params,Array.mk [],boot_drawn,boot_toks))
  (hb:∀ P:Params,absHeap (B P) b life=boot_heap P)
  (size:∀ w:World,((boot_heap w.params).isNs mainGlobals&&(Array.mk []:Array GenState).size == 0,(boot_heap w.params).objs.size,(boot_heap w.params).nsMap mainGlobals "__annotations__")=(true,m₀,ann))
  (le:Nat.ble M N=true)
  (ev:∀ (w:World) (os:OsState),(sU through (stepOk m₀ ann) (stepT (denote treeTable) p w) M ⟨B w.params,b,life,Array.mk [],boot_drawn,boot_toks,os⟩ (topStub p)).map (fun s=>
    ((staticsOk (importedModules p.main.body) (boot_heap w.params) s.abs.heap&&namesBound p s.abs.heap&&gensDone s.abs&&laidKept (boot_heap w.params) s.abs.heap),
    openSeen q loose (importedModules p.main.body) Xt g0 s.abs,Yf s.abs))=some (true,openGood q loose,Ya w)):LeftO p q loose Xt Yf Ya N g0:=fun w=>by
 obtain⟨⟨h,gs,d,k,os⟩,e,e'⟩:=Option.map_eq_some_iff.mp (open_ w);obtain⟨rfl,rfl,rfl,rfl⟩:h=boot_heap w.params/\gs=Array.mk []/\d=boot_drawn/\k=boot_toks:=by simpa using e'
 obtain⟨z1,z2,z3⟩:_/\_/\_:=by simpa only [Prod.mk.injEq] using size w
 obtain⟨s₁,r0,r1⟩:=Option.map_eq_some_iff.mp (ev w os);obtain⟨l1,l2,l3⟩:_/\_/\_:=by simpa only [Prod.mk.injEq] using r1
 have r:=topRun_mono (N-M) _ _ _ _ (KB r0);rw[show M+(N-M)=N by have:=Nat.le_of_ble_eq_true le;lia] at r;have r:topRun treeTable p w m₀ ann N ⟨absHeap (B w.params) b life,Array.mk [],boot_drawn,boot_toks,os⟩ (topStub p)=some s₁.abs:=r;rw[hb] at r;have t:topFrom treeTable p w N ⟨boot_heap w.params,Array.mk [],boot_drawn,boot_toks,os⟩=some s₁.abs:=by
  unfold topFrom;dsimp only;rw[z1,z2,z3,r];show (match staticsOk (importedModules p.main.body) (boot_heap w.params) s₁.abs.heap&&namesBound p s₁.abs.heap&&gensDone s₁.abs&&laidKept (boot_heap w.params) s₁.abs.heap with | true=>_ | false=>_)=_
  rw[l1]
 unfold openEnds;rw[e];show (topFrom treeTable p w N _).map _=_;rw[t];exact congrArg some (Prod.ext l2 l3)
noncomputable def bT (P:Params):BT:=(BT.node (boot_o_0 P) (BT.node (boot_o_1 P) (BT.node (boot_o_3 P) (BT.node (boot_o_7 P) BT.nil BT.nil) BT.nil) (BT.node (boot_o_5 P) (BT.node (boot_o_9 P) BT.nil BT.nil) BT.nil)) (BT.node (boot_o_2 P) (BT.node (boot_o_4 P) (BT.node (boot_o_8 P) BT.nil BT.nil) BT.nil) (BT.node (boot_o_6 P) (BT.node (boot_o_10 P) BT.nil BT.nil) BT.nil)))
theorem PD:∀ P:Params,absHeap (bT P) 11 {}=boot_heap P:=fun P=>by kernel_rfl
theorem PF:∀ w:World,((boot_heap w.params).isNs mainGlobals&&(Array.mk []:Array GenState).size == 0,(boot_heap w.params).objs.size,(boot_heap w.params).nsMap mainGlobals "__annotations__")=(true,11,some (.ref 6)):=fun w=>by kernel_rfl
theorem left_of {p q:Program}{loose:List Str}{Xt:Shared->Bool}{α:Type}{Yf:Shared->α}{Ya:World->α}{N:Nat}
  (open_:∀ w:World,(fencedOpening treeTable p w N).map (fun s=>(s.heap,s.gens,s.drawn,s.toks))=some (boot_heap w.params,Array.mk [],boot_drawn,boot_toks))
  (ev:∀ (w:World) (os:OsState),(sU through (PySem.W.Fast.tw6613529449190102663 11 (some (.ref 6))) (PySem.W.Fast.tw10156331382660048174 (PySem.W.Fast.tw11892475500146522536 PySem.W.Fast.tw14364793385576792824) p w) N ⟨bT w.params,11,{},Array.mk [],boot_drawn,boot_toks,os⟩ (topStub p)).map (fun s=>
    ((staticsOk (importedModules p.main.body) (boot_heap w.params) s.abs.heap&&namesBound p s.abs.heap&&gensDone s.abs&&laidKept (boot_heap w.params) s.abs.heap),
    PySem.W.Fast.tw4187177175401517315 q loose (importedModules p.main.body) Xt true s.abs,Yf s.abs))=some (true,openGood q loose,Ya w)):LeftO p q loose Xt Yf Ya N:=
 WX open_ PD PF (Nat.ble_eq_true_of_le (aJf N)) (by
  rw[PySem.W.Fast.te6613529449190102663,PySem.W.Fast.te10156331382660048174,PySem.W.Fast.te11892475500146522536,PySem.W.Fast.te14364793385576792824,PySem.W.Fast.te4187177175401517315];exact ev)
theorem said_of {l:OpenLaw}(h:PySem.W.Fast.tw9446332074065402090 l=true):l.wellSaid=true:=by rw[PySem.W.Fast.te9446332074065402090];exact h
noncomputable def kE (P:Params) (x:Str) (t:Nat) (v:Value):DictEntry:=⟨PyData.keyHash P x,.str x t,v⟩
noncomputable def kC (a:Str) (t:Nat) (l m x:Int) (r:Addr) (b:Bool) (u:Int) (r2:Addr) (v1 v2 v3 v4:Value) (z:Nat):Obj:=
 ⟨.type "code",none,.fields #[.str a t,.str a (t+1),.str "/claim/cut.py" (t+2),.int l 0,.int m 0,.int 0 0,.int 0 0,.int x 0,.ref r,.bool b,.int u 0,.ref r2,v1,v2,v3,v4,.int (z:Int) 0,.int l 0,.str "/claim/cut.py" (z+1)],#[]⟩
end HD
namespace G
open PySem PySem.Spec PyProof.Rows L2
section
variable {X:Cx}{B:Hp}{fl:List Nat}{n n':Bool}{l l':Nat}{e:Expr}{f:Rho->Option T}{x:Str}{pos pos':Pos}
end
section
variable {prog:Program}{w:World}{A:Around}{E:Value->Shared->Prop}{s:Shared}
end
section
variable {prog:Program}{w:World}{A:Around}{E:Value->Shared->Prop}{s:Shared}
end
section
variable {X:Cx}{elts:List Expr}{k:Nat}{p2:Pos}
end
section
variable {X:Cx}{B:Hp}{fl:List Nat}{e e' e'':Expr}{f g h:Rho->Option T}{n n' n'':Bool}{l l' l'':Nat}{pos p' p2:Pos}{x:Str}{elts:List Expr}{k:Nat}
end
end G
namespace G
open PySem
def iv:Value->Int
 | .int i _=>i
 | _=>0
section
variable {prog:Program}{w:World}{A:Around}{E:Value->Shared->Prop}{s:Shared}{a:Addr}{b:Bool}{ks:List Int}
end
def met (ns:List Int):List Int:=ns.foldl (fun ks k=>if k∈ks then ks else k::ks) []
section
variable {prog:Program}{w:World}{A:Around}{R:Result->Shared->Prop}{I:Addr}{fp wr:List Addr}{GG:Array GenState->Array GenState->Prop}{n:Nat}{P:Nat->Value->Prop}{St:Nat->Shared->Prop}{b:Bool}
end
section
variable {prog:Program}{w:World}{A:Around}{E:Value->Shared->Prop}{s:Shared}
end
def dr (es:Array (Int × Value)) (t:SetTable):Bool:=!t.plain&&es.size > 1
section
variable {prog:Program}{w:World}{A:Around}{E:Value->Shared->Prop}{s:Shared}{a:Addr}{o:Obj}{es:Array (Int × Value)}{ep:Nat}{t:SetTable}
end
section
variable {prog:Program}{w:World}{A:Around}{E:Value->Shared->Prop}{s:Shared}{a it:Addr}{o:Obj}{es:Array (Int × Value)}{ep i:Nat}{t:SetTable}{first:Value}
end
section
variable {prog:Program}{w:World}{A:Around}{E:Value->Shared->Prop}{s:Shared}{a it T:Addr}{o:Obj}{es:Array (Int × Value)}{ep i:Nat}{t:SetTable}
end
abbrev II:Obj:={ cls:=.type "list",data:=.seq ([]:List Value).toArray }
section
variable {prog:Program}{w:World}{A:Around}{E:Value->Shared->Prop}{s:Shared}{a it:Addr}{o:Obj}{es:Array (Int × Value)}{ep:Nat}{t:SetTable}
end
end G
namespace G
open PySem PyProof.Rows
section
variable {prog:Program}{w:World}{A:Around}{E:Value->Shared->Prop}{s:Shared}{a:Addr}{ks:List Int}
end
end G
namespace G
open PySem PySem.Spec PyProof.Rows L2
section
variable {X:Cx}{pins:List (Addr × Obj)}{σ:St}{H:Hp}{s:Shared}{h':Heap}
end
section
variable {X:Cx}{B:Hp}{fl:List Nat}{e:Expr}{f:Rho->Option T}{n:Bool}{l:Nat}{p1 p2 p3 p4 q1 q2 q3 q4:Pos}
end
end G
namespace G
open PySem PySem.Calls PyProof.Rows
def dU {α:Type} (ask:Nat->Nat->Bool):PySem.W.KasT α->α
 | .ret a=>a
 | .ask i j k=>dU ask (k (ask i j))
def fE {α:Type} (n:Nat) (ask:Nat->Nat->Bool):PySem.W.KasT α->Bool
 | .ret _=>true
 | .ask i j k=>decide (i<n)&&decide (j<n)&&fE n ask (k (ask i j))
theorem HV {α:Type}{cmp:Nat->Nat->(Bool->Shared->Prop)->Shared->Prop}{Q:α->Shared->Prop}{n:Nat}{ask:Nat->Nat->Bool}{s:Shared}(hc:∀ i j (C:Bool->Shared->Prop),i<n->j<n->C (ask i j) s->cmp i j C s):
  ∀ t:PySem.W.KasT α,fE n ask t=true->Q (dU ask t) s->t.kasWp cmp Q s
 | .ret a,_,h=>h
 | .ask i j k,ho,h=>by
  have ho:(decide (i<n)&&decide (j<n)&&fE n ask (k (ask i j)))=true:=ho;simp only[aHn,decide_eq_true_eq] at ho;exact hc i j _ ho.1.1 ho.1.2 (HV hc (k (ask i j)) ho.2 h)
section
variable {prog:Program}{w:World}{A:Around}{E:Value->Shared->Prop}{s:Shared}
theorem QJ {R:Result->Shared->Prop}{r:Addr}{a b c:Int}{t u v:Tok}{n:Nat}(hh:A.handled=none) (hr:IsRange s.heap r a b c t u v) (hsmall:Builtin.Range.small a b c=true)
  (hn:Builtin.Range.rangeSize a b c=n) (hlen:n<=2^24)
  (hR:∀ h' tk acc c',(∀ b o,s.heap.get? b=some o->h'.get? b=some o)->h'.get? s.heap.objs.size=some { cls:=.type "list",dict:=none,data:=.seq acc c',slots:=#[] }->ItemsOf (fun i v=>∃ t,v=.int (a+i*c) t) acc n ->
   R (.ok (.ret (.ref s.heap.objs.size))) { s with heap:=h',toks:=tk }):codeAny (model prog w) A (.builtin "proto.collect" ⟨[.ref r],[]⟩) R s:=by
 refine codeAny_builtin F.entry_proto_collect ?_;rw[Around.under_plainId F.plain_proto_collect _];refine wpAny_bind (wpAny_newObj_type ?_);refine wpAny_pure ⟨plainId_quiet F.plain_list_iadd _,codeAny_builtin F.entry_list_iadd ?_⟩;rw[Around.under_plainId F.plain_list_iadd _];have gS:(s.heap.push II).get? s.heap.objs.size=some II:=aHu _ rfl;show wpAny _ A.in1 (Builtin.List.listExtendWith (.ref s.heap.objs.size) (.ref r) (.ref s.heap.objs.size)) _ _ _;refine wpAny_extend_range (by simpa using hh) (aHl _ hr) hsmall hn hlen _ (.ref _) _ gS fun h' tk acc c' kp g hi=>?_;exact hR h' tk acc c' (fun b o e=>kp b o (aJo (aHv e)) (aHl _ e)) g hi
theorem QK {Q:List Value->Shared->Prop}{r:Addr}{a b c:Int}{t u v:Tok}{n:Nat}(hh:A.handled=none) (hr:IsRange s.heap r a b c t u v) (hsmall:Builtin.Range.small a b c=true)
  (hn:Builtin.Range.rangeSize a b c=n) (hlen:n<=2^24)
  (hQ:∀ h' tk acc,s.heap.objs.size<h'.objs.size->(∀ b o,s.heap.get? b=some o->h'.get? b=some o)->ItemsOf (fun i v=>∃ t,v=.int (a+i*c) t) acc n->Q acc.toList { s with heap:=h',toks:=tk }):wpAny (model prog w) A (collect (.ref r)) Q E s:=by
 unfold collect;refine wpAny_bind (wpAny_runValue (QJ hh hr hsmall hn hlen fun h' tk acc c kp g hp=>?_));show wpAny _ A (load s.heap.objs.size >>= _) _ _ _;exact wpAny_bind (wpAny_load g (wpAny_pure (hQ h' tk acc (aHv g) kp hp)))
theorem KR {st:SortSt}{a kS:Addr}{ks out:List Value}{e e1:Nat}{P:PySem.Fin->Shared->Prop}(hk:s.heap.get? kS=some (seqObj "list" (List.toArray ks) e)) (ha:s.heap.get? a=some (seqObj "list" #[] e1)) (hne:kS≠a)
  (hout:(arrOf st).map (·.2)=List.toArray out) (hz:out.length<64) (hkz:ks.length<64) (hf:failedOf st=none)
  (h:∀ h' c,(∀ b o,b≠kS->b≠a->s.heap.get? b=some o->h'.get? b=some o)->h'.get? a=some (seqObj "list" out.toArray c)->P (.done (.ret .none)) { s with heap:=h' }):wpAny (model prog w) A (PyProof.Rows.ksk_tail a false e1 (.ref kS) st) P E s:=by
 have s1:=Heap.SameBut.update s.heap kS (Obj.mapSeq fun _=>(#[]:Array Value));have na1:(s.heap.update kS (Obj.mapSeq fun _=>(#[]:Array Value))).get? a=some (seqObj "list" #[] e1):=(s1.2 a hne.symm).trans ha;have s2:=Heap.SameBut.update (s.heap.update kS (Obj.mapSeq fun _=>(#[]:Array Value))) a (Obj.mapSeq fun _=>List.toArray out);obtain⟨c2,hc2⟩:∃ c2,((s.heap.update kS (Obj.mapSeq fun _=>(#[]:Array Value))).update a (Obj.mapSeq fun _=>List.toArray out)).get? a=some (seqObj "list" (List.toArray out) c2):=⟨_,get?_update_seq na1 fun _=>List.toArray out⟩;unfold PyProof.Rows.ksk_tail;dsimp only;rw[hout];simp only[aHq,if_false];refine wpAny_bind (listUpdate_at hk rfl ?_ (by rw[aHj,sizeLine_eq];lia) (aJx _));refine wpAny_bind (wpAny_letGo ?_);refine wpAny_bind (seqEpoch_at na1 rfl ?_);refine wpAny_bind (listUpdate_at na1 rfl ?_ (aJx _) (aJg (Nat.le_of_eq (aHj ..)) (by rw[sizeLine_eq];lia)));rw[hf];simp only[bne_self_eq_false,aHq,if_false];exact wpAny_pure (h _ c2 (fun b o h1 h2 q=>(s2.2 b h2).trans ((s1.2 b h1).trans q)) hc2)
structure Keys (prog:Program) (w:World) (A:Around) (KA:Addr->Heap->Nat->Value->Prop) (a:Addr) (n:Nat) (ask:Nat->Nat->Bool):Prop where
 stab:∀ kS (h h':Heap) j k,KA kS h j k->(∀ b o,b≠kS->b≠a->h.get? b=some o->h'.get? b=some o)->KA kS h' j k
 cmp:∀ kS (s:Shared) (ks:List Value),ks.length=n->2<=n->(∀ j k,ks[j]?=some k->KA kS s.heap j k)->∃ κ,(∀ Q:SortKind->Shared->Prop,Q κ s->wpAny (model prog w) A (keyKind' (List.toArray ks)) Q (fun _ _=>False) s) /\
  ∀ i j (C:Bool->Shared->Prop),i<n->j<n->C (ask i j) s->wpAny (model prog w) A (keyLt' κ (ks.getD i .none) (ks.getD j .none)) C (fun _ _=>False) s
theorem aD8 {KA:Addr->Heap->Nat->Value->Prop}{a kS:Addr}{n:Nat}{ask:Nat->Nat->Bool}{ks vs:List Value}{e e1:Nat}{P:PySem.Fin->Shared->Prop}(Ky:Keys prog w A KA a n ask) (hk:s.heap.get? kS=some (seqObj "list" (List.toArray ks) e)) (ha:s.heap.get? a=some (seqObj "list" #[] e1)) (hne:kS≠a)
  (hlk:ks.length=n) (hlv:vs.length=n) (h64:n<64) (hK:∀ j k,ks[j]?=some k->KA kS s.heap j k) (hok:fE n ask (PySem.W.kas_sort n)=true\/n<2)
  (h:∀ h' c,(∀ b o,b≠kS->b≠a->s.heap.get? b=some o->h'.get? b=some o)->h'.get? a=some (seqObj "list" (List.toArray (if n<2 then vs else (dU ask (PySem.W.kas_sort n)).toList.map fun i=>vs.getD i Value.none)) c)->P (.done (.ret .none)) { s with heap:=h' }):
  wpAny (model prog w) A (PyProof.Rows.ksk_end a false vs.toArray e1 (.ref kS) (List.toArray ks)) P E s:=by
 have hl:ks.length=vs.length:=by lia
 unfold PyProof.Rows.ksk_end;dsimp only;simp only[aHq,if_false]
 by_cases h2:n<2
 ·rw[if_pos h2] at h
  have h2':vs.toArray.size<2:=by rw[aHj];lia
  rw[if_pos h2',if_pos h2'];refine wpAny_bind (wpAny_pure ?_);rw[StateT.run_pure];refine wpAny_bind (wpAny_pure ?_)
  try dsimp only
  refine KR (st:=SortSt.mk' general' ((List.toArray ks).zip vs.toArray) #[] 7 none) (out:=vs) hk ha hne ?_ (by lia) (by lia) rfl h;show ((List.toArray ks).zip vs.toArray).map (·.2)=vs.toArray
  apply Array.toList_inj.mp
  rw[Array.toList_map,ksk_zip];exact List.map_snd_zip (by simp[hl])
 ·rw[if_neg h2] at h
  have h2':¬ vs.toArray.size<2:=by rw[aHj];lia
  rw[if_neg h2',if_neg h2'];obtain⟨κ,k1,k2⟩:=Ky.cmp kS s ks hlk (by lia) hK;refine wpAny_bind (wpAny_mono (k1 (fun κ' s'=>κ'=κ/\s'=s) ⟨rfl,rfl⟩) (fun κ' s' hq=>?_) fun _ _ x=>x.elim);obtain⟨rfl,rfl⟩:=hq;have hok':fE n ask (PySem.W.kas_sort n)=true:=hok.resolve_right h2;have run:=PySem.W.kat_run (prog:=prog) (w:=w) (A:=A) (E:=E) (s:=s') (κ:=κ') (ks:=ks) (vs:=vs) (Q:=fun st' s''=>s''=s'/\failedOf st'=none/\arrOf st'=(dU ask (PySem.W.kas_sort n)).map (PySem.W.kas_item ((List.toArray ks).zip vs.toArray))/\(dU ask (PySem.W.kas_sort n)).size=n) (G:=fun p s''=>s''=s'/\p=dU ask (PySem.W.kas_sort n)) hl (by lia) (by lia)
   (fun p st' s'' e1 e2 e3 e4=>by obtain⟨rfl,rfl⟩:=e4;exact⟨rfl,e3,e2,by lia⟩) (by rw[hlv];exact HV (n:=n) (ask:=ask) (fun i j C hi hj hc=>k2 i j C hi hj hc) _ hok' ⟨rfl,rfl⟩)
  refine wpAny_bind (wpAny_mono run (fun r s'' hr=>?_) fun _ _ x=>x);obtain⟨⟨⟩,st'⟩:=r;obtain⟨rfl,hf,har,hsz⟩:=hr
  try dsimp only
  exact KR hk ha hne (PySem.W.kat_snds hl har) (by rw[aIr,Array.length_toList,hsz];exact h64) (by lia) hf h
end
end G
namespace G
open PySem PySem.Spec PyProof.Rows L2
abbrev dD (y:Str) (yp:Pos):Arguments:={ posonlyargs:=[],args:=[{ arg:=y,annotation:=none,pos:=yp }],vararg:=none,kwonlyargs:=[],kw_defaults:=[],kwarg:=none,defaults:=[] }
section
variable {prog:Program}{w:World}{A:Around}{E:Value->Shared->Prop}{s:Shared}{env:Env}{x y:Str}{cx pl:Addr}{m:Str->Option Value}{j:Int}{tj:Tok}{its:List Value}
end
section
variable {prog:Program}{w:World}{A:Around}
theorem zY {α:Type}{l:List α}{i:Nat}{x d:α}(h:l[i]?=some x):l.getD i d=x:=by rw[aHb,h];rfl
end
structure LamK (K:PySem.W.Frag) (mg:Str->Option Value) (c P bm:Addr):Prop where
 code:PySem.W.codeHdIn K c P=true
 blt:mg "__builtins__" = some (.ref bm)
 mod:∃ sl,K.lookup bm=some ⟨.type "module",some builtinsNs,.plain,sl⟩
 n1:bm≠builtinsNs
 n2:bm≠mainGlobals
section
variable {X:Cx}{pins:List (Addr × Obj)}{σ:St}{H:Hp}{s:Shared}
end
def fD (n:Nat) (ask:Nat->Nat->Bool):Bool:=decide (n<2)||(fE n ask (PySem.W.kas_sort n)&&(dU ask (PySem.W.kas_sort n)).toList.all (fun i=>decide (i<n))&&decide ((dU ask (PySem.W.kas_sort n)).toList.length=n))
def eJ (n:Nat) (ask:Nat->Nat->Bool):List Int:=if n<2 then upT n else (dU ask (PySem.W.kas_sort n)).toList.map fun (i:Nat)=>(i:Int)
theorem HW {n:Nat}{ask:Nat->Nat->Bool}{vs:List Value}(hl:vs.length=n) (hv:∀ (j:Nat) v,vs[j]?=some v->∃ t,v=Value.int (j:Int) t) (hg:fD n ask=true):
  aL ((eJ n ask).map V.int) (if n<2 then vs else (dU ask (PySem.W.kas_sort n)).toList.map fun i=>vs.getD i Value.none):=by
 unfold fD at hg;unfold eJ
 by_cases h2:n<2
 ·rw[if_pos h2,if_pos h2]
  exact aEw n vs hl fun j v e=>by
   obtain⟨t,rfl⟩:=hv j v e;exact⟨t,by simp⟩
 ·rw[if_neg h2,if_neg h2]
  have hall:∀ i∈(dU ask (PySem.W.kas_sort n)).toList,i<n:=fun i hi=>by
   simp only[aHt,decide_eq_true_eq,aHn,h2,false_or,aHg] at hg;exact hg.1.2 i hi
  generalize (dU ask (PySem.W.kas_sort n)).toList=l at hall
  induction l with
  | nil=>exact .nil
  | cons i l ih=>
   refine .cons ?_ (ih fun k hk=>hall k (aHd _ hk));have hi:=hall i aHe;obtain⟨v,e⟩:∃ v,vs[i]?=some v:=⟨_,aHc (by lia)⟩;obtain⟨t,rfl⟩:=hv i v e;exact⟨t,by show vs.getD i Value.none=_;rw[zY e]⟩
section
variable {X:Cx}
end
section
variable {X:Cx}{B:Hp}{fl:List Nat}{e:Expr}{fa:Rho->Option (List T)}{l':Nat}
end
def spP (Pt:Addr) (o:HO) (sp:Sp):Sp:=fun vs H Q E=>H Pt=some o/\sp vs H Q E
structure CalP (P:Program) (w:World) (K:PySem.W.Frag) (mg:Str->Option Value) (base:Heap) (Pt:Addr) (o:HO) (x:Str) (k:Nat) (ps:List Str) (F:List T->Option T) (n:Bool) (l:Nat):Prop where
 ex:∃ f fd,FnOk P w K mg base CX0 k f fd ps (spP Pt o (spT K F n l))/\mg x=some (.ref f)/\PySem.W.keepIn K (.ref f)=true/\fH K fd ps []
section
variable {X:Cx}{B:Hp}{fl:List Nat}{e:Expr}{es:List Expr}{f:Rho->Option T}{fa:Rho->Option (List T)}{n n':Bool}{l l' k:Nat}{pos p':Pos}{x:Str}{ps:List Str}{F:List T->Option T}{Pt:Addr}{o:HO}
theorem FP (C:CalP X.prog X.w X.K X.mg X.base Pt o x k ps F n l) (hB:B Pt=some o) (hr:Room k X.A) (hg:Gl X x) (ha:GA X B fl (e::es) fa l') (hl:(decide (l=0)||decide (l=3))=true:=by rfl) (hdb:(x == ("__debug__" : Str))=false:=by decide)
  (he:starEach (e::es) X.env=(false,eval e X.env)::starEach es X.env:=by rfl) (hpl:(backTo pos (starEach es X.env)).any (·.1)=false:=by rfl):GE X B fl (.Call (.Name x p') (e::es) [] pos) (aJ fa F) n l:=by
 obtain⟨f,fd,FO,hm,hk,hb⟩:=C.ex;refine bB (IT FO hr hg hm hk hb .nil IQ ha hdb he hpl) ?_;rintro σ H Q ⟨Ex,ρ,M,t,S,hf,q⟩;obtain⟨ts,hts,hf⟩:=bind_some hf;simp only[aHt,decide_eq_true_eq] at hl;refine⟨Ex,ρ,M,ts,S,hts,fun vs H1 s1 r1=>?_⟩;show spP Pt o (spT X.K F n l) (vs++[]) H1 Q E0;rw[aI8];exact⟨(S.same.trans s1) _ _ hB,ts,t,r1.weak fun _ _=>trivial,hf,fun v H2 s2 r2=>q v H2 (s1.trans s2) (r2.called S s1 hl)⟩
end
structure FunC (K:PySem.W.Frag) (x qual:Str) (st:Stmt) (f:Addr) (fd:FuncData) (c:Addr):Prop where
 ex:∃ (oc:Value) (od:Option Addr) (kV doc pm:Value) (an:Option Addr) (ct:Value) (osl:Array (Option Value)),
  fd=PySem.W.fnOf x qual (defArgs st) (defBody st) (defScope st) .none kV doc pm an (.ref c) ct/\K.lookup f=some ⟨oc,od,.func fd,osl⟩/\PySem.W.codeIn K (.ref c) qual=true
 kp:PySem.W.keepIn K (.ref f)=true
theorem FunC.fn {K:PySem.W.Frag}{x qual:Str}{st:Stmt}{f c:Addr}{fd:FuncData}(F:FunC K x qual st f fd c):Fun K x qual st f fd:=by
 obtain⟨oc,od,kV,doc,pm,an,ct,osl,h1,h2,h3⟩:=F.ex;exact⟨⟨oc,od,kV,doc,pm,an,.ref c,ct,osl,h1,h2,h3⟩,F.kp⟩
theorem SY {K:PySem.W.Frag}{x qual:Str}{st:Stmt}{f c:Addr}{oc:Value}{od an:Option Addr}{osl:Array (Option Value)}{kV doc pm ct:Value}(l:K.lookup f=some ⟨oc,od,.func (PySem.W.fnOf x qual (defArgs st) (defBody st) (defScope st) .none kV doc pm an (.ref c) ct),osl⟩)
  (cc:PySem.W.codeIn K (.ref c) qual=true) (k:PySem.W.keepIn K (.ref f)=true):FunC K x qual st f (PySem.W.fnOf x qual (defArgs st) (defBody st) (defScope st) .none kV doc pm an (.ref c) ct) c:=⟨⟨oc,od,kV,doc,pm,an,ct,osl,rfl,l,cc⟩,k⟩
section
variable {P:Program}{w:World}{K:PySem.W.Frag}{mg:Str->Option Value}{base:Heap}
theorem EV {K:PySem.W.Frag}{H:Hp}{fl:List Nat}{n:Bool}{l:Nat}{N ps:List Str}{run:Rho->Option Out}{X:Cx}{body:List Stmt}{ts:List T}{t:T}{vs:List V}{Q:VK}(hXK:X.K=K) (hfl:fl.length=N.length) (hp:∀ i,i<ps.length->fl.getD i 1=1) (hl:ts.length=ps.length) (r:RepL K H (fun _=>True) ts vs) (hN:ps.length<=N.length)
  (hb:GSs X H fl n l body run) (ho:∃ o,run (ts.map some++List.replicate (N.length-ps.length) none)=some o/\pT o t) (q:∀ v H',aP H H'->aO K H H [] H' n l t v->Q v H') (hl4:l≠4):
  ∃ tt,PSs X body tt/\tt { nx:=fun _ H'=>Q .non H',rt:=Q } (L2.start N vs) H:=by
 subst hXK;refine⟨_,hb,?_⟩;obtain⟨o,ho,hi⟩:=ho;refine⟨[],_,[],o,yJ hfl hp hl r hN,ho,?_⟩;cases o with
 | rt u=>
  cases (show u=t from hi);exact fun v H' s' r'=>q v H' s' ((RtX.of hl4).mp r')
 | nx ρ'=>
  cases (show t=.non from hi);exact fun σ' M' H' S'=>q _ H' S'.same ((aO.scal rfl).mpr rfl)
 | bk _=>exact False.elim hi
 | ct _=>exact False.elim hi
theorem FV {x qual:Str}{st:Stmt}{f:Addr}{fd:FuncData}{N ps:List Str}{k:Nat}{fl:List Nat}{n:Bool}{l:Nat}{F:List T->Option T}{run:Rho->Option Out}{Pt:Addr}{o:HO}(Fu:Fun K x qual st f fd) (S:FnScope N ps (defScope st))
  (hfl:fl.length=N.length) (hp:∀ i,i<ps.length->fl.getD i 1=1) (hlen:∀ ts t,F ts=some t->ts.length=ps.length)
  (hb:∀ (cdv:Value) (A:Around) (outer:List Env) (s:Shared) (H:Hp) (E:XK),H Pt=some o->Room k (A.deeper (envOfC qual (defScope st) s.heap.objs.size f cdv)) ->
   GSs (aV CX0 P w K mg base N qual (defScope st) f cdv A outer s H E).nox H fl n l (defBody st) run)
  (hrun:∀ ts t,F ts=some t->∃ o,run (ts.map some++List.replicate (N.length-ps.length) none)=some o/\pT o t) (hl4:l≠4:=by decide):FnOk P w K mg base CX0 (k+1) f fd ps (spP Pt o (spT K F n l)):=by
 have hN:ps.length<=N.length:=by have:=congrArg List.length S.pre;rw[aIw] at this;lia
 refine Fu.ok S (fun vs H Q E h=>?_) (fun cdv A outer s H vs Q E hr h=>?_)
 ·obtain⟨_,ts,t,r,hf,_⟩:=h
  rw[<- r.length];exact hlen ts t hf
 ·obtain⟨hP,ts,t,r,hf,q⟩:=h
  exact EV rfl hfl hp (hlen ts t hf) r hN (hb cdv A outer s H E hP hr) (hrun ts t hf) q hl4
theorem UI {x qual:Str}{st:Stmt}{f c:Addr}{fd:FuncData}{N ps:List Str}{k:Nat}{fl:List Nat}{n:Bool}{l:Nat}{F:List T->Option T}{run:Rho->Option Out}{Pt:Addr}{o:HO}(Fu:FunC K x qual st f fd c) (S:FnScope N ps (defScope st))
  (hfl:fl.length=N.length) (hp:∀ i,i<ps.length->fl.getD i 1=1) (hlen:∀ ts t,F ts=some t->ts.length=ps.length)
  (hb:∀ (A:Around) (outer:List Env) (s:Shared) (H:Hp) (E:XK),H Pt=some o->Room k (A.deeper (envOfC qual (defScope st) s.heap.objs.size f (.ref c))) ->
   GSs (aV CX0 P w K mg base N qual (defScope st) f (.ref c) A outer s H E).nox H fl n l (defBody st) run)
  (hrun:∀ ts t,F ts=some t->∃ o,run (ts.map some++List.replicate (N.length-ps.length) none)=some o/\pT o t) (hl4:l≠4:=by decide):FnOk P w K mg base CX0 (k+1) f fd ps (spP Pt o (spT K F n l)):=by
 have hN:ps.length<=N.length:=by have:=congrArg List.length S.pre;rw[aIw] at this;lia
 obtain⟨oc,od,kV,doc,pm,an,ct,osl,rfl,lk,hcd⟩:=Fu.ex;refine zS lk hcd S (fun vs H Q E h=>?_) fun A outer s H vs Q E hr h=>?_
 ·obtain⟨_,ts,t,r,hf,_⟩:=h
  rw[<- r.length];exact hlen ts t hf
 ·obtain⟨hP,ts,t,r,hf,q⟩:=h
  obtain⟨t,h,q⟩:=EV rfl hfl hp (hlen ts t hf) r hN (hb A outer s H E hP hr) (hrun ts t hf) q hl4;exact⟨t,h.nox,q⟩
end
theorem WU {P:Program}{w:World}{K:PySem.W.Frag}{mg mb:Str->Option Value}{k:Nat}{fa a Pt c:Addr}{fd:FuncData}{x:Str}{F0:List T->Option T}{n:Bool}{lv:Nat}{lpos:Pos}{q:Str}{s₁:Shared}{vs:List Value}{ns:List Int}
  (KX:K.In s₁.heap) (hns:s₁.heap.Ns mainGlobals mg) (hb:s₁.heap.Ns builtinsNs mb) (hbb:∀ x:Str,x ≠ "__name__" -> mb x=bootBuiltins x) (hlim:s₁.heap.NoLimit) (hdig:s₁.heap.NoDigits) (hg:s₁.gens=#[])
  (ha:s₁.heap.get? a=some { cls:=.type "list",data:=.seq vs.toArray }) (hi:IntsAre vs ns) (hl:ns.length<=sizeLine) (hr:Room k callerA) (hC:PySem.W.codeHdIn K c Pt=true) (hPt:s₁.heap.get? Pt=some (PySem.W.tabObj #[])) (hPK:K.lookup Pt=none)
  (F:∀ base:Heap,K.In base->base.Ns mainGlobals mg->FnOk P w K mg base CX0 k fa fd [x] (spP Pt (.tbc lpos q) (spT K F0 n lv))) (hbind:∀ (s:Shared) (u:Value),BindsTo s fd ⟨[u],[]⟩ [(x,u)]) (ht:F0 [.lst (ns.map T.int)]=some (.bl true)):
  codeAny (model P w) callerA (.call (.ref fa) ⟨[.ref a],[]⟩) (fun r s'=>r=.ok (.ret (.bool true))/\OldK s₁.heap s'.heap/\s'.os=s₁.os/\AllBare s'.gens) s₁:=by
 have rv:=aEu hi;have lenV:=hi.length;have haP:a≠Pt:=fun z=>by rw[z,hPt] at ha;cases ha
 have core:∀ H:Hp,H Pt=some (.tbc lpos q)->SqL K H a (ns.map V.int)->HOk P w H s₁.heap->(∀ b,H b≠none->b≠Pt->b=a/\∃ o xs,H b=some (.frz o (.lst xs)))->(H a≠none->K.lookup a=none) ->
   codeAny (model P w) callerA (.call (.ref fa) ⟨[.ref a],[]⟩) (fun r s'=>r=.ok (.ret (.bool true))/\OldK s₁.heap s'.heap/\s'.os=s₁.os/\AllBare s'.gens) s₁:=by
  intro H hHP hS hok hA hK;have base_of:∀ {b:Addr} {o:Obj},s₁.heap.get? b=some o->H b=none->(jA s₁.heap H).get? b=some o:=fun e n=>VI e n;have noA:∀ {b:Addr} {o:Obj} {es:Array DictEntry} {ep:Nat},s₁.heap.get? b=some o->o.data=.dict es ep->H b=none:=fun {b o es ep} e d=>by
   cases hq:H b with
   | none=>rfl
   | some u=>
    by_cases hbP:b=Pt
    ·subst hbP
     rw[hPt] at e;cases e;cases d
    ·have e':b=a:=(hA b (by rw[hq];simp) hbP).1
     subst e';rw[ha] at e;cases e;have d':Data.seq vs.toArray _=Data.dict es ep:=d;cases d'
  have nsK:∀ {b:Addr} {m:Str->Option Value},s₁.heap.Ns b m->(jA s₁.heap H).Ns b m:=fun {b m} ⟨o,es,ep,e,d,r⟩=>⟨o,es,ep,base_of e (noA e d),d,r⟩;have hKb:K.In (jA s₁.heap H):=fun b o e=>base_of (KX b o e) (by
   cases hq:H b with
   | none=>rfl
   | some u=>
    by_cases hbP:b=Pt
    ·subst hbP
     rw[hPK] at e;cases e
    ·have e':b=a:=(hA b (by rw[hq];simp) hbP).1
     subst e';rw[hK (by rw[hq];simp)] at e;cases e)
  have hM:Mod K mg (jA s₁.heap H):=⟨hKb,nsK hns,⟨mb,nsK hb,hbb⟩,let ⟨mc,h1,h2⟩:=hlim;⟨mc,nsK h1,h2⟩,let ⟨mc,h1,h2⟩:=hdig;⟨mc,nsK h1,h2⟩⟩;have e0:Env0 P w K mg (jA s₁.heap H) callerA [] s₁ H:=⟨rfl,hM,fun b o e=>YQ e,Nat.le_of_eq (VJ _ _),trivial,fun b hb=>absurd (show b∈([]:List Addr) from hb) (by simp),hok,.of_eq hg⟩;have ri:∀ ns:List Int,RepL K H (fun _=>True) (ns.map T.int) (ns.map V.int):=fun ns=>by
   induction ns with
   | nil=>exact rfl
   | cons a r ih=>exact⟨_,_,rfl,rfl,ih⟩
  have hsp:spP Pt (.tbc lpos q) (spT K F0 n lv) [.ref a] H (fun v H'=>v=.bl true/\H' Pt=some (.tbc lpos q)) fun _ _ _=>False:=by
   refine⟨hHP,[.lst (ns.map T.int)],.bl true,⟨.ref a,[],rfl,⟨a,ns.map V.int,rfl,?_,ri ns⟩,rfl⟩,ht,fun v H' sm r=>⟨(aO.scal rfl).mp r,sm _ _ hHP⟩⟩;rcases hS with hS | hS
   ·exact .inl ⟨trivial,hS⟩
   ·exact .inr hS
  refine codeAny_mono ((F _ hKb (nsK hns)).run callerA [] s₁ H ⟨[.ref a],[]⟩ [.ref a] [.ref a] _ _ hr e0 (hbind s₁ (.ref a)) (.cons rfl .nil) hsp) fun r s' h=>?_;cases r with
  | error e=>exact False.elim h
  | ok fl=>
   cases fl with
   | next=>exact False.elim h
   | brk=>exact False.elim h
   | cont=>exact False.elim h
   | ret u=>
    obtain⟨v,H',os,bare,un,hok',r',q1,q2⟩:=h;have q':v=.bl true:=q1;subst q';obtain rfl:u=Value.bool true:=r';refine⟨rfl,⟨fun b o e=>?_,fun b o e=>un.there b o e (by simp)⟩,os,bare⟩
    by_cases hbP:b=Pt
    ·subst hbP
     obtain⟨ps,h1,_⟩:=hok' b _ q2;rw[hPt] at e;cases e;exact .inr (.inl ⟨((PySem.W.codeHd_of_K KX hC).tab hPt).isCodeTable,rfl,#[],ps,rfl,by rw[h1];simp⟩)
    ·cases hq:H b with
     | none=>exact .inl (un.keep b o e hq (by intro z;exact absurd (show b∈([]:List Addr) from z) (by simp)) (by simp))
     | some u=>
      obtain⟨_,ob,xs,z⟩:=hA b (by rw[hq];simp) hbP;have z2:=un.frzs b ob _ z;obtain⟨e1,_⟩:=hok b _ z;obtain⟨e2,_⟩:=hok' b _ z2;rw[e] at e1;cases e1;exact .inl e2
 have tb:∀ H:Hp,H Pt=some (.tbc lpos q)->cL P w H s₁.heap Pt (.tbc lpos q):=fun H _=>⟨#[],hPt,trivial,.inl rfl⟩;cases hk:K.lookup a with
 | some o=>
  have e:=KX a o hk;rw[ha] at e;cases e;have h1:(fun b=>if b=Pt then some (HO.tbc lpos q) else none) Pt=some (HO.tbc lpos q):=if_pos rfl;refine core (fun b=>if b=Pt then some (.tbc lpos q) else none) h1 (.inr ⟨_,vs.toArray,_,hk,rfl,rfl,rfl,by rw[aHj,lenV];exact hl,by simpa using rv⟩) (fun b u z=>?_) (fun b z hb=>absurd (if_neg hb) z) fun z=>absurd (if_neg haP) z
  by_cases hbP:b=Pt
  ·subst hbP
   rw[h1] at z;cases z;exact tb _ h1
  ·have z':=(if_neg hbP).symm.trans z
   cases z'
 | none=>
  have h1:(fun b=>if b=Pt then some (HO.tbc lpos q) else if b=a then some (HO.frz { cls:=.type "list",data:=.seq vs.toArray } (.lst (ns.map V.int))) else none) Pt=some (HO.tbc lpos q):=if_pos rfl;have h2:(fun b=>if b=Pt then some (HO.tbc lpos q) else if b=a then some (HO.frz { cls:=.type "list",data:=.seq vs.toArray } (.lst (ns.map V.int))) else none) a=some (HO.frz { cls:=.type "list",data:=.seq vs.toArray } (.lst (ns.map V.int))):=(if_neg haP).trans (if_pos rfl);refine core (fun b=>if b=Pt then some (.tbc lpos q) else if b=a then some (.frz { cls:=.type "list",data:=.seq vs.toArray } (.lst (ns.map V.int))) else none) h1 (.inl (.inr ⟨{ cls:=.type "list",data:=.seq vs.toArray },h2⟩)) (fun b u z=>?_) (fun b z hb=>?_) fun _=>hk
  ·by_cases hbP:b=Pt
   ·subst hbP
    rw[h1] at z;cases z;exact tb _ h1
   ·by_cases hba:b=a
    ·subst hba
     rw[h2] at z;cases z;exact⟨ha,by rw[aIr];exact hl,vs,_,rv,ha⟩
    ·have z':=((if_neg hbP).trans (if_neg hba)).symm.trans z
     cases z'
  ·by_cases hba:b=a
   ·subst hba
    exact⟨rfl,_,_,h2⟩
   ·exact absurd ((if_neg hb).trans (if_neg hba)) z
theorem WV {l:PySem.W.OpenLaw}{q:Program}{loose:List Str}{XP:(Str->Option Value)->Heap->Prop}{YP:World->Heap->Prop}{d:DefRec}{K:Params->PySem.W.Frag}{k:Nat}{F0:List T->Option T}{n:Bool}{lv:Nat}{Pt c:Addr}{lpos:Pos}{qn:Str}(hr:Room k callerA) (hn:l.most=some 63) (hdf:d.params.defaults=[])
  (hY:∀ (w:World) (h:Heap),YP w h->(K w.params).In h/\h.get? Pt=some (PySem.W.tabObj #[])) (hC:∀ p,PySem.W.codeHdIn (K p) c Pt=true) (hPK:∀ p,(K p).lookup Pt=none)
  (F:∀ (w:World) (mg:Str->Option Value) (fa:Addr) (h:Heap),(K w.params).In h->h.Ns mainGlobals mg->mg d.name=some (.ref fa) ->
   ∃ fd:FuncData,(∀ (s:Shared) (u:Value),BindsTo s fd ⟨[u],[]⟩ [("script",u)])/\∀ base:Heap,(K w.params).In base->base.Ns mainGlobals mg->FnOk l.prog w (K w.params) mg base CX0 k fa fd ["script"] (spP Pt (.tbc lpos qn) (spT (K w.params) F0 n lv)))
  (ht:∀ ns:List Int,ns.length<=63->F0 [.lst (ns.map T.int)]=some (.bl true)):
  PySem.W.WalkO q loose XP YP l.row.toRowW d [] (fun f vs=>PySem.call f vs):=by
 refine Att.attach_call hn hdf fun w s₀ s₁ mg mb fa o pm cd doc a vs ns G Y ho hd hcd hmg hobj hints hlen hg=>?_;obtain⟨KX,hPt⟩:=hY w _ Y;obtain⟨fd,hb,hF⟩:=F w mg fa _ KX G.T.g hmg;exact WU KX G.T.g G.T.b G.T.builtins G.T.nolimit G.T.nodigits hg hobj hints (aJg hlen (by decide)) hr (hC _) hPt (hPK _) hF hb (ht ns hlen)
section
variable {X:Cx}{B:Hp}{fl:List Nat}{e:Expr}{es:List Expr}{fa:Rho->Option (List T)}{l:Nat}{pos p':Pos}{x:Str}
end
def sP (n:Nat) (l:List Nat):Bool:=decide (l.length=n)&&l.all (fun i=>decide (i<n))&&(List.range n).all (fun i=>l.contains i)&&decide l.Nodup
def fR (n:Nat):List (Nat × Nat × Bool)->PySem.W.KasT (Array Nat)->Bool
 | _,.ret p=>sP n p.toList
 | tr,.ask i j k=>decide (i<n)&&decide (j<n)&&(if tr.contains (i,j,true)=true then fR n tr (k true) else if tr.contains (i,j,false)=true then fR n tr (k false) else fR n ((i,j,true)::tr) (k true)&&fR n ((i,j,false)::tr) (k false))
def pU (lt:List (Nat × Nat)) (a b:Nat):List (Nat × Nat):=((a::(lt.filter (·.2 == a)).map (·.1)).flatMap fun x=>(b::(lt.filter (·.1 == b)).map (·.2)).map fun y=>(x,y))++lt
def sT (lt:List (Nat × Nat)):List Nat->Bool
 | a::b::r=>lt.contains (a,b)&&sT lt (b::r)
 | _=>true
def fF (n:Nat):List (Nat × Nat)->PySem.W.KasT (Array Nat)->Bool
 | lt,.ret p=>sP n p.toList&&sT lt p.toList
 | lt,.ask i j k=>decide (i<n)&&decide (j<n)&&decide (i≠j)&&(if lt.contains (i,j)=true then fF n lt (k true) else if lt.contains (j,i)=true then fF n lt (k false) else fF n (pU lt i j) (k true)&&fF n (pU lt j i) (k false))
def rC (ask:Nat->Nat->Bool):List Nat->Prop
 | a::b::r=>ask a b=true/\rC ask (b::r)
 | _=>True
def mI (n:Nat) (l:List Nat):Prop:=l.length=n/\(∀ i∈l,i<n)/\(∀ i<n,i∈l)/\l.Nodup
theorem IX {n:Nat}{l:List Nat}(h:sP n l=true):mI n l:=by
 unfold sP at h;simp only[aHn,decide_eq_true_eq,aHg,aI9,aHh] at h;exact⟨h.1.1.1,h.1.1.2,h.1.2,h.2⟩
theorem JY {ask:Nat->Nat->Bool}{lt:List (Nat × Nat)}(ht:∀ x∈lt,ask x.1 x.2=true):∀ l,sT lt l=true->rC ask l
 | [],_=>trivial
 | [_],_=>trivial
 | a::b::r,h=>by
  have h:(lt.contains (a,b)&&sT lt (b::r))=true:=h;simp only[aHn,aI9] at h;exact⟨ht _ h.1,JY ht _ h.2⟩
theorem DN {ask:Nat->Nat->Bool}(tr:∀ i j k,ask i j=true->ask j k=true->ask i k=true) {lt:List (Nat × Nat)}{a b:Nat}(ht:∀ x∈lt,ask x.1 x.2=true) (h:ask a b=true):∀ x∈pU lt a b,ask x.1 x.2=true:=by
 intro x hx;unfold pU at hx;rcases aJ1.mp hx with hx | hx
 ·obtain⟨u,hu,hx⟩:=List.mem_flatMap.mp hx
  obtain⟨v,hv,rfl⟩:=aJ7.mp hx;have h1:u=a\/ask u a=true:=by
   rcases aHm.mp hu with e | hu
   ·exact .inl e
   ·obtain⟨q,hq,rfl⟩:=aJ7.mp hu
    obtain⟨h1,h2⟩:=aJ4.mp hq;have:=ht q h1;rw[eq_of_beq h2] at this;exact .inr this
  have h2:v=b\/ask b v=true:=by
   rcases aHm.mp hv with e | hv
   ·exact .inl e
   ·obtain⟨q,hq,rfl⟩:=aJ7.mp hv
    obtain⟨h1,h2⟩:=aJ4.mp hq;have:=ht q h1;rw[eq_of_beq h2] at this;exact .inr this
  have h3:ask u b=true:=by
   rcases h1 with rfl | h1
   ·exact h
   ·exact tr _ _ _ h1 h
  rcases h2 with rfl | h2
  ·exact h3
  ·exact tr _ _ _ h3 h2
 ·exact ht x hx
theorem HS {n:Nat}{ask:Nat->Nat->Bool}:∀ (t:PySem.W.KasT (Array Nat)) (tr:List (Nat × Nat × Bool)),(∀ i j b,(i,j,b)∈tr->ask i j=b)->fR n tr t=true->fE n ask t=true/\mI n (dU ask t).toList
 | .ret p,tr,ht,h=>⟨rfl,IX h⟩
 | .ask i j k,tr,ht,h=>by
  have h:(decide (i<n)&&decide (j<n)&&(if tr.contains (i,j,true)=true then fR n tr (k true) else if tr.contains (i,j,false)=true then fR n tr (k false) else fR n ((i,j,true)::tr) (k true)&&fR n ((i,j,false)::tr) (k false)))=true:=h;rw[aHn,aHn,decide_eq_true_eq,decide_eq_true_eq] at h;obtain⟨hij,h⟩:=h;obtain⟨tr',ht',key⟩:∃ tr',(∀ i j b,(i,j,b)∈tr'->ask i j=b)/\fR n tr' (k (ask i j))=true:=by
   by_cases c1:tr.contains (i,j,true)=true
   ·rw[if_pos c1] at h
    exact⟨tr,ht,by rw[ht _ _ _ (aI9.mp c1)];exact h⟩
   ·rw[if_neg c1] at h
    by_cases c2:tr.contains (i,j,false)=true
    ·rw[if_pos c2] at h
     exact⟨tr,ht,by rw[ht _ _ _ (aI9.mp c2)];exact h⟩
    ·rw[if_neg c2,aHn] at h
     refine⟨(i,j,ask i j)::tr,fun a b c hm=>?_,?_⟩
     ·rcases aHm.mp hm with e | hm
      ·cases e;rfl
      ·exact ht a b c hm
     ·cases ask i j with
      | true=>exact h.1
      | false=>exact h.2
  obtain⟨h1,h2⟩:=HS (k (ask i j)) tr' ht' key;refine⟨?_,h2⟩;show (decide (i<n)&&decide (j<n)&&fE n ask (k (ask i j)))=true;simp only[aHn,decide_eq_true_eq];exact⟨hij,h1⟩
theorem HU {n:Nat}{ask:Nat->Nat->Bool}(ha:∀ i j,ask i j=true->ask j i=false) (hs:∀ i j,i≠j->ask i j=false->ask j i=true) (tr:∀ i j k,ask i j=true->ask j k=true->ask i k=true):
  ∀ (t:PySem.W.KasT (Array Nat)) (lt:List (Nat × Nat)),(∀ x∈lt,ask x.1 x.2=true)->fF n lt t=true->fE n ask t=true/\mI n (dU ask t).toList/\rC ask (dU ask t).toList
 | .ret p,lt,ht,h=>by
  have h:(sP n p.toList&&sT lt p.toList)=true:=h;rw[aHn] at h;exact⟨rfl,IX h.1,JY ht _ h.2⟩
 | .ask i j k,lt,ht,h=>by
  have h:(decide (i<n)&&decide (j<n)&&decide (i≠j)&&(if lt.contains (i,j)=true then fF n lt (k true) else if lt.contains (j,i)=true then fF n lt (k false) else fF n (pU lt i j) (k true)&&fF n (pU lt j i) (k false)))=true:=h;rw[aHn,aHn,aHn,decide_eq_true_eq,decide_eq_true_eq,decide_eq_true_eq] at h;obtain⟨⟨hij,hne⟩,h⟩:=h;obtain⟨lt',ht',key⟩:∃ lt',(∀ x∈lt',ask x.1 x.2=true)/\fF n lt' (k (ask i j))=true:=by
   by_cases c1:lt.contains (i,j)=true
   ·rw[if_pos c1] at h
    exact⟨lt,ht,by rw[ht _ (aI9.mp c1)];exact h⟩
   ·rw[if_neg c1] at h
    by_cases c2:lt.contains (j,i)=true
    ·rw[if_pos c2] at h
     exact⟨lt,ht,by rw[ha _ _ (ht _ (aI9.mp c2))];exact h⟩
    ·rw[if_neg c2,aHn] at h
     cases e:ask i j with
     | true=>exact⟨_,DN tr ht e,h.1⟩
     | false=>exact⟨_,DN tr ht (hs _ _ hne e),h.2⟩
  obtain⟨h1,h2⟩:=HU ha hs tr (k (ask i j)) lt' ht' key;refine⟨?_,h2⟩;show (decide (i<n)&&decide (j<n)&&fE n ask (k (ask i j)))=true;simp only[aHn,decide_eq_true_eq];exact⟨hij,h1⟩
theorem QA:((List.range 7).all fun n=>fR n [] (PySem.W.kas_sort n))=true:=by kernel_rfl
theorem QB:((List.range 7).all fun n=>decide (n<2)||fF n [] (PySem.W.kas_sort n))=true:=by kernel_rfl
theorem WJ {n:Nat}(hn:n<=6) (ask:Nat->Nat->Bool):fD n ask=true/\∃ l,mI n l/\eJ n ask=l.map fun (i:Nat)=>(i:Int):=by
 have h:=aHg.mp QA n (aHh.mpr (by lia));obtain⟨h1,h2⟩:=HS (ask:=ask) _ [] (fun _ _ _ z=>by cases z) h
 by_cases h3:n<2
 ·refine⟨by simp[fD,h3],List.range n,⟨aIt,fun i hi=>aHh.mp hi,fun i hi=>aHh.mpr hi,aJc⟩,by simp[eJ,h3,upT]⟩
 ·refine⟨?_,_,h2,by simp[eJ,h3]⟩
  unfold fD;simp only[aHt,aHn,decide_eq_true_eq,aHg];exact .inr ⟨⟨h1,h2.2.1⟩,h2.1⟩
theorem WK {n:Nat}(hn:n<=6) {ask:Nat->Nat->Bool}(ha:∀ i j,ask i j=true->ask j i=false) (hs:∀ i j,i≠j->ask i j=false->ask j i=true) (tr:∀ i j k,ask i j=true->ask j k=true->ask i k=true):
  ∃ l,mI n l/\rC ask l/\eJ n ask=l.map fun (i:Nat)=>(i:Int):=by
 by_cases h3:n<2
 ·refine⟨List.range n,⟨aIt,fun i hi=>aHh.mp hi,fun i hi=>aHh.mpr hi,aJc⟩,?_,by simp[eJ,h3,upT]⟩
  have:n=0\/n=1:=by lia
  rcases this with rfl | rfl<;>exact trivial
 ·have h:=aHg.mp QB n (aHh.mpr (by lia))
  have h':fF n [] (PySem.W.kas_sort n)=true:=by simpa [h3] using h
  obtain⟨_,h2,h4⟩:=HU ha hs tr _ [] (fun _ z=>by cases z) h';exact⟨_,h2,h4,by simp[eJ,h3]⟩
theorem mI.perm {n:Nat}{l:List Nat}(h:mI n l):l.Perm (List.range n):=(List.perm_ext_iff_of_nodup h.2.2.2 aJc).mpr fun a=>⟨fun z=>aHh.mpr (h.2.1 a z),fun z=>h.2.2.1 a (aHh.mp z)⟩
theorem JZ {ask:Nat->Nat->Bool}(tr:∀ i j k,ask i j=true->ask j k=true->ask i k=true):∀ l,rC ask l->l.Pairwise fun a b=>ask a b=true
 | [],_=>.nil
 | [a],_=>by simp
 | a::b::r,h=>by
  have ih:=JZ tr (b::r) h.2;refine List.pairwise_cons.mpr ⟨fun c hc=>?_,ih⟩;rcases aHm.mp hc with rfl | hc
  ·exact h.1
  ·exact tr _ _ _ h.1 ((List.pairwise_cons.mp ih).1 c hc)
section
variable {X:Cx}{B:Hp}{fl:List Nat}{n:Bool}{l:Nat}{pos pos':Pos}{x:Str}
end
section
variable {X:Cx}{B:Hp}{fl:List Nat}{a b:Expr}{f g:Rho->Option T}{n n':Bool}{l l':Nat}{pos:Pos}
open SeqAt in
end
section
variable {K:PySem.W.Frag}{B H H':Hp}{fl:List Nat}{Ex:List (T × V)}{σ:St}{ρ:Rho}{M:List Addr}{i:Nat}
end
section
variable {X:Cx}{B:Hp}{fl:List Nat}{a b k:Expr}{f g fk:Rho->Option T}{n n' nk:Bool}{l l' lk i:Nat}{pos pos' dpos p2 p3:Pos}{x:Str}
end
section
variable {X:Cx}{B:Hp}{fl:List Nat}{n:Bool}{l:Nat}{pos pos' dpos tpos p2 p3 p4 p5:Pos}{x d y:Str}
end
end G
namespace GN
open PySem PySem.Builtin PySem.Builtin.Str PySem.Builtin.Int PySem.Calls PySem.NumText PyProof.Rows
set_option maxRecDepth 100000
section
variable {prog:Program}{w:World}{A:Around}{E:Value->Shared->Prop}{s:Shared}{a:Int}{t:Tok}
end
end GN
namespace G
open PySem PySem.Spec PyProof.Rows L2
section
variable {X:Cx}{B:Hp}{fl:List Nat}{a b e:Expr}{es:List Expr}{f g:Rho->Option T}{fa:Rho->Option (List T)}{n n':Bool}{l l':Nat}{pos p':Pos}{x:Str}
end
section
variable {X:Cx}{B:Hp}{fl:List Nat}{a b:Expr}{f g:Rho->Option T}{n n':Bool}{l l':Nat}{apos cpos:Pos}
end
section
variable {X:Cx}{B:Hp}{fl:List Nat}{e:Expr}{es:List Expr}{fa:Rho->Option (List T)}{n:Bool}{l:Nat}{pos p':Pos}{x:Str}
end
section
variable {X:Cx}{B:Hp}{fl:List Nat}{tg e:Expr}{n n':Bool}{l l':Nat}{f:Rho->Option T}{x:Str}{pos pos':Pos}
end
section
variable {X:Cx}{B:Hp}{fl:List Nat}{e:Expr}{f:Rho->Option T}{n:Bool}{l:Nat}{pos apos cpos:Pos}{x:Str}{tab:List (Str × List Str)}
end
section
variable {prog:Program}{w:World}{A:Around}{E:Value->Shared->Prop}{s:Shared}
end
section
variable {prog:Program}{w:World}{A:Around}{E:Value->Shared->Prop}{s:Shared}
end
section
variable {X:Cx}{elts:List Expr}{k:Nat}{p2:Pos}
end
def WD:T->Option (List T)
 | .tup ts=>some ts
 | _=>none
@[simp] theorem isTp_tup (ts:List T):WD (.tup ts)=some ts:=rfl
section
variable {X:Cx}{B:Hp}{fl:List Nat}{e e':Expr}{f g:Rho->Option T}{n n':Bool}{l l':Nat}{pos p' p2:Pos}{x:Str}{elts:List Expr}{k:Nat}
end
section
variable {X:Cx}{B:Hp}{fl:List Nat}{a b:Expr}{f g:Rho->Option T}{n n':Bool}{l l':Nat}{pos:Pos}
end
section
variable {K:PySem.W.Frag}{B H H':Hp}{fl:List Nat}{Ex:List (T × V)}{σ:St}{ρ:Rho}{M:List Addr}{i:Nat}
end
section
variable {X:Cx}{B:Hp}{fl:List Nat}{n n':Bool}{l l':Nat}{e:Expr}{es:List Expr}{f:Rho->Option T}{fa:Rho->Option (List T)}{pos pos' lpos:Pos}{i:Nat}{x:Str}
end
section
variable {X:Cx}{B:Hp}{fl:List Nat}{n:Bool}{l k:Nat}{x y:Str}{ps:List Str}{p' p2 pos epos:Pos}
end
section
variable {X:Cx}{q1 q2 q3 q4 q5 q6 q7 q8 q9 q10 q11 q12 q13:Pos}{j1 j2 j3 j4:Nat}{x:Str}
end
section
variable {P:Program}{w:World}{K:PySem.W.Frag}{mg:Str->Option Value}{base:Heap}
end
section
variable {X:Cx}{K:PySem.W.Frag}{B H:Hp}{fl fl':List Nat}{src:List (Option Nat)}{N':List Str}{Ex:List (T × V)}{σ σ1:St}{ρ:Rho}{M:List Addr}{li l:Nat}{sc n:Bool}{fi:Rho->Option (List T)}{p:Rho->Option Bool}{f:Rho->Option T}
end
section
variable {X:Cx}{B:Hp}{fl fl':List Nat}{elt iter:Expr}{x0:Str}{p0 pos:Pos}{ifs:List Expr}{scope:Scope}{N':List Str}{src:List (Option Nat)}{fi:Rho->Option (List T)}{li l:Nat}{sc n:Bool}{p:Rho->Option Bool}{f:Rho->Option T}
end
section
variable {X:Cx}{B:Hp}{fl:List Nat}{n:Bool}{l:Nat}{x y:Str}{pos pos':Pos}
end
end G
namespace G
open PySem PySem.Calls PyProof.Rows
structure Rl (F:List Addr) (s s':Shared):Prop where
 os:s'.os=s.os
 bare:AllBare s.gens->AllBare s'.gens
 keep:∀ b o,s.heap.get? b=some o->b ∉ F->s'.heap.get? b=some o
 slot:∀ b o,s.heap.get? b=some o->b∈F->∃ sl,s'.heap.get? b=some { o with slots:=sl }
structure RlA (F:List Addr) (a:Addr) (s s':Shared):Prop where
 os:s'.os=s.os
 bare:AllBare s.gens->AllBare s'.gens
 keep:∀ b o,b≠a->s.heap.get? b=some o->b ∉ F->s'.heap.get? b=some o
 slot:∀ b o,b≠a->s.heap.get? b=some o->b∈F->∃ sl,s'.heap.get? b=some { o with slots:=sl }
theorem RlA.then {F:List Addr}{a:Addr}{s s1 s2:Shared}(h:RlA F a s s1) (k:Rl F s1 s2):RlA F a s s2:=
 ⟨k.os.trans h.os,fun z=>k.bare (h.bare z),fun b o hb e hf=>k.keep b o (h.keep b o hb e hf) hf,fun b o hb e hf=>by
  obtain⟨sl,e1⟩:=h.slot b o hb e hf;obtain⟨sl',e2⟩:=k.slot b _ e1 hf;exact⟨sl',e2⟩⟩
theorem RlA.upd {F:List Addr}{a kS:Addr}{s s1:Shared}{h':Heap}(h:RlA F a s s1) (hk:s.heap.objs.size<=kS) (k:∀ b o,b≠kS->b≠a->s1.heap.get? b=some o->h'.get? b=some o):RlA F a s { s1 with heap:=h' }:=
 ⟨h.os,h.bare,fun b o hb e hf=>k b o (aJo (aHi (aHv e) hk)) hb (h.keep b o hb e hf),fun b o hb e hf=>by
  obtain⟨sl,e1⟩:=h.slot b o hb e hf;exact⟨sl,k b _ (aJo (aHi (aHv e) hk)) hb e1⟩⟩
def KA3 (F:List Addr) (kf:Nat->Int × Int × Int) (a:Addr):Addr->Heap->Nat->Value->Prop:=fun kS h j k=>∃ q t u z,k=Value.ref q/\q≠kS/\q≠a/\q ∉ F/\IsTup h q [Value.int (kf j).1 t,Value.int (kf j).2.1 u,Value.int (kf j).2.2 z].toArray
def bX (kf:Nat->Int × Int × Int) (i j:Nat):Bool:=if ((kf i).1 == (kf j).1)=true then (if ((kf i).2.1 == (kf j).2.1)=true then (if ((kf i).2.2 == (kf j).2.2)=true then false else decide ((kf i).2.2<(kf j).2.2)) else decide ((kf i).2.1<(kf j).2.1)) else decide ((kf i).1<(kf j).1)
section
variable {prog:Program}{w:World}{A:Around}{E:Value->Shared->Prop}{s:Shared}
theorem HX {F:List Addr}{kf:Nat->Int × Int × Int}{a kS:Addr}{h:Heap}:∀ (ks:List Value) (d:Nat),(∀ j k,ks[j]?=some k->KA3 F kf a kS h (d+j) k)->∃ fs,PySem.W.KatTups h ks fs/\fs.length=ks.length/\∀ v∈fs,∃ i t,v=Value.int i t
 | [],d,_=>⟨[],trivial,rfl,by simp⟩
 | k::ks,d,hk=>by
  obtain⟨fs,h1,h2,h3⟩:=HX ks (d+1) fun j k' e=>by
   have:=hk (j+1) k' (by simpa using e);rw[show d+1+j=d+(j+1) by lia];exact this
  obtain⟨q,t,u,z,rfl,_,_,_,o,hg,hc,n,hd⟩:=hk 0 k rfl;refine⟨.int (kf (d+0)).1 t::fs,PySem.W.KatTups.cons hg hc hd rfl h1,by simp[h2],fun v hv=>?_⟩;rcases aHm.mp hv with rfl | hv
  ·exact⟨_,_,rfl⟩
  ·exact h3 v hv
theorem HZ {F:List Addr}{kf:Nat->Int × Int × Int}{a:Addr}{n:Nat}:Keys prog w A (KA3 F kf a) a n (bX kf):=by
 refine⟨fun kS h h' j k hk kp=>?_,fun kS s ks hl h2 hK=>?_⟩
 ·obtain⟨q,t,u,z,e,n1,n2,nf,o,hg,hc,n,hd⟩:=hk
  exact⟨q,t,u,z,e,n1,n2,nf,o,kp q _ n1 n2 hg,hc,n,hd⟩
 ·obtain⟨fs,h1,h2',h3⟩:=HX ks 0 fun j k e=>by rw[aJw];exact hK j k e
  refine⟨tuples' (Value.type "int" != Value.type "tuple"),fun Q hq=>PySem.W.kat_kind h1 (by lia) (fun v hv=>?_) (by decide) hq,fun i j C hi hj hc=>?_⟩
  ·obtain⟨i,t,rfl⟩:=h3 v hv
   exact .now
  ·obtain⟨k1,e1⟩:∃ k1,ks[i]?=some k1:=⟨_,aHc (by lia)⟩
   obtain⟨k2,e2⟩:∃ k2,ks[j]?=some k2:=⟨_,aHc (by lia)⟩;rw[zY e1,zY e2];obtain⟨q1,t1,u1,z1,rfl,_,_,_,o1,hg1,_,m1,hd1⟩:=hK i k1 e1;obtain⟨q2,t2,u2,z2,rfl,_,_,_,o2,hg2,_,m2,hd2⟩:=hK j k2 e2;unfold bX at hc;generalize (kf i).1=a1 at *;generalize (kf i).2.1=b1 at *;generalize (kf i).2.2=c1 at *;generalize (kf j).1=a2 at *;generalize (kf j).2.1=b2 at *;generalize (kf j).2.2=c2 at *;refine PySem.W.kat_lt hg1 hd1 hg2 hd2 ?_;show PySem.W.KatLex prog w A (Value.type "int" != Value.type "tuple") _ C [(Value.int a1 t1,Value.int a2 t2),(Value.int b1 u1,Value.int b2 u2),(Value.int c1 z1,Value.int c2 z2)] 0 s;refine PySem.W.kat_cons (wpAny_eqBool_int ?_)
   by_cases x1:(a1 == a2)=true
   ·rw[if_pos x1] at hc
    rw[x1];refine PySem.W.kat_yes (PySem.W.kat_cons (wpAny_eqBool_int ?_))
    by_cases x2:(b1 == b2)=true
    ·rw[if_pos x2] at hc
     rw[x2];refine PySem.W.kat_yes (PySem.W.kat_cons (wpAny_eqBool_int ?_))
     by_cases x3:(c1 == c2)=true
     ·rw[if_pos x3] at hc
      rw[x3];exact PySem.W.kat_yes (PySem.W.kat_nil hc)
     ·rw[if_neg x3] at hc
      have x3':(c1 == c2)=false:=by simpa using x3
      rw[x3'];exact PySem.W.kat_no (PySem.W.kat_one _ _ (lt_int hc))
    ·rw[if_neg x2] at hc
     have x2':(b1 == b2)=false:=by simpa using x2
     rw[x2'];exact PySem.W.kat_no (PySem.W.kat_one _ _ (lt_int hc))
   ·rw[if_neg x1] at hc
    have x1':(a1 == a2)=false:=by simpa using x1
    rw[x1'];exact PySem.W.kat_no (oneLt_int hc)
theorem WI {F:List Addr}{kf:Nat->Int × Int × Int}{a kS:Addr}{j:Nat}{k:Value}{s s':Shared}(h:KA3 F kf a kS s.heap j k) (r:Rl F s s'):KA3 F kf a kS s'.heap j k:=by
 obtain⟨q,t,u,z,e,n1,n2,nf,o,hg,hc,n,hd⟩:=h;exact⟨q,t,u,z,e,n1,n2,nf,o,r.keep q o hg nf,hc,n,hd⟩
theorem KQ {KA:Addr->Heap->Nat->Value->Prop}{kS:Addr}{vs:List Value}{body:Value->PUnit->Sem (ForInStep PUnit)}(K0:Shared->Prop)
  (hb:∀ j x ks (s:Shared) (e:Nat),vs[j]?=some x->ks.length=j->K0 s->s.heap.get? kS=some (seqObj "list" (List.toArray ks) e)->(∀ j k,ks[j]?=some k->KA kS s.heap j k) ->
   wpAny (model prog w) A (body x ⟨⟩) (fun r s'=>r=.yield ⟨⟩/\∃ k e',K0 s'/\s'.heap.get? kS=some (seqObj "list" (List.toArray (ks++[k])) e')/\∀ i k',(ks++[k])[i]?=some k'->KA kS s'.heap i k') E s):
  ∀ (r ks:List Value) (s:Shared) (e:Nat),vs=vs.take ks.length++r->ks.length+r.length=vs.length->K0 s->s.heap.get? kS=some (seqObj "list" (List.toArray ks) e)->(∀ j k,ks[j]?=some k->KA kS s.heap j k) ->
   wpAny (model prog w) A (forIn r PUnit.unit body) (fun _ s'=>∃ ks' e',K0 s'/\s'.heap.get? kS=some (seqObj "list" (List.toArray ks') e')/\ks'.length=vs.length/\∀ i k',ks'[i]?=some k'->KA kS s'.heap i k') E s
 | [],ks,s,e,hv,hl,k0,hk,hK=>by
  rw[List.forIn_nil];exact wpAny_pure ⟨ks,e,k0,hk,by simpa using hl,hK⟩
 | x::r,ks,s,e,hv,hl,k0,hk,hK=>by
  rw[aIp] at hl;rw[List.forIn_cons];have hx:vs[ks.length]?=some x:=by
   rw[hv,List.getElem?_append_right (by rw[aIw];lia)];rw[aIw,Nat.min_eq_left (by lia)];simp
  refine wpAny_bind (wpAny_mono (hb ks.length x ks s e hx rfl k0 hk hK) (fun q s' hq=>?_) fun _ _ x=>x);obtain⟨rfl,k,e',k0',hk',hK'⟩:=hq;show wpAny (model prog w) A (forIn r PUnit.unit body) _ E _;refine KQ K0 hb r (ks++[k]) s' e' ?_ (by rw[aIo,List.length_singleton];lia) k0' hk' hK';have e2:vs.take (ks++[k]).length=vs.take ks.length++[x]:=by
   rw[aIo,List.length_singleton,List.take_succ,hx];rfl
  rw[e2,List.append_assoc];exact hv
theorem aD9 {F:List Addr}{kf:Nat->Int × Int × Int}{a:Addr}{n m0:Nat}{f:Value}{vs:List Value}{P:PySem.Fin->Shared->Prop}(hF:∀ b∈F,b<s.heap.objs.size/\b≠a) (ho:s.heap.get? a=some (seqObj "list" vs.toArray m0)) (hlv:vs.length=n) (h64:n<64)
  (hok:fE n (bX kf) (PySem.W.kas_sort n)=true\/n<2)
  (turn:∀ j x kS (s2:Shared),vs[j]?=some x->s.heap.objs.size<=kS->(∃ o,s2.heap.get? kS=some o)->RlA F a s s2->(∃ e,s2.heap.get? a=some (seqObj "list" #[] e)) ->
   wpAny (model prog w) A (call f [x]) (fun k s'=>Rl F s2 s'/\KA3 F kf a kS s'.heap j k) (fun _ _=>False) s2)
  (h:∀ s' c,RlA F a s s'->s'.heap.get? a=some (seqObj "list" (List.toArray (if n<2 then vs else (dU (bX kf) (PySem.W.kas_sort n)).toList.map fun i=>vs.getD i Value.none)) c)->P (.done (.ret .none)) s'):
  wpAny (model prog w) A (PyProof.Rows.ksk_tree a f false) P E s:=by
 have hla:a<s.heap.objs.size:=aHv ho;have s1:=Heap.SameBut.update s.heap a (Obj.mapSeq fun _=>(#[]:Array Value));obtain⟨e1,ho1⟩:∃ e1,(s.heap.update a (Obj.mapSeq fun _=>(#[]:Array Value))).get? a=some (seqObj "list" #[] e1):=⟨_,get?_update_seq ho fun _=>#[]⟩;have hkS:((s.heap.update a (Obj.mapSeq fun _=>(#[]:Array Value))).push (seqObj "tuple" vs.toArray 0)).objs.size=s.heap.objs.size+1:=by rw[size_push',Heap.size_update]
 unfold PyProof.Rows.ksk_tree;refine wpAny_bind (listItems_at ho rfl ?_);refine wpAny_bind (listUpdate_at ho rfl ?_ (by rw[aHj,sizeLine_eq];lia) (aJx _));refine wpAny_bind (seqEpoch_at ho1 rfl ?_);refine wpAny_bind (wpAny_newTuple ?_ (by show vs.length<=_;rw[sizeLine_eq];lia));refine wpAny_bind (wpAny_newList ?_ (aJx _));refine wpAny_holding ?_;show wpAny _ _ (PyProof.Rows.ksk_rest a f false vs.toArray e1 (.ref ((s.heap.update a (Obj.mapSeq fun _=>(#[]:Array Value))).push (seqObj "tuple" vs.toArray 0)).objs.size)) P E { s with heap:=((s.heap.update a (Obj.mapSeq fun _=>(#[]:Array Value))).push (seqObj "tuple" vs.toArray 0)).push (seqObj "list" #[] 0) };have gk:(((s.heap.update a (Obj.mapSeq fun _=>(#[]:Array Value))).push (seqObj "tuple" vs.toArray 0)).push (seqObj "list" #[] 0)).get? (((s.heap.update a (Obj.mapSeq fun _=>(#[]:Array Value))).push (seqObj "tuple" vs.toArray 0)).objs.size)=some (seqObj "list" (List.toArray []) 0):=aHu _ rfl;have ga:(((s.heap.update a (Obj.mapSeq fun _=>(#[]:Array Value))).push (seqObj "tuple" vs.toArray 0)).push (seqObj "list" #[] 0)).get? a=some (seqObj "list" #[] e1):=aHl _ (aHl _ ho1);have old:∀ b o,b≠a->s.heap.get? b=some o->(((s.heap.update a (Obj.mapSeq fun _=>(#[]:Array Value))).push (seqObj "tuple" vs.toArray 0)).push (seqObj "list" #[] 0)).get? b=some o:=fun b o hb e=>aHl _ (aHl _ ((s1.2 b hb).trans e));rw[hkS] at gk ⊢;generalize ((s.heap.update a (Obj.mapSeq fun _=>(#[]:Array Value))).push (seqObj "tuple" vs.toArray 0)).push (seqObj "list" #[] 0)=h1 at gk ga old ⊢;have hne:s.heap.objs.size+1≠a:=aJn (Nat.lt_succ_of_lt hla);have naF:a ∉ F:=fun z=>(hF a z).2 rfl;have nkF:s.heap.objs.size+1 ∉ F:=fun z=>Nat.not_succ_le_self _ (aJe (hF _ z).1);unfold PyProof.Rows.ksk_rest;refine wpAny_bind (wpAny_rule ?_)
 first
  | rw[List.forIn_toArray]
  | (rw[<- Array.forIn_toList];simp only[List.toList_toArray])
  | rw[<- Array.forIn_toList]
 have r0:RlA F a s { s with heap:=h1 }:=⟨rfl,id,fun b o hb e _=>old b o hb e,fun b o hb e _=>⟨o.slots,old b o hb e⟩⟩;refine wpAny_bind (wpAny_mono (KQ (KA:=KA3 F kf a) (kS:=s.heap.objs.size+1) (vs:=vs) (fun s2=>s2.heap.get? a=some (seqObj "list" #[] e1)/\RlA F a s s2) (fun j x ks s2 e hx hj k0 hk hK=>?_) vs [] { s with heap:=h1 } 0 (by simp) (by simp) ⟨ga,r0⟩ gk (fun j k e=>by simp at e)) (fun _ s' hd=>?_) fun _ _ x=>x)
 ·have hjn:j<n:=by rw[<- hlv];exact (aHf.mp hx).1
  refine wpAny_bind (wpAny_attempt (wpAny_mono (turn j x (s.heap.objs.size+1) s2 hx (Nat.le_succ _) ⟨_,hk⟩ k0.2 ⟨e1,k0.1⟩) (fun k s3 hq=>?_) fun _ _ hF=>hF.elim));obtain⟨kp,kk⟩:=hq;have s3u:=Heap.SameBut.update s3.heap (s.heap.objs.size+1) (Obj.mapSeq (·.push k));have ea:(List.toArray ks).push k=List.toArray (ks++[k]):=by simp
  have hk3:=kp.keep _ _ hk nkF;obtain⟨c2,hc2⟩:∃ c2,(s3.heap.update (s.heap.objs.size+1) (Obj.mapSeq (·.push k))).get? (s.heap.objs.size+1)=some (seqObj "list" (List.toArray (ks++[k])) c2):=⟨_,by rw[<- ea];exact get?_update_seq hk3 (·.push k)⟩
  try dsimp only
  refine wpAny_bind (listUpdate_at (s:=s3) hk3 rfl ?_ (by rw[aHj,sizeLine_eq];lia) (aJg (Nat.le_of_eq (Array.size_push ..)) (by rw[aHj,sizeLine_eq];lia)));refine wpAny_pure ⟨rfl,k,c2,⟨(s3u.2 a hne.symm).trans (kp.keep _ _ k0.1 naF),?_⟩,hc2,fun i k' hi=>?_⟩
  ·exact (k0.2.then kp).upd (Nat.le_succ _) fun b o hb _ e=>(s3u.2 b hb).trans e
  ·have st:∀ i k',KA3 F kf a (s.heap.objs.size+1) s3.heap i k'->KA3 F kf a (s.heap.objs.size+1) (s3.heap.update (s.heap.objs.size+1) (Obj.mapSeq (·.push k))) i k':=fun i k' q=>(HZ (prog:=prog) (w:=w) (A:=A) (n:=n)).stab _ _ _ _ _ q fun b o b1 _ e=>(s3u.2 b b1).trans e
   by_cases hi2:i<ks.length
   ·rw[List.getElem?_append_left hi2] at hi
    exact st i k' (WI (hK i k' hi) kp)
   ·rw[List.getElem?_append_right (by lia)] at hi
    have hi0:i-ks.length=0:=by
     have:=(aHf.mp hi).1;simp at this;lia
    rw[hi0] at hi;have hkk:k=k':=by simpa using hi
    have:i=j:=by lia
    subst this hkk;exact st _ _ kk
 ·obtain⟨ks,e3,k0,hk3,hl3,hK3⟩:=hd
  try dsimp only
  refine wpAny_bind (listItems_at (s:=s') hk3 rfl ?_);refine aD8 (s:=s') HZ hk3 k0.1 hne (by lia) hlv h64 hK3 hok fun h' c kp g=>?_;exact h { s' with heap:=h' } c (k0.2.upd (Nat.le_succ _) fun b o b1 b2 e=>kp b o b1 b2 e) g
end
end G
namespace G
open PySem PySem.Spec PyProof.Rows L2
abbrev bM (y x m:Str):Scope:={ kind:=.function,names:=[(y,.local),(x,.free),(m,.globalImplicit)],isGenerator:=false,isCoroutine:=false,more:=[] }
theorem QI {cells:List (Str × Addr)}{y x m:Str}{cx:Addr}(h:cells.lookup x=some cx):cM cells (bM y x m).names []=some [(x,cx)]:=by
 show cM cells [(y,.local),(x,.free),(m,.globalImplicit)] []=_;unfold cM;rw[if_neg (by decide)];unfold cM;rw[if_pos (by decide),h];show cM cells [(m,.globalImplicit)] _=_;unfold cM;rw[if_neg (by decide)]
 rfl
theorem WT {prog:Program}{w:World}{A:Around}{s:Shared}{y x m:Str}{body:Expr}{yp:Pos}{lam c':Addr}{q:Str}{cl:List (Str × Addr)}{pm ctv u:Value}{Q:Value->Shared->Prop}
  (ho:s.heap.get? lam=some (PySem.W.kla_obj "<lambda>" q (dD y yp) body (bM y x m) cl pm c' ctv)) (hcd:s.heap.CodeRec (.ref c') q) (hroom:A.depth<recursionLimit) (hlim:s.heap.NoLimit)
  (hbind:bindArgs (PySem.W.kla_fn "<lambda>" q (dD y yp) body (bM y x m) cl pm (.ref c') ctv) ⟨[u],[]⟩=pure [(y,u)])
  (h:∀ h1,h1.Ns s.heap.objs.size (fun z=>[(y,u)].reverse.lookup z)->(∀ b o,s.heap.get? b=some o->h1.get? b=some o) ->
   wpAny (model prog w) (A.deeper (newEnv (bM y x m) s.heap.objs.size mainGlobals cl (q ++ ".<locals>.") (some lam) (.ref c') none builtinsNs)) (eval body (newEnv (bM y x m) s.heap.objs.size mainGlobals cl (q ++ ".<locals>.") (some lam) (.ref c') none builtinsNs)) Q (fun _ _=>False) { s with heap:=h1,toks:=s.toks+1 }):
  wpAny (model prog w) A (call (.ref lam) [u]) Q (fun _ _=>False) s:=by
 refine wpAny_call (PySem.W.kla_callFunE hroom ho rfl rfl rfl rfl hcd ?_);rw[hbind];refine wpAny_pure (wpAny_newFunctionEnv (fun z hz=>?_) (fun z hz=>?_) (fun h1 hns hsb=>?_) rfl)
 ·simp only[aHm,List.not_mem_nil,or_false] at hz
  rcases hz with rfl | rfl | rfl<;>simp
 ·cases aJa.mp hz
  simp
 ·have hk₁:∀ b o,s.heap.get? b=some o->h1.get? b=some o:=fun b o e=>hsb.extBut b o (aJo (aHv e)) (aHl _ e)
  exact⟨hlim.keeps hk₁,PySem.W.kla_codeExpr (wpAny_mono (h h1 hns hk₁) (fun v s' hq=>hq) fun _ _ hF=>hF.elim)⟩
abbrev rY (y x m:Str) (cx lam c':Addr) (q:Str) (L:Addr):Env:=newEnv (bM y x m) L mainGlobals [(x,cx)] (q ++ ".<locals>.") (some lam) (.ref c') none builtinsNs
def cxL (X:Cx) (A:Around) (y x m:Str) (cx lam c':Addr) (q:Str) (s:Shared) (H:Hp):Cx where
 prog:=X.prog
 w:=X.w
 K:=X.K
 mg:=X.mg
 base:=X.base
 A:=A.deeper (rY y x m cx lam c' q s.heap.objs.size)
 N:=[y,x]
 s₀:=s
 H₀:=H
 env:=rY y x m cx lam c' q s.heap.objs.size
 outer:=X.stack
 stack:=rY y x m cx lam c' q s.heap.objs.size::X.stack
 ex:=[]
 fn:=fun _=>false
 calm:=true
 pn:=[]
 xe:=fun _ _=>False
section
variable {X:Cx}
theorem VX {A:Around}{y x m q:Str}{cx lam c' pl:Addr}{s:Shared}{H:Hp}{j:Int}{tj:Tok}{h1:Heap}{tk:Nat}(hxy:(x == y)=false) (hd:A.handled=none) (e0:Env0 X.prog X.w X.K X.mg X.base A X.stack s H) (hic:s.heap.IsCell cx (some (.ref pl))) (hcx:H cx=none)
  (hns:h1.Ns s.heap.objs.size (fun z=>[(y,Value.int j tj)].reverse.lookup z)) (kp:∀ b o,s.heap.get? b=some o->h1.get? b=some o):
  Inv (cxL X A y x m cx lam c' q s H) [] [some (.int j),some (.ref pl)] H { s with heap:=h1,toks:=tk }:=by
 have noA:∀ b:Addr,b ∉ (cxL X A y x m cx lam c' q s H).ex:=fun b z=>absurd (show b∈([]:List Addr) from z) (by simp);have lk:∀ z c,[(x,cx)].lookup z=some c->z=x/\c=cx:=fun z c h=>by
  rw[aIx] at h;split at h
  ·rename_i hz
   cases h;exact⟨eq_of_beq hz,rfl⟩
  ·cases h
 have nmY:(bM y x m).names.lookup y=some .local:=by
  show List.lookup y [(y,NameKind.local),(x,NameKind.free),(m,NameKind.globalImplicit)]=_;simp
 have nmX:(bM y x m).names.lookup x=some .free:=by
  show List.lookup x [(y,NameKind.local),(x,NameKind.free),(m,NameKind.globalImplicit)]=_;rw[aIx,hxy];simp
 have hcell:h1.IsCell cx (some (.ref pl)):=by
  obtain⟨o,g1,g2⟩:=hic;exact⟨o,kp _ _ g1,g2⟩
 refine⟨⟨e0.mod,rfl,rfl,rfl,aJf _,fun y z c h1 h2=>?_,fun z hz=>?_,fun z c hf _=>?_,fun _=>hd,Around.frames_deeper e0.frames,.inr ⟨rfl,rfl⟩,fun b z=>absurd z (noA b),e0.bs,e0.bsz,fun b _ _=>noA b,fun b z=>absurd z (noA b),e0.funs,e0.frf⟩,
  rfl,e0.bare,Un.kept kp,⟨_,hns,fun i z v h1 h2 h3=>?_⟩,fun z c h=>?_,e0.hok.fresh (aJf _),fun z c h=>?_,fun p hp=>absurd (show p∈([]:List (Addr × Obj)) from hp) (by simp),e0.hok.kept kp,rfl⟩
 ·exact (lk y c h1).1.trans (lk z c h2).1.symm
 ·have hz:(bM y x m).names.lookup z=some .cell\/(bM y x m).names.lookup z=some .free:=hz
  have:z=x:=by
   have hz:List.lookup z [(y,NameKind.local),(x,NameKind.free),(m,NameKind.globalImplicit)]=some .cell\/List.lookup z [(y,NameKind.local),(x,NameKind.free),(m,NameKind.globalImplicit)]=some .free:=hz;rw[aIx,aIx,aIx] at hz
   by_cases hy:(z == y)=true
   ·rw[hy] at hz;rcases hz with hz | hz<;>cases hz
   ·have hy:(z == y)=false:=by simpa using hy
    rw[hy] at hz
    by_cases hx:(z == x)=true
    ·exact eq_of_beq hx
    ·have hx:(z == x)=false:=by simpa using hx
     rw[hx] at hz
     by_cases hm:(z == m)=true
     ·rw[hm] at hz;rcases hz with hz | hz<;>cases hz
     ·have hm:(z == m)=false:=by simpa using hm
      rw[hm] at hz;rcases hz with hz | hz<;>cases hz
  subst this;exact⟨cx,by show [(z,cx)].lookup z=_;simp⟩
 ·cases hf
 ·have h1:[y,x][i]?=some z:=h1
  match i,h1,h2 with
  | 0,h1,h2=>
   have e1:y=z:=by simpa using h1
   have e2:V.int j=v:=by simpa using h2
   subst e1 e2;exact⟨.int j tj,⟨tj,rfl⟩,.inl ⟨nmY,by simp⟩⟩
  | 1,h1,h2=>
   have e1:x=z:=by simpa using h1
   have e2:V.ref pl=v:=by simpa using h2
   subst e1 e2;exact⟨.ref pl,rfl,.inr ⟨.inr nmX,cx,by show [(x,cx)].lookup x=_;simp,hcell⟩⟩
 ·obtain⟨_,rfl⟩:=lk z c h
  exact⟨_,hcell⟩
 ·obtain⟨_,rfl⟩:=lk z c h
  exact hcx
theorem WR {A:Around}{y x m q:Str}{yp:Pos}{body:Expr}{cx lam c' pl:Addr}{pm ctv:Value}{s:Shared}{H:Hp}{j:Int}{tj:Tok}{o:Obj}{u:HO}{t:TE}{Q:VK}{R:Value->Shared->Prop}(hxy:(x == y)=false) (hd:A.handled=none) (e0:Env0 X.prog X.w X.K X.mg X.base A X.stack s H)
  (hH:∀ b,H b≠none->H b=some (.frz o u)/\s.heap.get? b=some o) (hic:s.heap.IsCell cx (some (.ref pl))) (hcx:H cx=none)
  (ho:s.heap.get? lam=some (PySem.W.kla_obj "<lambda>" q (dD y yp) body (bM y x m) [(x,cx)] pm c' ctv)) (hcd:s.heap.CodeRec (.ref c') q) (hroom:A.depth<recursionLimit)
  (hbind:bindArgs (PySem.W.kla_fn "<lambda>" q (dD y yp) body (bM y x m) [(x,cx)] pm (.ref c') ctv) ⟨[.int j tj],[]⟩=pure [(y,.int j tj)])
  (hb:PE (cxL X A y x m cx lam c' q s H) body t) (ht:t [some (.int j),some (.ref pl)] H Q)
  (hR:∀ v H' k s',Inv (cxL X A y x m cx lam c' q s H) [] [some (.int j),some (.ref pl)] H' s'->aX v k->Q v H'->Rl (frs X.stack) s s'->R k s'):
  wpAny (model X.prog X.w) A (call (.ref lam) [.int j tj]) R (fun _ _=>False) s:=by
 have lim:s.heap.NoLimit:=e0.mod.nolimit.keeps fun b o e=>(e0.bs b o e).1;refine WT ho hcd hroom lim hbind fun h1 hns kp=>?_;have I:=VX (m:=m) (q:=q) (lam:=lam) (c':=c') (tk:=s.toks+1) hxy hd e0 hic hcx hns kp;refine wpAny_mono (hb [] _ _ H _ I ht) (fun k s' hk=>?_) fun _ _ z=>z;obtain⟨v,H',J,rv,hq⟩:=hk;refine hR v H' k s' J rv hq ⟨J.os,fun _=>J.bare,fun b ob e hf=>?_,fun b ob e hf=>?_⟩
 ·cases hb:H b with
  | none=>exact J.base.keep b ob e hb hf (by simp[cxL])
  | some z=>
   obtain⟨e1,e2⟩:=hH b (by rw[hb];simp);rw[e] at e2;cases e2;have:=J.hok b _ (J.base.frzs b _ _ e1);exact this.1
 ·exact J.base.slot b ob e (e0.frf b hf) hf (by simp[cxL])
end
section
variable {X:Cx}{pins:List (Addr × Obj)}{σ:St}{H:Hp}{s:Shared}
theorem WS {x y m:Str}{yp lpos:Pos}{body:Expr}{c P bm cx:Addr}{q:Str}{Qv:Value->Shared->Prop}(I:Inv X pins σ H s) (LK:LamK X.K X.mg c P bm) (hcode:X.env.code=.ref c) (hP:H P=some (.tbc lpos q)) (hq:q=X.env.qual ++ "<lambda>") (hcx:X.env.cells.lookup x=some cx)
  (h:∀ lam c' ctv H' s',Inv X pins σ H' s'->aP H H'->s'.heap.get? lam=some (PySem.W.kla_obj "<lambda>" q (dD y yp) body (bM y x m) [(x,cx)] ((X.mg "__name__").getD .none) c' ctv)->s'.heap.CodeRec (.ref c') q ->
   (∀ b o,b≠P->s.heap.get? b=some o->s'.heap.get? b=some o)->s.heap.objs.size<=lam->H' c'=some (.own P)->Qv (.ref lam) s'):
  wpAny (model X.prog X.w) X.A (eval (.Lambda (dD y yp) body (bM y x m) lpos) X.env) Qv X.xe s:=by
 obtain⟨ps,hPo,ht,hcase⟩:∃ ps:Array Value,s.heap.get? P=some { cls:=.none,data:=.fields ps }/\TriplesOk ps.toList/\(codeAmong lpos ps.toList=none\/∃ (c:Addr) (oc:Obj) (vs:Array Value) (t:Tok),codeAmong lpos ps.toList=some (.ref c)/\H c=some (.own P)/\s.heap.get? c=some oc/\oc.data=.fields vs/\vs[1]?=some (Value.str q t)):=I.hok P _ hP;have C:PySem.W.CodeHd s.heap c P:=PySem.W.codeHd_of_K I.kIn LK.code;have G0:s.heap.Ns mainGlobals X.mg:=I.mod.glob.keeps I.bk;obtain⟨sl,hbm⟩:=LK.mod;have hbo:=I.kIn _ _ hbm;have hbP:bm≠P:=fun z=>by rw[z,hPo] at hbo;cases hbo
 have hgP:mainGlobals≠P:=fun z=>by
  obtain⟨o,es,ep,e,hd,_⟩:=G0;rw[z,hPo] at e;cases e;cases hd
 have hB:s.heap.BuiltinsAt X.mg P:=⟨bm,_,LK.blt,LK.n1,LK.n2,hbP,hbo,rfl,rfl,rfl⟩;have hcl:closureFor (bM y x m) X.env=pure [(x,cx)]:=zF (QI hcx);refine PySem.W.kla_eval rfl ?_;rw[<- hq];rcases hcase with hn | ⟨c',oc,vs,t,hs,hown,hco,hd,hv⟩
 ·refine PySem.W.kla_makeFunction (mg:=X.mg) hcl I.ok.glob G0 hcode C hPo ht hn hgP hB fun c' ctv h' tk hx hge hlt hrec htb=>?_
  have hc'n:H c'=none:=I.hok.fresh hge;have hcP:c'≠P:=fun z=>by rw[z,hP] at hc'n;cases hc'n
  obtain⟨c₂,oc,vs,t,e2,hoc,hd,hv⟩:=hrec;cases e2;have neP:∀ b,H b=none->b≠P:=fun b e z=>by rw[z,hP] at e;cases e
  have kp:∀ b o,b≠P->s.heap.get? b=some o->(h'.push (PySem.W.kla_obj "<lambda>" q (dD y yp) body (bM y x m) [(x,cx)] ((X.mg "__name__").getD .none) c' ctv)).get? b=some o:=fun b o hb e=>aHl _ (hx b o hb e);have nec:∀ b o,H b=some o->b≠c':=fun b o e z=>by rw[z,hc'n] at e;cases e
  have I':=I.un (H':=upd H c' (.own P)) (h':=h'.push (PySem.W.kla_obj "<lambda>" q (dD y yp) body (bM y x m) [(x,cx)] ((X.mg "__name__").getD .none) c' ctv)) (t':=tk)
   ⟨fun b o e n _ _=>kp b o (neP b n) e,fun b o e n _ _=>⟨o.slots,kp b o (neP b n) e⟩,fun b o e n _=>by rw[aR (aJo (aHi (aHv e) hge))];exact n,fun b o e _=>?_,
    fun b xs e=>by rw[aR (nec b _ e)];exact e,fun b o u e=>by rw[aR (nec b _ e)];exact e,fun b ps e=>⟨#[],by rw[aR (nec b _ e),e];simp⟩⟩ (fun b o e=>?_)
  ·exact h _ c' ctv _ _ I' (cX hc'n _) (aHu _ rfl) ⟨c',oc,vs,t,rfl,aHl _ hoc,hd,hv⟩ kp (aJg hge (aJe hlt)) cP
  ·by_cases hb:b=P
   ·subst hb;exact⟨_,aHl _ htb⟩
   ·exact⟨o,kp b o hb e⟩
  ·by_cases hb:b=c'
   ·subst hb
    rw[cP] at e;cases e;exact⟨oc,aHl _ hoc⟩
   ·rw[aR hb] at e
    by_cases hbP':b=P
    ·subst hbP'
     rw[hP] at e;cases e;refine⟨_,aHl _ htb,?_,.inr ⟨c',oc,vs,t,?_,cP,aHl _ hoc,hd,hv⟩⟩
     ·have:=TriplesOk_snoc lpos.line lpos.col (.ref c') _ ht
      simpa using this
     ·have:=codeAmong_snoc (pos:=lpos) (c:=.ref c') _ ht hn
      simpa using this
    ·refine (I.hok b o e).stay (fun b' u hb' e'=>kp b' u ?_ e') (fun b' e'=>by rw[aR (nec b' _ e')];exact e') fun b' xs e'=>by rw[aR (nec b' _ e')];exact e'
     rcases hb' with rfl | hb'
     ·exact hbP'
     ·exact fun z=>by rw[z,hP] at hb';cases hb'
 ·refine PySem.W.kla_makeFunctionHit (mg:=X.mg) hcl I.ok.glob G0 hcode C hPo ht hs hB fun ctv h' tk hk hsz=>?_
  have I':Inv X pins σ H { s with heap:=h'.push (PySem.W.kla_obj "<lambda>" q (dD y yp) body (bM y x m) [(x,cx)] ((X.mg "__name__").getD .none) c' ctv),toks:=tk }:=I.kept fun b o e=>aHl _ (hk b o e);exact h _ c' ctv _ _ I' (aP.refl H) (aHu _ rfl) ⟨c',oc,vs,t,rfl,aHl _ (hk _ _ hco),hd,hv⟩ (fun b o _ e=>aHl _ (hk b o e)) hsz hown
end
section
variable {X:Cx}
def aE2 (K:PySem.W.Frag) (P:Addr) (lpos:Pos) (q:Str) (ix:Nat) (tb:Hp->TE) (ta:TA):TE:=fun σ H Q=>ta σ H fun vs H1=>∃ (n:Nat) (pl:Addr) (ns:List Int) (kf:Nat->Int × Int × Int),vs=[.int (n:Int)]/\H1 P=some (.tbc lpos q)/\σ[ix]?=some (some (.ref pl))/\SqL K H1 pl (ns.map V.int)/\ns.length=n/\n<64 /\
 fD n (bX kf)=true/\(∀ (j:Nat) (H0:Hp),j<n->SqL K H0 pl (ns.map V.int)->tb H0 [some (.int (j:Int)),some (.ref pl)] H0 fun v H'=>∃ q,v=.ref q/\SqT K H' q [.int (kf j).1,.int (kf j).2.1,.int (kf j).2.2]) /\
 ∀ H2 r,aP H1 H2->H2 r=none->Q (.ref r) (upd H2 r (.lst ((eJ n (bX kf)).map V.int)))
theorem aB4 {e : Expr} {ta : TA} {x y m : Str} {yp lpos kpos pos p p2 pos2 : Pos} {body : Expr} {c P bm : Addr} {q : Str} {ix k : Nat} {tb : Hp -> TE}
  (hc : X.calm = true) (hr : Room (k + 3) X.A) (LK : LamK X.K X.mg c P bm) (hcode : X.env.code = .ref c) (hq : q = X.env.qual ++ "<lambda>") (hN : X.N[ix]? = some x) (hkx : X.env.kindOf x = some .cell \/ X.env.kindOf x = some .free)
  (hb : ∀ (A : Around) (cx lam c' : Addr) (s : Shared) (H : Hp), Room k (A.deeper (rY y x m cx lam c' q s.heap.objs.size)) -> PE (cxL X A y x m cx lam c' q s H) body (tb H)) (hyx : (x == y) = false)
  (hbind : ∀ (q : Str) (cl : List (Str × Addr)) (pm cdv ctv u : Value), bindArgs (PySem.W.kla_fn "<lambda>" q (dD y yp) body (bM y x m) cl pm cdv ctv) ⟨[u], []⟩ = pure [(y, u)])
  (hg : Gl X "sorted") (hm : X.mg "sorted" = none) (hgr : Gl X "range") (hmr : X.mg "range" = none) (ha : PA X [e] ta)
  (hs : starEach [e] X.env = [(false, eval e X.env)] := by rfl)
  (he : backTo pos (starEach [Expr.Call (.Name "range" p2) [e] [] pos2] X.env) = [(false, eval (.Call (.Name "range" p2) [e] [] pos2) X.env)] := by rfl)
  (hks : backToKw pos (keywordEach [⟨some "key", .Lambda (dD y yp) body (bM y x m) lpos, kpos⟩] X.env) = [(some ("key" : Str), do let v <- eval (.Lambda (dD y yp) body (bM y x m) lpos) X.env; standAt pos; pure v)] := by rfl) :
  PE X (.Call (.Name "sorted" p) [.Call (.Name "range" p2) [e] [] pos2] [⟨some "key", .Lambda (dD y yp) body (bM y x m) lpos, kpos⟩] pos) (aE2 X.K P lpos q ix tb ta) := by
 intro pins s σ H Q I h;refine wpAny_Call_Name_kw (jF I hg hm PyProof.Rows.boot_sorted ?_ (by decide) (by decide));refine PyProof.Rows.callWith_kw ?_ he (by rw [he]; rfl) (by rw [hks]; rfl) (by rw [hks]; rfl);rw [he, hks];refine Calls.spliced_cons ?_;refine Call_ (jF I hgr hmr boot_range (PyProof.Rows.callWith_type1 (thn (ha pos2 pins s σ H _ I h) fun us s1 ⟨vs, H1, I1, r1, q1⟩ => ?_) hs rfl));obtain ⟨n, pl, ns, kf, e, hP, hsl, hS, hln, h64, hgd, hkey, qq⟩ := q1;subst e;cases r1 with
 | cons r rr =>
 cases rr;obtain ⟨t, rfl⟩ := r;refine call_range_1 ?_;refine Calls.spliced_nil ?_;have I2 : Inv X pins σ H1 { s1 with heap := s1.heap.push { cls := .type "range", data := .fields #[.int 0 s1.toks, .int (n : Int) t, .int 1 (s1.toks + 1)] }, toks := s1.toks + 1 + 1 } := I1.kept fun b o e => aHl _ e;have hrg : IsRange (s1.heap.push { cls := .type "range", data := .fields #[.int 0 s1.toks, .int (n : Int) t, .int 1 (s1.toks + 1)] }) s1.heap.objs.size 0 (n : Int) 1 s1.toks t (s1.toks + 1) := IsRange.new ..;show wpAny _ _ (evalAll [do let v <- eval (.Lambda (dD y yp) body (bM y x m) lpos) X.env; standAt pos; pure v]) _ _ _
 -- the captured list
 obtain ⟨m0, hn0, hl0⟩ := I2.loc;obtain ⟨u0, ru0, lu0⟩ := hl0 ix x (.ref pl) hN hsl (hkx.elim (fun z => .inr (.inl z)) fun z => .inr (.inr z));cases ru0;obtain ⟨cx, hcx, hic⟩ : ∃ cx, X.env.cells.lookup x = some cx /\ (s1.heap.push { cls := .type "range", data := .fields #[.int 0 s1.toks, .int (n : Int) t, .int 1 (s1.toks + 1)] }).IsCell cx (some (.ref pl)) := by
  rcases lu0 with ⟨z, _⟩ | ⟨_, cx, ec, ic⟩
  ·rcases hkx with w | w <;> (rw [z] at w; cases w)
  ·exact ⟨cx, ec, ic⟩
 refine wpAny_evalAll_cons (wpAny_bind (WS I2 LK hcode hP hq hcx fun lam c' ctv H3 s3 I3 sm hlam hcd kp3 hlamge hcown => wpAny_bind (wpAny_standAt (wpAny_pure (wpAny_evalAll_nil ?_)))));show wpAny _ _ (call (.builtin "sorted") [.ref s1.heap.objs.size] [(Str.ofString "key", .ref lam)]) _ _ _;have neP : ∀ b o, (s1.heap.push { cls := .type "range", data := .fields #[.int 0 s1.toks, .int (n : Int) t, .int 1 (s1.toks + 1)] }).get? b = some o -> H1 b = none -> b ≠ P := fun b o _ e z => by rw [z, hP] at e; cases e
 have hrg3 : IsRange s3.heap s1.heap.objs.size 0 (n : Int) 1 s1.toks t (s1.toks + 1) := kp3 _ _ (neP _ _ hrg (I1.hok.fresh (aJf _))) hrg;have hic3 : s3.heap.IsCell cx (some (.ref pl)) := by
  obtain ⟨oc, g1, g2⟩ := hic;exact ⟨oc, kp3 _ _ (neP _ _ g1 (I2.freeC x cx hcx)) g1, g2⟩
 have hS3 : SqL X.K H3 pl (ns.map V.int) := by
  rcases hS with hS | hS
  ·exact .inl (eL (fun o e => sm _ _ e) hS)
  ·exact .inr hS
 obtain ⟨its, rv, plo, hz⟩ := I3.list hS3
 -- the frames that run
 have frLt : ∀ b ∈ frs X.stack, ∃ o, s3.heap.get? b = some o := fun b hb => by
  obtain ⟨_, o, e, _⟩ := I3.stack.mem hb;exact ⟨o, e⟩
 have frNb : ∀ b ∈ frs X.stack, X.base.get? b = none := fun b hb => (I3.stack.mem hb).1;have lamF : lam ∉ frs X.stack := fun hb => by
  obtain ⟨_, o, e, _⟩ := I2.stack.mem hb;exact absurd (aHv e) (Nat.not_lt.mpr hlamge)
 have cF : c' ∉ frs X.stack := fun hb => by
  have := I3.stkFree _ hb;rw [hcown] at this; cases this
 refine call_function_entry_kw kind_sorted plain_sorted entry_sorted (ksk_s1 _ _) ?_;unfold Builtin.«sorted»;refine wpAny_bind (m := checkCount "sorted" 1 1 _) (wpAny_pure ?_);refine wpAny_bind (QK (n := n) (I.ok.hd hc) hrg3 (small_one (by lia) (by lia) (by lia) (by lia)) (by rw [rangeSize_one]; split <;> lia) (by lia) fun h4 tk4 acc sz4 kp4 hi => ?_)
 have hal : acc.toList.length = n := by simpa using hi.1
 have hav : ∀ (j : Nat) v, acc.toList[j]? = some v -> ∃ t, v = Value.int (j : Int) t := fun j v e => by
  obtain ⟨t, rfl⟩ := hi.2 j v (by simpa using e);exact ⟨t, by simp⟩
 refine wpAny_bind (wpAny_newList ?_ (by rw [sizeLine_eq, hal]; lia));have hoL : (h4.push (seqObj "list" acc.toList.toArray 0)).get? h4.objs.size = some (seqObj "list" acc.toList.toArray 0) := aHu _ rfl;have kp5 : ∀ b o, s3.heap.get? b = some o -> (h4.push (seqObj "list" acc.toList.toArray 0)).get? b = some o := fun b o e => aHl _ (kp4 b o e);have nea : ∀ b o, s3.heap.get? b = some o -> b ≠ h4.objs.size := fun b o e => aJo (aHv (kp4 b o e));have sz5 : (h4.push (seqObj "list" acc.toList.toArray 0)).objs.size = h4.objs.size + 1 := aHw ..;refine wpAny_bind (wpAny_holding (wpAny_call_entry_kw slot_list_sort ⟨_, hoL, rfl⟩ entry_list_sort ?_ (ksk_l1 _ _)));show wpAny _ X.A.in1.in1 (Builtin.«list.sort» ⟨[.ref h4.objs.size], [(Str.ofString "key", .ref lam)]⟩) _ _ { s3 with heap := h4.push (seqObj "list" acc.toList.toArray 0), toks := tk4 };rw [ksk_t1];have hok : fE n (bX kf) (PySem.W.kas_sort n) = true \/ n < 2 := by
  have := hgd;unfold fD at this;simp only [aHt, decide_eq_true_eq, aHn] at this;rcases this with z | z
  ·exact .inr z
  ·exact .inl z.1.1
 -- what is kept of the records that were there
 have all : ∀ s2, RlA (frs X.stack) h4.objs.size { s3 with heap := h4.push (seqObj "list" acc.toList.toArray 0), toks := tk4 } s2 -> (∀ b o, s3.heap.get? b = some o -> b ∉ frs X.stack -> s2.heap.get? b = some o) /\ (∀ b o, s3.heap.get? b = some o -> ∃ sl, s2.heap.get? b = some { o with slots := sl }) := fun s2 r => by
  refine ⟨fun b o e hf => r.keep b o (nea b o e) (kp5 b o e) hf, fun b o e => ?_⟩
  by_cases hf : b ∈ frs X.stack
  ·exact r.slot b o (nea b o e) (kp5 b o e) hf
  ·exact ⟨o.slots, r.keep b o (nea b o e) (kp5 b o e) hf⟩
 refine aD9 (s := { s3 with heap := h4.push (seqObj "list" acc.toList.toArray 0), toks := tk4 }) (F := frs X.stack) (kf := kf) (fun b hb => ?_) hoL hal h64 hok (fun j xv kS s2 hx hkS hkS2 r2 hae => ?_) fun s' c7 r7 hout => ?_
 ·obtain ⟨o, e⟩ := frLt b hb
  exact ⟨aHv (kp5 b o e), nea b o e⟩
 ·obtain ⟨all2, slot2⟩ := all s2 r2
  obtain ⟨tx, rfl⟩ := hav j xv hx;have hj : j < n := by rw [<- hal]; exact (aHf.mp hx).1
  -- the list alone is looked at
  have plS : ∃ o, s3.heap.get? pl = some o := by
   obtain ⟨o, _, g, _⟩ := plo;exact ⟨o, g⟩
  have plF : pl ∉ frs X.stack := fun hb => by
   rcases hS3 with z | ⟨o, its, n, hk, _⟩
   ·exact xG z (I3.stkFree _ hb)
   ·have := frNb _ hb
    rw [I3.mod.kin _ _ hk] at this; cases this
  obtain ⟨H0, o0, u0, f1, f2, f3⟩ : ∃ (H0 : Hp) (o0 : Obj) (u : HO), (∀ b, H0 b ≠ none -> b = pl /\ H0 b = some (.frz o0 u) /\ s2.heap.get? b = some o0 /\ H3 b ≠ none) /\ SqL X.K H0 pl (ns.map V.int) /\ HOk X.prog X.w H0 s2.heap := by
   rcases hS3 with z | z
   ·obtain ⟨z1, its1, n1, r1, e1⟩ := z.ok I3.hok
    have e2 := all2 _ _ e1 plF;refine ⟨fun b => if b = pl then some (.frz { cls := .type "list", data := .seq its1.toArray n1 } (.lst (ns.map V.int))) else none, { cls := .type "list", data := .seq its1.toArray n1 }, .lst (ns.map V.int), fun b hb => ?_, .inl (.inr ⟨_, if_pos rfl⟩), fun b ob e => ?_⟩
    ·by_cases hbp : b = pl
     ·refine ⟨hbp, if_pos hbp, by rw [hbp]; exact e2, by rw [hbp]; exact xG z⟩
     ·exact absurd (if_neg hbp) hb
    ·have e : (if b = pl then some (HO.frz { cls := .type "list", data := .seq its1.toArray n1 } (.lst (ns.map V.int))) else none) = some ob := e
     by_cases hbp : b = pl
     ·rw [if_pos hbp] at e
      cases e;rw [hbp];exact ⟨e2, z1, its1, n1, r1, e2⟩
     ·rw [if_neg hbp] at e
      cases e
   ·exact ⟨fun _ => none, { cls := .none, data := .fields #[] }, .lst [], fun b hb => absurd rfl hb, .inr z, fun b ob e => by cases e⟩
  have h0n : ∀ b, H3 b = none -> H0 b = none := fun b hb => by
   cases hq : H0 b with
   | none => rfl
   | some z => exact absurd hb (f1 b (by rw [hq]; simp)).2.2.2
  have hkS' : (h4.push (seqObj "list" acc.toList.toArray 0)).objs.size <= kS := hkS;rw [sz5] at hkS';have s3kS : ∀ b o, s3.heap.get? b = some o -> b ≠ kS := fun b o e => aJo (aHi (aHv e) (aJg (aJg (aJe sz4) (Nat.le_succ _)) hkS'));have e0 : Env0 X.prog X.w X.K X.mg X.base X.A.in1.in1 X.stack s2 H0 := by
   refine ⟨I3.env0.in1.in1.frames, I3.mod, fun b o e => ?_, ?_, ?_, fun b hb => h0n b (I3.stkFree b hb), f3, r2.bare I3.bare⟩
   ·obtain ⟨g1, g2⟩ := I3.bs b o e
    exact ⟨all2 b o g1 (fun hb => by rw [frNb b hb] at e; cases e), h0n b g2⟩
   ·obtain ⟨ok, gk⟩ := hkS2
    exact aJg I3.env0.bsz (aJg (aJg (aJe sz4) (Nat.le_succ _)) (aJg hkS' (aJe (aHv gk))))
   ·exact I3.stack.of_keeps fun b o e _ => by
     obtain ⟨sl, e2⟩ := slot2 b o e;exact ⟨_, e2, rfl⟩
  have hic2 : s2.heap.IsCell cx (some (.ref pl)) := by
   obtain ⟨oc, g1, g2⟩ := hic3;obtain ⟨sl, e2⟩ := slot2 _ _ g1;exact ⟨_, e2, g2⟩
  have hcd2 : s2.heap.CodeRec (.ref c') q := by
   obtain ⟨c2, oc, vs, t, e2, hoc, hd, hv⟩ := hcd;obtain ⟨sl, e3⟩ := slot2 _ _ hoc;exact ⟨c2, _, vs, t, e2, e3, hd, hv⟩
  refine WR (A := X.A.in1.in1) (o := o0) (u := u0) hyx (I.ok.hd hc) e0 (fun b hb => ⟨(f1 b hb).2.1, (f1 b hb).2.2.1⟩) hic2 (h0n cx (I3.freeC x cx hcx)) (all2 _ _ hlam lamF) hcd2 hr.depth (hbind _ _ _ _ _ _) (hb X.A.in1.in1 cx lam c' s2 H0 (hr.in1.in1.deeper _)) (hkey j H0 hj f2) fun v H' k s' J rk hv rl => ⟨rl, ?_⟩;obtain ⟨qa, rfl, hT⟩ := hv;cases rk;obtain ⟨its3, rv3, tp3, _⟩ := J.tuple hT;have inS2 : ∀ b, b = kS \/ b = h4.objs.size \/ b ∈ frs X.stack -> H' b = none := fun b hb => by
   have g : (∃ o, s2.heap.get? b = some o) /\ H0 b = none := by
    rcases hb with rfl | rfl | hb
    ·refine ⟨hkS2, ?_⟩
     cases hq : H0 b with
     | none => rfl
     | some z =>
      obtain ⟨o, e⟩ := plS;exact absurd (f1 b (by rw [hq]; simp)).1.symm (s3kS _ _ e)
    ·refine ⟨?_, ?_⟩
     ·obtain ⟨e, he⟩ := hae
      exact ⟨_, he⟩
     ·cases hq : H0 h4.objs.size with
      | none => rfl
      | some z =>
       obtain ⟨o, e⟩ := plS;exact absurd (f1 _ (by rw [hq]; simp)).1.symm (nea _ _ e)
    ·obtain ⟨o, e⟩ := frLt b hb
     obtain ⟨sl, e2⟩ := slot2 _ _ e;exact ⟨⟨_, e2⟩, h0n b (I3.stkFree b hb)⟩
   obtain ⟨⟨o, e⟩, n0⟩ := g;exact J.base.free b o e n0 (by simp [cxL])
  have apart : ∀ b, b = kS \/ b = h4.objs.size \/ b ∈ frs X.stack -> qa ≠ b := fun b hb z => by
   rcases hT with hT | ⟨o, _, _, hk, _⟩
   ·exact xG hT (by rw [z]; exact inS2 b hb)
   ·have e3 := (I3.bs _ _ (I3.mod.kin _ _ hk)).1
    rcases hb with rfl | rfl | hb
    ·exact s3kS _ _ e3 z
    ·exact nea _ _ e3 z
    ·have := frNb b hb
     rw [<- z, I3.mod.kin _ _ hk] at this; cases this
  cases rv3 with
  | cons a1 r3 =>
  cases r3 with
  | cons a2 r3 =>
  cases r3 with
  | cons a3 r3 =>
  cases r3;obtain ⟨t1, rfl⟩ := a1;obtain ⟨t2, rfl⟩ := a2;obtain ⟨t3, rfl⟩ := a3;exact ⟨qa, t1, t2, t3, rfl, apart _ (.inl rfl), apart _ (.inr (.inl rfl)), fun hb => apart qa (.inr (.inr hb)) rfl, tp3⟩
 ·obtain ⟨all7, slot7⟩ := all s' r7
  have ha3 : H3 h4.objs.size = none := I3.hok.fresh (aJe sz4);have nea' : ∀ b u, H3 b = some u -> b ≠ h4.objs.size := fun b u e z => by rw [z, ha3] at e; cases e
  have nf : ∀ b u, H3 b = some u -> b ∉ frs X.stack := fun b u e hb => by rw [I3.stkFree b hb] at e; cases e
  have I7 : Inv X pins σ (upd H3 h4.objs.size (.lst ((eJ n (bX kf)).map V.int))) s' := by
   refine I3.call' (ch := []) r7.os ⟨fun b o e _ hf _ => all7 b o e hf, fun b o e _ _ _ => slot7 b o e, fun b o e nn _ => by rw [aR (nea b o e)]; exact nn, fun b o e _ => by
     obtain ⟨sl, e2⟩ := slot7 b o e;exact ⟨_, e2⟩, fun b xs e => by rw [aR (nea' b _ e)]; exact e, fun b o u e => by rw [aR (nea' b _ e)]; exact e, fun b ps e => ⟨#[], by rw [aR (nea' b _ e), e]; simp⟩⟩ (fun b o e => ?_) (r7.bare I3.bare) fun b hb => absurd hb (by simp)
   by_cases hba : b = h4.objs.size
   ·subst hba
    rw [cP] at e;cases e;refine ⟨?_, _, c7, HW hal hav hgd, hout⟩;have := (HW hal hav hgd).length;rw [this, sizeLine_eq]
    split
    ·lia
    ·rw [aIr]
     have hg2 := hgd;unfold fD at hg2;simp only [aHt, decide_eq_true_eq, aHn] at hg2;lia
   ·rw [aR hba] at e
    refine (I3.hok b o e).stay (fun b' u hb' e' => all7 b' u e' ?_) (fun b' e' => by rw [aR (nea' b' _ e')]; exact e') fun b' xs e' => by rw [aR (nea' b' _ e')]; exact e'
    rcases hb' with rfl | hb'
    ·exact nf _ _ e
    ·exact nf _ _ hb'
  exact ⟨_, rfl, wpAny_pure ⟨_, rfl, .ref h4.objs.size, _, I7, rfl, qq H3 _ sm ha3⟩⟩
end
def gK (F:List T->Option T):List Int->Option (List Int)
 | []=>some []
 | a::r=>match F [.int a] with
  | some (.int c)=>(gK F r).map (c :: ·)
  | _=>none
theorem EC {F:List T->Option T}:∀ {ns cs:List Int},gK F ns=some cs->cs.length=ns.length/\∀ (j:Nat) p,ns[j]?=some p->∃ c,cs[j]?=some c/\F [.int p]=some (.int c)
 | [],cs,h=>by
  cases (aHa h);exact⟨rfl,fun j p e=>by simp at e⟩
 | a::r,cs,h=>by
  unfold gK at h;split at h
  ·rename_i c hc
   cases e:gK F r with
   | none=>rw[e] at h;cases h
   | some l=>
    rw[e] at h;cases (aHa h);obtain⟨h1,h2⟩:=EC e;refine⟨by simp[h1],fun j p ej=>?_⟩;cases j with
    | zero=>
     cases (show some a=some p from ej);exact⟨c,rfl,hc⟩
    | succ j=>exact h2 j p ej
  ·cases h
theorem ED {F:List T->Option T}{g:Int->Int}:∀ {ns:List Int},(∀ a∈ns,F [.int a]=some (.int (g a)))->gK F ns=some (ns.map g)
 | [],_=>rfl
 | a::r,h=>by
  unfold gK;rw[h a (by simp),ED fun b hb=>h b (aHd _ hb)]
  rfl
def kf3 (cs ns:List Int) (j:Nat):Int × Int × Int:=(cs.getD j 0,ns.getD j 0,(j:Int))
def wV (F:List T->Option T):List T->T->Option T
 | [.int n],.lst us=>(dP us).bind fun ns=>(gK F ns).bind fun cs=>if n=(ns.length:Int)/\ns.length<64/\fD ns.length (bX (kf3 cs ns))=true then some (.lst (tI (eJ ns.length (bX (kf3 cs ns))))) else none
 | _,_=>none
def zP (fa:Rho->Option (List T)) (ix:Nat) (F:List T->Option T):Rho->Option T:=fun ρ=>(fa ρ).bind fun ts=>(aA ix ρ).bind fun t=>wV F ts t
@[simp] theorem fSKM_at (fa:Rho->Option (List T)) (ix:Nat) (F:List T->Option T) (ρ:Rho):zP fa ix F ρ=(fa ρ).bind fun ts=>(aA ix ρ).bind fun t=>wV F ts t:=id rfl
theorem YK {F:List T->Option T}{ns cs:List Int}{n:Int}(hn:n=(ns.length:Int)) (h:ns.length<64) (hc:gK F ns=some cs) (hg:fD ns.length (bX (kf3 cs ns))=true):wV F [.int n] (.lst (tI ns))=some (.lst (tI (eJ ns.length (bX (kf3 cs ns))))):=by
 simp[wV,rF,hn,h,hg,hc]
abbrev fbM (F:List T->Option T):Rho->Option T:=eV (aC (aJ (aC (f2 (aA 1) (aA 0) oIx) aF) F) (aC (f2 (aA 1) (aA 0) oIx) (aC (aA 0) aF)))
theorem SR {F:List T->Option T}{ns:List Int}{j:Nat}{p c:Int}(hj:ns[j]?=some p) (hc:F [.int p]=some (.int c)):fbM F [some (.int (j:Int)),some (.lst (tI ns))]=some (.tup [.int c,.int p,.int (j:Int)]):=by
 have hi:oIx (.lst (tI ns)) (.int (j:Int))=some (.int p):=by
  show atI (tI ns) (j:Int)=_;obtain⟨hl,he⟩:=aHf.mp hj;rw[cA hl]
  congr 2
  rw[aHb,hj]
  rfl
 have h3:3<=cap:=by decide
 simp[fbM,eV,aC,aF,aJ,f2,aA,hi,hc,h3]
section
variable {X:Cx}{B:Hp}{fl:List Nat}{e:Expr}{fa:Rho->Option (List T)}{l':Nat}
theorem TJ {A:Around}{y x m q:Str}{cx lam c':Addr}{s:Shared}{H:Hp}{k l kt:Nat}{n:Bool}{ps:List Str}{F:List T->Option T}{p1 p2 p3 p4 p5 p6 p7 p8 p9 p10:Pos}
  (C:Cal X.prog X.w X.K X.mg X.base m k ps F n l) (hr:Room k (A.deeper (rY y x m cx lam c' q s.heap.objs.size))) (hl:(decide (l=0)||decide (l=3))=true)
  (nmY:(bM y x m).names.lookup y=some .local) (nmX:(bM y x m).names.lookup x=some .free) (nmM:(bM y x m).names.lookup m=some .globalImplicit)
  (dx:(x == ("__debug__" : Str))=false) (dy:(y == ("__debug__" : Str))=false) (dm:(m == ("__debug__" : Str))=false) (cdx:(x == ("__classdict__" : Str))=false) (cdy:(y == ("__classdict__" : Str))=false):
  GE (cxL X A y x m cx lam c' q s H) H [1,1] (.Tuple [.Call (.Name m p1) [.Subscript (.Name x p2) (.Name y p3) p4] [] p5,.Subscript (.Name x p6) (.Name y p7) p8,.Name y p9] kt p10) (fbM F) true (min l (min 1 (min 1 3))):=by
 have vx:∀ {p:Pos},GE (cxL X A y x m cx lam c' q s H) H [1,1] (.Name x p) (aA 1) false 1:=aB 1 rfl (.inr (.inr nmX)) dx cdx;have vy:∀ {p:Pos},GE (cxL X A y x m cx lam c' q s H) H [1,1] (.Name y p) (aA 0) false 1:=aB 0 rfl (.inl nmY) dy cdy;exact rR (aD (aU (X:=cxL X A y x m cx lam c' q s H) C hr nmM (aD (aY vx vy) aG) hl dm) (aD (aY vx vy) (aD vy aG)))
theorem UE {z z2 kk x y m:Str}{yp lpos kpos pos p p2 pos2 p1 p3 p4 p5 p6 p7 p8 p9 p10 p11:Pos}{kt:Nat}{c Pt bm:Addr}{q:Str}{ix k l:Nat}{n:Bool}{ps:List Str}{F:List T->Option T}
  (hz:z = "sorted") (hz2:z2 = "range") (hkk:kk = "key")
  (hB:B Pt=some (.tbc lpos q)) (hc:X.calm=true) (hr:Room (k+3) X.A) (LK:LamK X.K X.mg c Pt bm) (hcode:X.env.code=.ref c) (hq:q=X.env.qual ++ "<lambda>") (hN:X.N[ix]?=some x) (hfl:1<=fl.getD ix 1)
  (hkx:X.env.kindOf x=some .cell\/X.env.kindOf x=some .free) (C:Cal X.prog X.w X.K X.mg X.base m k ps F n l) (hl:(decide (l=0)||decide (l=3))=true) (hyx:(x == y)=false)
  (nmY:(bM y x m).names.lookup y=some .local) (nmX:(bM y x m).names.lookup x=some .free) (nmM:(bM y x m).names.lookup m=some .globalImplicit)
  (dx:(x == ("__debug__" : Str))=false) (dy:(y == ("__debug__" : Str))=false) (dm:(m == ("__debug__" : Str))=false) (cdx:(x == ("__classdict__" : Str))=false) (cdy:(y == ("__classdict__" : Str))=false)
  (hbind:∀ (q:Str) (cl:List (Str × Addr)) (pm cdv ctv u:Value),bindArgs (PySem.W.kla_fn "<lambda>" q (dD y yp) (.Tuple [.Call (.Name m p1) [.Subscript (.Name x p11) (.Name y p3) p4] [] p5,.Subscript (.Name x p6) (.Name y p7) p8,.Name y p9] kt p10) (bM y x m) cl pm cdv ctv) ⟨[u],[]⟩=pure [(y,u)])
  (hg:Gl X z) (hm:X.mg z=none) (hgr:Gl X z2) (hmr:X.mg z2=none) (ha:GA X B fl [e] fa l')
  (hs:starEach [e] X.env=[(false,eval e X.env)]:=by rfl)
  (he:backTo pos (starEach [Expr.Call (.Name z2 p2) [e] [] pos2] X.env)=[(false,eval (.Call (.Name z2 p2) [e] [] pos2) X.env)]:=by rfl)
  (hks:backToKw pos (keywordEach [⟨some kk,.Lambda (dD y yp) (.Tuple [.Call (.Name m p1) [.Subscript (.Name x p11) (.Name y p3) p4] [] p5,.Subscript (.Name x p6) (.Name y p7) p8,.Name y p9] kt p10) (bM y x m) lpos,kpos⟩] X.env)=[(some kk,do let v <- eval (.Lambda (dD y yp) (.Tuple [.Call (.Name m p1) [.Subscript (.Name x p11) (.Name y p3) p4] [] p5,.Subscript (.Name x p6) (.Name y p7) p8,.Name y p9] kt p10) (bM y x m) lpos) X.env;standAt pos;pure v)]:=by rfl):
  GE X B fl (.Call (.Name z p) [.Call (.Name z2 p2) [e] [] pos2] [⟨some kk,.Lambda (dD y yp) (.Tuple [.Call (.Name m p1) [.Subscript (.Name x p11) (.Name y p3) p4] [] p5,.Subscript (.Name x p6) (.Name y p7) p8,.Name y p9] kt p10) (bM y x m) lpos,kpos⟩] pos) (zP fa ix F) true 3:=by
 subst hz hz2 hkk;refine bB (aB4 (P:=Pt) (k:=k) (tb:=fun H=>tG X.K H [1,1] (fbM F) true (min l (min 1 (min 1 3)))) hc hr LK hcode hq hN hkx (fun A cx lam c' s H hr'=>TJ C hr' hl nmY nmX nmM dx dy dm cdx cdy) hyx hbind hg hm hgr hmr ha hs he hks) ?_;rintro σ H Q ⟨Ex,ρ,M,t,S,hf,qq⟩;obtain⟨ts,hts,hf⟩:=bind_some hf;obtain⟨t0,ht0,hf⟩:=bind_some hf;refine⟨Ex,ρ,M,ts,S,hts,fun vs H1 s1 r1=>?_⟩
 match ts,t0,hf with
 | [.int n],.lst us,hf=>
  have hf:((dP us).bind fun ns=>(gK F ns).bind fun cs=>if n=(ns.length:Int)/\ns.length<64/\fD ns.length (bX (kf3 cs ns))=true then some (T.lst (tI (eJ ns.length (bX (kf3 cs ns))))) else none)=some t:=hf;obtain⟨ns,hns,hf2⟩:=bind_some hf;obtain⟨cs,hcs,hf3⟩:=bind_some hf2
  clear hf hf2
  split at hf3
  ·rename_i hcd
   obtain⟨rfl,h64,hgd⟩:=hcd;have et:=aHa hf3;subst et;cases rE hns;obtain⟨y0,rfl,ry⟩:=eM r1;cases (show _=_ from ry);have e0:ρ[ix]?=some (some (.lst (tI ns))):=by
    unfold aA at ht0;cases h:ρ[ix]? with
    | none=>rw[h] at ht0;cases ht0
    | some o=>rw[h] at ht0;cases (show o=some _ from ht0);rfl
   obtain⟨v,ev,rv⟩:=(S.grow s1).slot ix _ e0 (.inl hfl);obtain⟨a,xs,rfl,h1,h2⟩:=rv.sqL;cases sS h2;obtain⟨hcl,hca⟩:=EC hcs;refine⟨ns.length,a,ns,kf3 cs ns,rfl,(S.same.trans s1) _ _ hB,ev,h1,rfl,h64,hgd,fun j H0 hj hS=>?_,fun H2 r sm hr=>qq _ _ ((s1.trans sm).trans (cX hr _)) (aO.laid (s1.trans sm) hr (BU _))⟩;obtain⟨pv,hpv⟩:∃ pv,ns[j]?=some pv:=⟨_,aHc (by lia)⟩;obtain⟨c0,hc0,hF⟩:=hca j pv hpv;have rr:RepL X.K H0 (fun _=>True) [T.int (j:Int),T.lst (tI ns)] [V.int (j:Int),V.ref a]:=by
    refine⟨_,_,rfl,rfl,_,_,rfl,⟨a,ns.map V.int,rfl,?_,BU ns⟩,rfl⟩;rcases hS with hS | hS
    ·exact .inl ⟨trivial,hS⟩
    ·exact .inr hS
   have S0:=yJ (K:=X.K) (H:=H0) (fl:=[1,1]) (N:=[y,x]) (ps:=[y,x]) (ts:=[T.int (j:Int),T.lst (tI ns)]) (vs:=[V.int (j:Int),V.ref a]) rfl (fun i hi=>by
    match i,hi with
    | 0,_=>rfl
    | 1,_=>rfl) rfl rr (by simp)
   refine⟨[],_,[],_,S0,SR hpv hF,fun v H' sm' rv'=>?_⟩;obtain⟨qa,ys,rfl,hq1,hq2⟩:=(rv'.rep S0).sqT;refine⟨qa,rfl,?_⟩;obtain⟨x1,r1,rfl,e1,x2,r2,rfl,e2,x3,r3,rfl,e3,rfl⟩:=hq2;cases (show x1=_ from e1);cases (show x2=_ from e2);cases (show x3=_ from e3);have k1:(kf3 cs ns j).1=c0:=by show cs.getD j 0=_;rw[aHb,hc0];rfl
   have k2:(kf3 cs ns j).2.1=pv:=by show ns.getD j 0=_;rw[aHb,hpv];rfl
   rw[k1,k2];exact hq1
  ·cases hf3
end
section
variable {X:Cx}{pins:List (Addr × Obj)}{σ:St}{H:Hp}{s:Shared}
end
section
variable {X:Cx}
end
section
variable {X:Cx}{B:Hp}{fl:List Nat}{i:Nat}{W:List Nat}{dp:T->Bool}{body:List Stmt}{rp:Rho->Option Out}{e:Expr}{f:Rho->Option T}{x y:Str}{n':Bool}{l':Nat}{pos pos':Pos}
def IR (i:Nat) (W:List Nat) (ρ ρ2:Rho):Rho:=(List.range ρ.length).map fun j=>if j=i then none else if j∈W then (match ρ2[j]? with | some (some u)=>if scal u then some u else none | _=>none) else (ρ[j]?).join
def aCa (i:Nat) (W:List Nat) (dp:T->Bool) (f:Rho->Option T) (rp:Rho->Option Out):Rho->Option Out:=fun ρ=>(f ρ).bind fun t=>if dp t then (rp (ρ.set i (some t))).bind fun o=>(match o with | .nx ρ2=>some (.nx (IR i W ρ ρ2)) | .rt u=>if scal u then some (.rt u) else none | _=>none) else none
@[simp] theorem rSpoil_at (i:Nat) (W:List Nat) (dp:T->Bool) (f:Rho->Option T) (rp:Rho->Option Out) (ρ:Rho):aCa i W dp f rp ρ=(f ρ).bind fun t=>if dp t then (rp (ρ.set i (some t))).bind fun o=>(match o with | .nx ρ2=>some (.nx (IR i W ρ ρ2)) | .rt u=>if scal u then some (.rt u) else none | _=>none) else none:=id rfl
end
end G
namespace L2
open PySem PySem.Spec PyProof.Rows
def rem (S:List Addr) (h:Heap):Heap:={ h with objs:=h.objs.mapIdx fun i o=>if i∈S then { o with data:=.freed } else o }
theorem kA {S:List Addr}{h:Heap}{b:Addr}(hb:b∈S):(rem S h).get? b=none:=by
 unfold rem Heap.get?;simp only[Array.getElem?_mapIdx];cases h.objs[b]? with
 | none=>rfl
 | some o=>simp[hb]
theorem fX {S:List Addr}{h:Heap}{b:Addr}(hb:b ∉ S):(rem S h).get? b=h.get? b:=by
 unfold rem Heap.get?;simp only[Array.getElem?_mapIdx];cases e:h.objs[b]? with
 | none=>rfl
 | some o=>simp[hb]
theorem xH (S:List Addr) (h:Heap):(rem S h).StaysIn h:=fun b o e=>by
 by_cases hb:b∈S
 ·rw[kA hb] at e;cases e
 ·rw[fX hb] at e;exact e
theorem rP {S:List Addr}{h B:Heap}:∀ {l:List Env},(∀ b∈frs l,b∈S)->h.FunFrames B l->h.FunFrames (rem S h) l
 | [],_,_=>by unfold Heap.FunFrames;trivial
 | env::l,hs,hf=>by
  unfold Heap.FunFrames at hf ⊢;obtain⟨k,⟨L,o,f,_,g,d⟩,r⟩:=hf;have hL:L∈frs (env::l):=by
   unfold frs;exact aJ5.mpr ⟨env,aHe,f⟩
  refine⟨k,⟨L,o,f,kA (hs L hL),g,d⟩,rP (fun b hb=>hs b ?_) r⟩;unfold frs at hb ⊢;obtain⟨e,he,hx⟩:=aJ5.mp hb;exact aJ5.mpr ⟨e,aHd _ he,hx⟩
theorem cL.there {P:Program}{w:World}{H:Hp}{h:Heap}{a:Addr}{o:HO}(x:cL P w H h a o):∃ u,h.get? a=some u:=by
 induction o with
 | lst xs=>obtain⟨_,_,_,_,e⟩:=x;exact⟨_,e⟩
 | tup xs=>obtain⟨_,_,_,ob,e,_⟩:=x;exact⟨_,e⟩
 | dK kvs=>obtain⟨_,_,_,_,o,_,_,e,_⟩:=x;exact⟨_,e⟩
 | dT kvs=>obtain⟨_,_,_,_,o,_,_,e,_⟩:=x;exact⟨_,e⟩
 | set S n=>obtain⟨o,_,_,_,e,_⟩:=x;exact⟨_,e⟩
 | ins C dx fs=>obtain⟨_,_,_,e,_⟩:=x;exact⟨_,e⟩
 | own y=>exact x
 | xd fs=>obtain⟨_,⟨_,_,_,e,_⟩,_⟩:=x;exact⟨_,e⟩
 | rng lo hi=>obtain⟨_,_,_,e⟩:=x;exact⟨_,e⟩
 | frz ob u ih=>exact⟨_,x.1⟩
 | tbl ps=>exact⟨_,x⟩
 | met f y=>exact⟨_,x⟩
 | ext φ=>exact x.2.1
 | tbc pos q=>obtain⟨_,e,_⟩:=x;exact⟨_,e⟩
structure Air (fr:Bool) (h₀:Heap) (H:Hp) (a:Addr) (cls:Value) (h:Heap):Prop where
 new:h₀.get? a=none
 free:H a=none
 obj:∃ oe vs a0,h.get? a=some oe/\oe.cls=cls/\oe.data=.fields vs/\vs[0]?=some a0/\((fr=true/\vs[1]?=some .none) \/
  ∃ T oT ts,fr=false/\vs[1]?=some (.ref T)/\h₀.get? T=none/\H T=none/\T≠a/\h.get? T=some oT/\oT.data=.fields ts/\ts[3]?=some .none)
def CX1 (P:Program) (w:World):CXT:=fun outer H s E e s'=>∃ a cls H',e=.ref a/\s'.os=s.os/\AllBare s'.gens/\Un (frs outer) [] H H' s.heap s'.heap/\HOk P w H' s'.heap/\Air false s.heap H' a cls s'.heap/\E cls none H'
theorem IC {P:Program}{w:World}{l:List Env}{H H':Hp}{h₀ h h' B0:Heap}{a:Addr}{cls a0:Value}{fr:Bool}(un:Un (frs l) [] H H' h₀ h) (hok:HOk P w H' h) (hff:h.FunFrames B0 l) (hfree:∀ b∈frs l,H' b=none) (x:Air fr h₀ H' a cls h) (S:List Addr)
  (hS2:∀ b∈S,b∈frs l\/(h₀.get? b=none/\H' b=none)) (hl:(rem S h).LeftW l a cls a0 h h'):Un (frs l) [] H H' h₀ h'/\HOk P w H' h'/\Air false h₀ H' a cls h':=by
 obtain⟨st,ff,trc,slo⟩:=hl;have noS:∀ b o,h₀.get? b=some o->b ∉ frs l->b ∉ S:=fun b o e hb hbS=>by
  rcases hS2 b hbS with z | ⟨z,_⟩
  ·exact hb z
  ·rw[e] at z;cases z
 have tracked:∀ b o,H' b=some o->b ∉ S:=fun b o e hbS=>by
  rcases hS2 b hbS with z | ⟨_,z⟩
  ·rw[hfree b z] at e;cases e
  ·rw[z] at e;cases e
 refine⟨⟨?_,?_,un.free,?_,un.tups,un.frzs,un.tbls⟩,?_,⟨x.new,x.free,?_⟩⟩
 ·intro b o e n hb hx
  have e1:=un.keep b o e n hb hx;exact st b o (by rw[fX (noS b o e hb)];exact e1)
 ·intro b o e n hb hx
  obtain⟨sl,e1⟩:=un.slot b o e n hb hx;obtain⟨_,o2,e2,nd⟩:=hff.mem hb;obtain⟨sl',e3⟩:=slo b o2 e2 nd;rw[e1] at e2;cases aHa e2;exact⟨sl',e3⟩
 ·intro b o e hx
  by_cases hb:b∈frs l
  ·obtain⟨_,o2,e2,nd⟩:=hff.mem hb
   obtain⟨sl',e3⟩:=slo b o2 e2 nd;exact⟨_,e3⟩
  ·obtain⟨o',e1⟩:=un.there b o e hx
   exact⟨o',st b o' (by rw[fX (noS b o e hb)];exact e1)⟩
 ·intro b o e
  refine (hok b o e).stay (fun b' u hb' g'=>?_) (fun _ z=>z) fun _ _ z=>z;have:b' ∉ S:=by
   rcases hb' with rfl | hb'
   ·exact tracked _ _ e
   ·exact tracked _ _ hb'
  exact st b' u (by rw[fX this];exact g')
 ·obtain⟨oe',vs',T,oT,ts,t1,⟨t2,t2'⟩,t3,t4,t5,t6,t7,t8,t9⟩:=trc
  refine⟨oe',vs',a0,t1,t2,t3,t2',.inr ⟨T,oT,ts,rfl,t4,?_,?_,t6,t7,t8,t9⟩⟩
  ·by_cases hT:T∈S
   ·rcases hS2 T hT with z | ⟨z,_⟩
    ·obtain⟨_,o2,e2,nd⟩:=ff.mem z
     rw[t7] at e2;cases aHa e2;exact absurd t8 (nd _)
    ·exact z
   ·rw[fX hT] at t5
    cases e0:h₀.get? T with
    | none=>rfl
    | some o=>
     obtain⟨o',e1⟩:=un.there T o e0 (by simp);rw[t5] at e1;cases e1
  ·by_cases hT:T∈S
   ·rcases hS2 T hT with z | ⟨_,z⟩
    ·obtain⟨_,o2,e2,nd⟩:=ff.mem z
     rw[t7] at e2;cases aHa e2;exact absurd t8 (nd _)
    ·exact z
   ·rw[fX hT] at t5
    cases e0:H' T with
    | none=>rfl
    | some o=>
     obtain⟨u,e1⟩:=(hok T o e0).there;rw[t5] at e1;cases e1
theorem WW {X:Cx}{pins:List (Addr × Obj)}{σ:St}{H:Hp}{s:Shared}{a:Addr}{cls:Value}{E:XK}{E':Value->Shared->Prop}{fr:Bool}(I:Inv X pins σ H s) (hst:X.stack=X.env::X.outer) (hL:X.env.frame=some X.env.locals) (hex:X.ex=[])
  (x:Air fr X.s₀.heap H a cls s.heap) (q:E cls none H):wpAny (model X.prog X.w) X.A (leaving X.env (.ref a)) (fun _ s''=>CX1 X.prog X.w X.outer X.H₀ X.s₀ E (.ref a) s'') E' s:=by
 have hfr:X.A.frames=some (X.env::X.outer):=by rw[<- hst];exact I.ok.frames
 have hff:s.heap.FunFrames X.base (X.env::X.outer):=by rw[<- hst];exact I.stack
 have hfree:∀ b∈frs (X.env::X.outer),H b=none:=by rw[<- hst];exact I.stkFree
 have hbase:=I.base;rw[hex] at hbase;obtain⟨oe,vs,a0,g,c,d,v0,tr⟩:=x.obj;have main:∀ (S:List Addr),(∀ b∈frs (X.env::X.outer),b∈S)->(∀ b∈S,b∈frs (X.env::X.outer)\/(X.s₀.heap.get? b=none/\H b=none))->a∈S->∀ h',(rem S s.heap).LeftW (X.env::X.outer) a oe.cls a0 s.heap h'->CX1 X.prog X.w X.outer X.H₀ X.s₀ E (.ref a) { heap:=h',gens:=s.gens,drawn:=s.drawn,toks:=s.toks,os:=s.os }:=by
  intro S hS1 hS2 ha h' hl;obtain⟨st,ff,trc,slo⟩:=hl;have noS:∀ b o,X.s₀.heap.get? b=some o->b ∉ frs X.outer->b ∉ S:=fun b o e hb hbS=>by
   rcases hS2 b hbS with z | ⟨z,_⟩
   ·unfold frs at z
    obtain⟨env,he,hx⟩:=aJ5.mp z;rcases aHm.mp he with rfl | he
    ·rw[hL] at hx
     have h1:=aHa hx;have h2:=aHv e;exact absurd h2 (by rw[<- h1];exact Nat.not_lt.mpr I.ok.above)
    ·exact hb (aJ5.mpr ⟨env,he,hx⟩)
   ·rw[e] at z;cases z
  have inOuter:∀ b,b∈frs X.outer->b∈frs (X.env::X.outer):=fun b hb=>by
   unfold frs at hb ⊢;obtain⟨e,he,hx⟩:=aJ5.mp hb;exact aJ5.mpr ⟨e,aHd _ he,hx⟩
  have tracked:∀ b o,H b=some o->b ∉ S:=fun b o e hbS=>by
   rcases hS2 b hbS with z | ⟨_,z⟩
   ·rw[hfree b z] at e;cases e
   ·rw[z] at e;cases e
  refine⟨a,cls,H,rfl,I.os,I.bare,⟨?_,?_,?_,?_,hbase.tups,hbase.frzs,hbase.tbls⟩,?_,⟨x.new,x.free,?_⟩,q⟩
  ·intro b o e n hb hx
   have e1:=hbase.keep b o e n hb hx;exact st b o (by rw[fX (noS b o e hb)];exact e1)
  ·intro b o e n hb hx
   obtain⟨sl,e1⟩:=hbase.slot b o e n hb hx;obtain⟨_,o2,e2,nd⟩:=hff.mem (inOuter b hb);obtain⟨sl',e3⟩:=slo b o2 e2 nd;rw[e1] at e2;cases aHa e2;exact⟨sl',e3⟩
  ·exact hbase.free
  ·intro b o e hx
   by_cases hb:b∈frs X.outer
   ·obtain⟨_,o2,e2,nd⟩:=hff.mem (inOuter b hb)
    obtain⟨sl',e3⟩:=slo b o2 e2 nd;exact⟨_,e3⟩
   ·obtain⟨o',e1⟩:=hbase.there b o e hx
    exact⟨o',st b o' (by rw[fX (noS b o e hb)];exact e1)⟩
  ·intro b o e
   refine (I.hok b o e).stay (fun b' u hb' g'=>?_) (fun _ z=>z) fun _ _ z=>z;have:b' ∉ S:=by
    rcases hb' with rfl | hb'
    ·exact tracked _ _ e
    ·exact tracked _ _ hb'
   exact st b' u (by rw[fX this];exact g')
  ·obtain⟨oe',vs',T,oT,ts,t1,⟨t2,t2'⟩,t3,t4,t5,t6,t7,t8,t9⟩:=trc
   refine⟨oe',vs',a0,t1,by rw[t2,c],t3,t2',.inr ⟨T,oT,ts,rfl,t4,?_,?_,t6,t7,t8,t9⟩⟩
   ·by_cases hT:T∈S
    ·rcases hS2 T hT with z | ⟨z,_⟩
     ·obtain⟨_,o2,e2,nd⟩:=ff.mem z
      rw[t7] at e2;cases aHa e2;exact absurd t8 (nd _)
     ·exact z
    ·rw[fX hT] at t5
     cases e0:X.s₀.heap.get? T with
     | none=>rfl
     | some o=>
      obtain⟨o',e1⟩:=hbase.there T o e0 (by simp);rw[t5] at e1;cases e1
   ·by_cases hT:T∈S
    ·rcases hS2 T hT with z | ⟨_,z⟩
     ·obtain⟨_,o2,e2,nd⟩:=ff.mem z
      rw[t7] at e2;cases aHa e2;exact absurd t8 (nd _)
     ·exact z
    ·rw[fX hT] at t5
     cases e0:H T with
     | none=>rfl
     | some o=>
      obtain⟨u,e1⟩:=(I.hok T o e0).there;rw[t5] at e1;cases e1
 rcases tr with ⟨_,tr⟩ | ⟨T,oT,ts,_,t1,t2,t3,t4,t5,t6,t7⟩
 ·refine wpAny_leaving_firstW (a0:=a0) (base:=rem (frs (X.env::X.outer)++[a]) s.heap) hfr (rP (fun b hb=>aJ2 _ hb) hff) hL g (xH _ _) (kA (by simp)) d tr v0 fun h' hl=>?_
  exact main _ (fun b hb=>aJ2 _ hb) (fun b hb=>by
   rcases aJ1.mp hb with z | z
   ·exact .inl z
   ·rw[aJa] at z;subst z;exact .inr ⟨x.new,x.free⟩) (by simp) h' hl
 ·refine wpAny_leaving_nextW (base:=rem (frs (X.env::X.outer)++[a,T]) s.heap) (cls:=oe.cls) (a0:=a0) hfr (rP (fun b hb=>aJ2 _ hb) hff) hL ⟨oe,vs,T,oT,ts,g,⟨rfl,v0⟩,d,t1,kA (by simp),t4,t5,t6,t7⟩ (xH _ _) (kA (by simp)) fun h' hl=>?_
  exact main _ (fun b hb=>aJ2 _ hb) (fun b hb=>by
   rcases aJ1.mp hb with z | z
   ·exact .inl z
   ·rcases aHm.mp z with rfl | z
    ·exact .inr ⟨x.new,x.free⟩
    ·rw[aJa] at z;subst z;exact .inr ⟨t2,t3⟩) (by simp) h' hl
abbrev XS:=Bool->Value->St->Hp->Prop
def XP (X:Cx) (pins:List (Addr × Obj)) (Ex:XS) (e:Value) (s':Shared):Prop:=∃ fr a cls σ H H' s,e=.ref a/\Inv X pins σ H s/\s'.os=s.os/\AllBare s'.gens/\Un (frs X.stack) [] H H' s.heap s'.heap/\HOk X.prog X.w H' s'.heap/\Air fr s.heap H' a cls s'.heap/\Ex fr cls σ H'
abbrev TSX:=Ends->XS->St->Hp->Prop
abbrev TEX:=St->Hp->VK->(Bool->Value->Hp->Prop)->Prop
def PSX (X:Cx) (st:Stmt) (t:TSX):Prop:=
 ∀ (pins:List (Addr × Obj)) (s:Shared) (σ:St) (H:Hp) (D:Ends) (Ex:XS),Inv X pins σ H s->t D Ex σ H->wpAny (model X.prog X.w) X.A (exec st X.env) (SP X pins D) (XP X pins Ex) s
def eE (X:Cx) (st:List Stmt) (t:TSX):Prop:=
 ∀ (pins:List (Addr × Obj)) (s:Shared) (σ:St) (H:Hp) (D:Ends) (Ex:XS),Inv X pins σ H s->t D Ex σ H->wpAny (model X.prog X.w) X.A (execs st X.env) (SP X pins D) (XP X pins Ex) s
def PEX (X:Cx) (e:Expr) (t:TEX):Prop:=
 ∀ (pins:List (Addr × Obj)) (s:Shared) (σ:St) (H:Hp) (Q:VK) (Ex:Bool->Value->Hp->Prop),Inv X pins σ H s->t σ H Q Ex->wpAny (model X.prog X.w) X.A (eval e X.env) (EP X pins σ Q) (XP X pins fun fr c σ' H'=>σ'=σ/\Ex fr c H') s
section
variable {X:Cx}{st:Stmt}{rest a b:List Stmt}{t u:TSX}{e:Expr}{te:TEX}{pos:Pos}
theorem XP.mono {pins:List (Addr × Obj)}{Ex Ex':XS}{v:Value}{s':Shared}(h:XP X pins Ex v s') (k:∀ fr c σ H,Ex fr c σ H->Ex' fr c σ H):XP X pins Ex' v s':=
 let ⟨fr,a,c,σ,H,H',s,e,I,x1,x2,x3,x4,x,q⟩:=h
 ⟨fr,a,c,σ,H,H',s,e,I,x1,x2,x3,x4,x,k _ _ _ _ q⟩
def tOf (t:TS):TSX:=fun D _ σ H=>t D σ H
theorem BJ {t:TS}(h:PSs X.nox rest t):eE X rest (tOf t):=fun pins s σ H D Ex I q=>
 wpAny_mono (h pins s σ H D (I.wish _) q) (fun _ _ z=>z.unwish) fun _ _ z=>False.elim z
def aE4 (t u:TSX):TSX:=fun D Ex σ H=>t { D with nx:=u D Ex } Ex σ H
theorem JI (h1:PSX X st t) (h2:eE X rest u):eE X (st::rest) (aE4 t u):=by
 intro pins s σ H D Ex I h;refine wpAny_execs_cons (thn (h1 pins s σ H { D with nx:=u D Ex } Ex I h) fun f s1 q=>?_);cases f with
 | next=>
  obtain⟨σ',H',I',q⟩:=q;exact h2 pins s1 σ' H' D Ex I' q
 | ret v=>exact q
 | brk=>exact q
 | cont=>exact q
theorem aBt (h1:PSX X st t):eE X [st] t:=by
 intro pins s σ H D Ex I h;refine wpAny_execs_cons (thn (h1 pins s σ H D Ex I h) fun f s1 q=>?_);cases f with
 | next=>exact wpAny_execs_nil q
 | ret v=>exact q
 | brk=>exact q
 | cont=>exact q
def aDr (c:TT) (t u:TSX):TSX:=fun D Ex σ H=>c σ H fun b H1=>if b=true then t D Ex σ H1 else u D Ex σ H1
theorem aBv {c:Expr}{tc:TT}(hc:PT X.nox c tc) (ha:eE X a t) (hb:eE X b u):PSX X (.If c a b pos) (aDr tc t u):=by
 intro pins s σ H D Ex I h;refine wpAny_If (wpAny_mono (hc pins s σ H _ (I.wish _) h) (fun d s1 ⟨H1,I1,q1⟩=>?_) fun _ _ z=>False.elim z);cases d with
 | true=>exact ha pins s1 σ H1 D Ex I1.unwish q1
 | false=>exact hb pins s1 σ H1 D Ex I1.unwish q1
def aDl (te:TEX):TSX:=fun D Ex σ H=>te σ H (fun _ H1=>D.nx σ H1) fun fr c H1=>Ex fr c σ H1
theorem aBu (he:PEX X e te) (hs:swapsWith e none pos.line X.env=pure false:=by rfl):PSX X (.Expr e pos) (aDl te):=by
 intro pins s σ H D Ex I h;refine wpAny_Expr_any (wpAny_mono (he pins s σ H _ _ I h) (fun v s1 ⟨x,H1,I1,r1,q1⟩=>⟨σ,H1,I1,q1⟩) fun v s1 z=>z.mono ?_) I.quiet hs;rintro fr c _ H1 ⟨rfl,q⟩;exact q
def aE5 (i:Nat) (te:TEX):TSX:=fun D Ex σ H=>te σ H (fun v H1=>D.nx (σ.set i (some v)) H1) fun fr c H1=>Ex fr c σ H1
theorem aBx {i:Nat}{x:Str}{pos':Pos}(hN:X.N.Nodup) (hi:X.N[i]?=some x) (hx:Loc X.env.scope x) (he:PEX X e te) (hs:swapsWith e (some (.Name x pos')) pos.line X.env=pure false:=by rfl)
  (hf:X.fn x=true\/X.env.scope.names.lookup x=some .local:=by first | exact .inl rfl | exact .inr rfl | assumption):PSX X (.Assign [.Name x pos'] e pos) (aE5 i te):=by
 intro pins s σ H D Ex I h;refine wpAny_Assign_Name (wpAny_mono (he pins s σ H _ _ I h) (fun v s1 ⟨y,H1,I1,r1,q1⟩=>?_) fun v s1 z=>z.mono ?_) hs
 ·exact vB I1 hN hi hx r1 (fun s2 I2=>⟨_,H1,I2,q1⟩) hf
 ·rintro fr c _ H1 ⟨rfl,q⟩;exact q
end
theorem Inv.oldNone {X:Cx}{pins:List (Addr × Obj)}{σ:St}{H:Hp}{s:Shared}{a:Addr}(I:Inv X pins σ H s) (hex:X.ex=[]) (e:s.heap.get? a=none):X.s₀.heap.get? a=none/\H a=none:=by
 constructor
 ·cases e0:X.s₀.heap.get? a with
  | none=>rfl
  | some o=>
   obtain⟨o',e1⟩:=I.base.there a o e0 (by rw[hex];simp);rw[e] at e1;cases e1
 ·cases e0:H a with
  | none=>rfl
  | some o=>
   obtain⟨u,e1⟩:=(I.hok a o e0).there;rw[e] at e1;cases e1
def aE0 (C:Addr) (ta:TA):TSX:=fun _ Ex σ H=>ta σ H fun vs H1=>vs.length<=sizeLine/\Ex true (.ref C) σ H1
theorem aBw {X:Cx}{x:Str}{C:Addr}{B newId initId:String}{bmB:List Value}{np cpos pos:Pos}{e₀:Expr}{es:List Expr}{ta:TA}(hc:X.calm=true) (hex:X.ex=[]) (hg:Gl X x) (O:OwnCls x C bmB newId X.mg X.base) (FB:ExcBaseFacts B newId initId bmB)
  (ha:PA X.nox (e₀::es) ta) (hdb:(x == ("__debug__" : Str))=false:=by decide) (he:starEach (e₀::es) X.env=(false,eval e₀ X.env)::starEach es X.env:=by rfl) (hpl:(backTo cpos (starEach es X.env)).any (·.1)=false:=by rfl):
  PSX X (.Raise (some (.Call (.Name x np) (e₀::es) [] cpos)) none pos) (aE0 C ta):=by
 intro pins s σ H D Ex I h;obtain⟨bm,N,nm,q,bs,hdct,sn,sub,ab,col,dd,k0,k1,k2,k3,k5,mN,hC,hN,hni,T⟩:=O.obj;refine wpAny_Raise_call_subT (nm:=nm) (q:=q) (N:=N) (bs:=bs) (hdct:=hdct) (sn:=sn) (sub:=sub) (ab:=ab) (col:=col) (dd:=dd) (k0:=k0) (k1:=k1) (k2:=k2) (k3:=k3) (k5:=k5) FB (T.hasType FB.hasBase) (I.ok.hd hc) (by rw[he];show (false||(backTo cpos (starEach es X.env)).any (·.1))=false;rw[hpl];rfl) hni (rZ I hg O.bound ⟨rfl,?_⟩ hdb);rw[he];have hh:=ha cpos pins s σ H _ (I.wish _) h;rw[show starEach (e₀::es) X.nox.env=_ from he] at hh;refine Calls.evalArgs_plain (wpAny_mono hh (fun us s2 z=>?_) fun _ _ z=>False.elim z);obtain⟨vs,H1,I1,r,hl,q1⟩:=z;have I1:=I1.unwish;refine⟨rfl,by show us.length<=sizeLine;rw[<- r.length];exact hl,I1.bk _ _ hC,hN.keeps I1.bk,T.keeps I1.bk,fun h' e m=>?_⟩;obtain⟨n1,n2⟩:=I1.oldNone hex m.new;obtain⟨t,g,_,_⟩:=m.there;exact⟨true,e,_,σ,H1,H1,s2,rfl,I1,rfl,I1.bare,Un.kept m.keeps,I1.hok.kept m.keeps,⟨m.new,n2,⟨_,_,_,g,rfl,rfl,rfl,.inl ⟨rfl,rfl⟩⟩⟩,q1⟩
theorem eE.pss {P:Program}{w:World}{K:PySem.W.Frag}{mg:Str->Option Value}{base:Heap}{N:List Str}{qual:Str}{scope:Scope}{f:Addr}{cd:Value}{A:Around}{outer:List Env}{s:Shared}{H:Hp}{E:XK}{body:List Stmt}{t:TSX}
  (h:eE (aV (CX1 P w) P w K mg base N qual scope f cd A outer s H E) body t):PSs (aV (CX1 P w) P w K mg base N qual scope f cd A outer s H E) body (fun D σ H=>t D (fun _ c _ H'=>E c none H') σ H):=by
 intro pins s1 σ H1 D I q;refine wpAny_mono (h pins s1 σ H1 D _ I q) (fun _ _ z=>z) fun e s' z=>?_;obtain⟨fr,a,cls,σ',H0,H',s0,rfl,I0,os,bare,un,hok,air,q'⟩:=z;have I':=I0.call' (ch:=[]) os un hok bare fun b z=>absurd z (by simp);have x:Air fr s.heap H' a cls s'.heap:=by
  obtain⟨oe,vs,a0,g1,c1,d1,v0,tr⟩:=air.obj;exact⟨(I0.oldNone rfl air.new).1,air.free,oe,vs,a0,g1,c1,d1,v0,tr.imp id fun ⟨T,oT,ts,z0,z1,z2,z3,z4⟩=>⟨T,oT,ts,z0,z1,(I0.oldNone rfl z2).1,z3,z4⟩⟩
 exact WW I' rfl rfl rfl x q'
theorem Fun.okX {P:Program}{w:World}{K:PySem.W.Frag}{mg:Str->Option Value}{base:Heap}{x qual:Str}{st:Stmt}{f:Addr}{fd:FuncData}{N ps:List Str}{k:Nat}{sp:Sp}(F:Fun K x qual st f fd) (S:FnScope N ps (defScope st)) (len:∀ vs H Q E,sp vs H Q E->vs.length=ps.length)
  (hbody:∀ (cdv:Value) (A:Around) (outer:List Env) (s:Shared) (H:Hp) (vs:List V) (Q:VK) (E:XK),Room k (A.deeper (envOfC qual (defScope st) s.heap.objs.size f cdv))->sp vs H Q E ->
   ∃ t,eE (aV (CX1 P w) P w K mg base N qual (defScope st) f cdv A outer s H E) (defBody st) t/\t { nx:=fun _ H'=>Q .non H',rt:=Q } (fun _ c _ H'=>E c none H') (start N vs) H):FnOk P w K mg base (CX1 P w) (k+1) f fd ps sp:=by
 obtain⟨oc,od,kV,doc,pm,an,cdv,ct,osl,rfl,lk,hcd⟩:=F.ex;refine zS lk hcd S len fun A outer s H vs Q E hr hsp=>?_;obtain⟨t,h,q⟩:=hbody cdv A outer s H vs Q E hr hsp;exact⟨_,h.pss,q⟩
section
variable {X:Cx}{k:Nat}{f C:Addr}{fd:FuncData}{ps:List Str}{sp:Sp}{x:Str}{p pos:Pos}{e:Expr}{es:List Expr}{t:TA}
end
theorem XJ {M:Model}{A:Around}{E:Value->Shared->Prop}{K:PySem.W.Frag}{s:Shared}{a C CE:Addr}{oe:Obj}{b:Bool}{cd:ClassData}{Q:Bool->Shared->Prop}(k:K.In s.heap) (ht:W.typeIn K (.ref CE)=some (.type "type")) (hc:W.clsIn K CE=some cd)
  (hb:W.subIn K (.ref CE) (.type "BaseException")=some true) (he:s.heap.get? a=some oe) (hcls:oe.cls=.ref C) (hs:W.subIn K (.ref C) (.ref CE)=some b) (q:Q b s):wpAny M A (excMatches (.ref a) (.ref CE)) Q E s:=by
 have keep:∀ (b:Addr) (o:Obj),s.heap.get? b=some o->s.heap.get? b=some o:=fun _ _ z=>z;unfold excMatches;refine wpAny_bind ?_;unfold isInstance;refine wpAny_bind (W.looks_typeIn k ht A _ E s keep ?_);refine wpAny_of_eq tc_notTuple ?_;refine wpAny_ite_false rfl (wpAny_bind (wpAny_pure ?_));refine wpAny_bind ?_;refine wpAny_forIn_list _ (fun l _ s'=>s'=s/\(l=[.ref CE]\/l=[])) _ (fun x rest _ s1 h1=>?_) (fun _ s1 h1=>?_) _ _ ⟨rfl,.inl rfl⟩
 ·obtain⟨rfl,h1⟩:=h1
  have hx:x=.ref CE/\rest=[]:=by
   rcases h1 with z | z
   ·injection z with z1 z2;exact⟨z1,z2⟩
   ·cases z
  obtain⟨rfl,rfl⟩:=hx;refine wpAny_bind ?_;unfold isExcClass;refine wpAny_bind ?_;obtain⟨oD,e1,e2⟩:∃ oD,s1.heap.get? CE=some oD/\oD.data=.cls cd:=by
   unfold W.clsIn at hc;split at hc
   ·rename_i _ _ _ _ _ e
    cases hc;exact⟨_,k _ _ e,rfl⟩
   ·cases hc
  obtain⟨h,g,d,t,os⟩:=s1;refine ks_wpAny_isType_cls e1 e2 ?_;refine wpAny_ite_true rfl (W.looks_subIn k hb A _ E _ (fun _ _ z=>z) ?_);exact wpAny_ite_false rfl (wpAny_pure ⟨rfl,.inr rfl⟩)
 ·obtain⟨rfl,_⟩:=h1
  refine wpAny_bind (wpAny_typeOf_ref he ?_);rw[hcls];refine wpAny_bind ?_;refine wpAny_forIn_list _ (fun l r s'=>s'=s1/\((l=[.ref CE]/\r=(none,()))\/(l=[]/\r=(none,())/\b=false))) _ (fun x rest r s2 h2=>?_) (fun r s2 h2=>?_) _ _ ⟨rfl,.inl ⟨rfl,rfl⟩⟩
  ·obtain⟨rfl,h2⟩:=h2
   have hx:x=.ref CE/\rest=[]:=by
    rcases h2 with ⟨z,_⟩ | ⟨z,_⟩
    ·injection z with z1 z2;exact⟨z1,z2⟩
    ·cases z
   obtain⟨rfl,rfl⟩:=hx;refine wpAny_bind (W.looks_subIn k hs A _ E _ (fun _ _ z=>z) ?_);cases b with
   | true=>exact wpAny_ite_true rfl (wpAny_pure (wpAny_pure q))
   | false=>exact wpAny_ite_false rfl (wpAny_pure ⟨rfl,.inr ⟨rfl,rfl,rfl⟩⟩)
  ·obtain⟨rfl,h2⟩:=h2
   rcases h2 with ⟨z,_⟩ | ⟨_,z,zb⟩
   ·cases z
   ·subst z;subst zb;exact wpAny_pure q
def Cx.hdl (X:Cx) (a:Addr):Cx:={ X with A:=X.A.mark (some (.ref a)),calm:=false,xe:=fun _ _=>False }
theorem Cx.Ok.hdl {X:Cx}(ok:X.Ok) (a:Addr):(X.hdl a).Ok:=
 ⟨ok.mod,ok.kind,ok.glob,ok.blt,ok.above,ok.inj,ok.has,ok.cab,fun z=>(by cases z),ok.frames,ok.stk,ok.exf,ok.bs,ok.bsz,ok.noex,ok.exfs,ok.funs,ok.frf⟩
section
variable {X:Cx}{pins:List (Addr × Obj)}{σ:St}{H H':Hp}{s s':Shared}{a:Addr}{cls:Value}
theorem Inv.hdl (I:Inv X pins σ H s) (a:Addr):Inv (X.hdl a) pins σ H s:=⟨I.ok.hdl a,I.os,I.bare,I.base,I.loc,I.cell,I.free,I.freeC,I.pin,I.hok,I.len⟩
theorem Inv.unhdl (ok:X.Ok) (I:Inv (X.hdl a) pins σ H s):Inv X pins σ H s:=⟨ok,I.os,I.bare,I.base,I.loc,I.cell,I.free,I.freeC,I.pin,I.hok,I.len⟩
theorem aEp {M:Model}{A:Around}{E:Value->Shared->Prop}{i:Nat}{x:Str}{Q:Unit->Shared->Prop}{v:V}(I:Inv X pins σ H s) (hN:X.N.Nodup) (hi:X.N[i]?=some x) (hx:X.env.scope.names.lookup x=some .local) (hv:σ[i]?=some (some v))
  (h:∀ s',Inv X pins (σ.set i none) H s'->Q () s'):wpAny M A (unbindName X.env x) Q E s:=by
 obtain⟨m,hn,hl⟩:=id I.loc;have hcls:(X.env.scope.kind == .class||(X.env.scope.kind == .module&&X.env.locals != X.env.globals))=false:=by rw[I.ok.kind];rfl
 have hiσ:i<σ.length:=by rw[I.len];exact (aHf.mp hi).1
 obtain⟨u,_,lk⟩:=hl i x v hi hv (.inl hx);have hm:m x=some u:=by
  rcases lk with ⟨_,z⟩ | ⟨z,_⟩
  ·exact z
  ·have:X.env.kindOf x=some .local:=hx
   rw[this] at z;rcases z with z | z<;>cases z
 refine wpAny_unbindName_local hx hn hm hcls fun h' u' hn' hs=>?_;have ne:∀ b o,X.s₀.heap.get? b=some o->b≠X.env.locals:=fun b o e=>aJo (aHi (aHv e) I.ok.above);refine h _ ⟨I.ok,I.os,I.bare,⟨fun b o e n hb hx=>(hs.2 b (ne b o e)).trans (I.base.keep b o e n hb hx),fun b o e n hb hx=>?_,I.base.free,fun b o e hx=>?_,I.base.tups,I.base.frzs,I.base.tbls⟩,⟨_,hn',fun j y v' e1 e2 e3=>?_⟩,fun y c e=>?_,I.free,I.freeC,fun p hp=>?_,fun b ob e=>?_,by simpa using I.len⟩
 ·obtain⟨sl,e1⟩:=I.base.slot b o e n hb hx
  exact⟨sl,(hs.2 b (ne b o e)).trans e1⟩
 ·obtain⟨o',e1⟩:=I.base.there b o e hx
  exact⟨o',(hs.2 b (ne b o e)).trans e1⟩
 ·by_cases hj:j=i
  ·subst hj
   rw[aIn hiσ] at e2;cases e2
  ·rw[aHk (Ne.symm hj)] at e2
   obtain⟨u',r',q⟩:=hl j y v' e1 e2 e3;refine⟨u',r',?_⟩;rcases q with ⟨k,e⟩ | ⟨k,c,e,z⟩
   ·refine .inl ⟨k,?_⟩
    have:y≠x:=fun e=>hj (AX hN e1 (e ▸ hi));simp[this,e]
   ·exact .inr ⟨k,c,e,z.sameBut hs (I.cne y c e)⟩
 ·obtain⟨w',z⟩:=I.cell y c e
  exact⟨w',z.sameBut hs (I.cne y c e)⟩
 ·obtain⟨e,n,ne',nf,d⟩:=I.pin p hp
  exact⟨(hs.2 p.1 ne').trans e,n,ne',nf,d⟩
 ·refine (I.hok b ob e).stay (fun c w' hc q=>(hs.2 c ?_).trans q) (fun _ q=>q) fun _ _ q=>q
  rintro rfl;rcases hc with rfl | hc
  ·rw[I.free] at e;cases e
  ·rw[I.free] at hc;cases hc
structure Got (X:Cx) (pins:List (Addr × Obj)) (σ:St) (H H':Hp) (s s':Shared) (fr:Bool) (a:Addr) (cls:Value):Prop where
 inv:Inv X pins σ H s
 os:s'.os=s.os
 bare:AllBare s'.gens
 un:Un (frs X.stack) [] H H' s.heap s'.heap
 hok:HOk X.prog X.w H' s'.heap
 air:Air fr s.heap H' a cls s'.heap
theorem Got.now {fr:Bool}(g:Got X pins σ H H' s s' fr a cls):Inv X pins σ H' s':=g.inv.call' (ch:=[]) g.os g.un g.hok g.bare fun b z=>absurd z (by simp)
theorem Got.obj {fr:Bool}(g:Got X pins σ H H' s s' fr a cls):∃ oe vs,s'.heap.get? a=some oe/\oe.cls=cls/\oe.data=.fields vs:=
 let ⟨oe,vs,_,g1,c1,d1,_⟩:=g.air.obj
 ⟨oe,vs,g1,c1,d1⟩
theorem Got.flight {M:Model}{A:Around}{E:Value->Shared->Prop}{Q:Unit->Shared->Prop}(g:Got X pins σ H H' s s' false a cls) (q:∀ h3,Got X pins σ H H' s { s' with heap:=h3 } false a cls->Q () { s' with heap:=h3 }):wpAny M A (setFlight (.ref a) none) Q E s':=by
 obtain⟨oe,vs,a0,g1,c1,d1,v0,tr⟩:=g.air.obj;rcases tr with ⟨z,_⟩ | ⟨T,oT,ts,_,t1,t2,t3,t4,t5,t6,t7⟩
 ·cases z
 have hff:=g.now.stack;have hfree:=g.now.stkFree;refine wpAny_setFlight_noneW (base:=rem (frs X.stack++[a,T]) s'.heap) (l:=X.stack) (cls:=cls) (a0:=a0) (fl:=.none) (xH _ _) (rP (fun b hb=>aJ2 _ hb) hff) ⟨oe,vs,T,oT,ts,g1,⟨c1,v0⟩,d1,t1,kA (by simp),t4,t5,t6,t7⟩ fun h' st ff trw same=>?_;obtain⟨un,hok,air⟩:=IC (a0:=a0) g.un g.hok hff hfree g.air (frs X.stack++[a,T]) (fun b hb=>by
  rcases aJ1.mp hb with z | z
  ·exact .inl z
  ·rcases aHm.mp z with rfl | z
   ·exact .inr ⟨g.air.new,g.air.free⟩
   ·rw[aJa] at z;subst z;exact .inr ⟨t2,t3⟩) (h':=h') ⟨st,ff,trw,fun b o e d=>⟨o.slots,same b o e d⟩⟩
 exact q h' ⟨g.inv,g.os,g.bare,un,hok,air⟩
theorem Got.note {M:Model}{A A2:Around}{E E':Value->Shared->Prop}{Q:Unit->Shared->Prop}(hst:X.stack=X.env::X.outer) (hL:X.env.frame=some X.env.locals) (hA:A.frames=some X.stack) (g:Got X pins σ H H' s s' false a cls)
  (q:∀ h3,Got X pins σ H H' s { s' with heap:=h3 } false a cls->Q () { s' with heap:=h3 }):wpAny M A (noteFrame (.ref a) X.env) (fun _ s2=>wpAny M A2 (setFlight (.ref a) none) Q E s2) E' s':=by
 obtain⟨oe,vs,a0,g1,c1,d1,v0,tr⟩:=g.air.obj;rcases tr with ⟨z,_⟩ | ⟨T,oT,ts,_,t1,t2,t3,t4,t5,t6,t7⟩
 ·cases z
 have hff:=g.now.stack;have hfree:=g.now.stkFree;have hS:∀ b∈frs X.stack++[a,T],b∈frs X.stack\/(s.heap.get? b=none/\H' b=none):=fun b hb=>by
  rcases aJ1.mp hb with z | z
  ·exact .inl z
  ·rcases aHm.mp z with rfl | z
   ·exact .inr ⟨g.air.new,g.air.free⟩
   ·rw[aJa] at z;subst z;exact .inr ⟨t2,t3⟩
 have hff':=rP (S:=frs X.stack++[a,T]) (fun b hb=>aJ2 _ hb) hff;refine wpAny_noteFrame_onW (base:=rem (frs X.stack++[a,T]) s'.heap) (outer:=X.outer) (cls:=cls) (a0:=a0) (by rw[hA,hst]) (by rw[<- hst];exact hff') hL ⟨oe,vs,T,oT,ts,g1,⟨c1,v0⟩,d1,t1,kA (by simp),t4,t5,t6,t7⟩ (xH _ _) (kA (by simp)) fun h' hl=>?_;rw[<- hst] at hl;obtain⟨st,ff,tra,slo⟩:=hl;refine wpAny_setFlight_noneW (base:=rem (frs X.stack++[a,T]) s'.heap) (l:=X.stack) (cls:=cls) (a0:=a0) st ff tra fun h2 st2 ff2 trw same=>?_;obtain⟨un,hok,air⟩:=IC (a0:=a0) g.un g.hok hff hfree g.air _ hS (h':=h2) ⟨st2,ff2,trw,fun b o e d=>by
  obtain⟨sl,e1⟩:=slo b o e d;exact⟨sl,same b _ e1 d⟩⟩
 exact q h2 ⟨g.inv,g.os,g.bare,un,hok,air⟩
theorem Got.hold (g:Got X pins σ H H' s s' false a cls):Inv X pins σ (upd H' a (pX a cls)) s':=by
 have hne:∀ b o,s.heap.get? b=some o->b≠a:=fun b o e z=>by rw[z,g.air.new] at e;cases e
 have hne':∀ b o,H' b=some o->b≠a:=fun b o e z=>by rw[z,g.air.free] at e;cases e
 refine g.inv.call' (ch:=[]) g.os ⟨g.un.keep,g.un.slot,fun b o e n hx=>?_,g.un.there,fun b xs e=>?_,fun b o u e=>?_,fun b ps e=>?_⟩ (fun b o e=>?_) g.bare fun b z=>absurd z (by simp)
 ·rw[aR (hne b o e)];exact g.un.free b o e n hx
 ·have:=g.un.tups b xs e
  rw[aR (hne' b _ this)];exact this
 ·have:=g.un.frzs b o u e
  rw[aR (hne' b _ this)];exact this
 ·obtain⟨more,this⟩:=g.un.tbls b ps e
  exact⟨more,by rw[aR (hne' b _ this)];exact this⟩
 ·by_cases hb:b=a
  ·subst hb
   rw[cP] at e;cases e;obtain⟨oe,vs,g1,c1,d1⟩:=g.obj;exact⟨⟨oe,vs,g1,c1,d1⟩,⟨oe,g1⟩,fun h1 h2 ⟨oe,vs,z1,z2,z3⟩ k=>⟨oe,vs,k _ z1,z2,z3⟩⟩
  ·rw[aR hb] at e
   exact (g.hok b o e).stay (fun _ _ _ z=>z) (fun c z=>by rw[aR (hne' c _ z)];exact z) fun c xs z=>by rw[aR (hne' c _ z)];exact z
end
def DP (i:Nat) (D:Ends):Ends:={ nx:=fun σ H=>D.nx (σ.set i none) H,rt:=D.rt,bk:=fun σ H=>D.bk (σ.set i none) H,ct:=fun σ H=>D.ct (σ.set i none) H }
def KZ (K:PySem.W.Frag) (CE:Addr) (i:Nat) (tb:TSX) (ts:TS):TS:=fun D σ H=>tb D (fun fr cls σ' H'=>fr=false/\∃ C,cls=.ref C/\PySem.W.subIn K (.ref C) (.ref CE)=some true /\
 ∀ a,H' a=none->ts (DP i D) (σ'.set i (some (.ref a))) (upd H' a (pX a cls))) σ H
theorem aBo {X:Cx}{body suite:List Stmt}{b₀:Stmt}{tb:TSX}{ts:TS}{c n:Str}{i:Nat}{CE:Addr}{cd:ClassData}{cp hpos pos:Pos}(hst:X.stack=X.env::X.outer) (hL:X.env.frame=some X.env.locals) (hN:X.N.Nodup) (hi:X.N[i]?=some n)
  (hx:X.env.scope.names.lookup n=some .local) (hg:Gl X c) (hm:X.mg c=some (.ref CE)) (ht:PySem.W.typeIn X.K (.ref CE)=some (.type "type")) (hc:PySem.W.clsIn X.K CE=some cd) (hbe:PySem.W.subIn X.K (.ref CE) (.type "BaseException")=some true)
  (hb:eE X body tb) (hs:∀ a,PSs (X.hdl a) (b₀::suite) ts) (hdb:(c == ("__debug__" : Str))=false:=by decide):
  PS X (.Try body [.ExceptHandler (some (.Name c cp)) (some n) (b₀::suite) hpos] [] [] pos) (KZ X.K CE i tb ts):=by
 intro pins s σ H D I h;refine wpAny_Try_except (wpAny_mono (hb pins s σ H D _ I h) (fun f s1 z=>?_) (fun e s1 z=>?_))
 ·cases f with
  | next=>exact wpAny_execs_nil z
  | ret v=>exact z
  | brk=>exact z
  | cont=>exact z
 ·obtain⟨fr,a,cls,σ',H0,H',s0,rfl,I0,os,bare,un,hok,air,rfl,C,rfl,hsub,q⟩:=z
  have g:Got X pins σ' H0 H' s0 s1 false a (.ref C):=⟨I0,os,bare,un,hok,air⟩;refine g.note hst hL I.ok.frames fun h3 g3=>?_;refine wpAny_handleBy_cons ?_ (by intro z;cases z);refine codeAny_handlers_test ?_;obtain⟨oe,vs,g1,c1,d1⟩:=g3.obj;refine rZ (X:=X.hdl a) (g3.now.hdl a) hg hm ?_ hdb;refine XJ (K:=X.K) g3.now.kIn ht hc hbe g1 c1 hsub ?_;refine codeAny_handlers_suite_as ?_;refine g3.flight fun h4 g4=>?_;refine vB (v:=.ref a) g4.hold hN hi (.inl hx) rfl (fun s5 I5=>?_) (.inr hx);refine wpAny_mono (hs a pins s5 _ _ (DP i D) (I5.hdl a) (q a g4.air.free)) (fun f s6 z=>?_) fun _ _ z=>False.elim z;have away:∀ {σ2:St} {H2:Hp} {Q:Unit->Shared->Prop},Inv (X.hdl a) pins σ2 H2 s6->(∀ s8,Inv X pins (σ2.set i none) H2 s8->Q () s8)->wpAny (model X.prog X.w) X.A (do
    bindName X.env n Value.none
    unbindBehindTheSuite X.env n hpos) Q X.xe s6:=by
   intro σ2 H2 Q I6 k;have I6:=I6.unhdl I.ok;have hlen:i<σ2.length:=by rw[I6.len];exact (aHf.mp hi).1
   refine wpAny_bind (wpAny_bindName (vB (v:=.non) I6 hN hi (.inl hx) rfl (fun s7 I7=>?_) (.inr hx)));unfold unbindBehindTheSuite;refine wpAny_onRaise (aEp (v:=.non) I7 hN hi hx (aIn hlen) fun s8 I8=>?_);rw[List.set_set] at I8;exact k s8 I8
  cases f with
  | next=>
   obtain⟨σ2,H2,I6,q6⟩:=z;exact away I6 fun s8 I8=>⟨_,_,I8,q6⟩
  | ret v=>
   obtain⟨w,σ2,H2,I6,r6,q6⟩:=z;exact away I6 fun s8 I8=>⟨w,_,_,I8,r6,q6⟩
  | brk=>
   obtain⟨σ2,H2,I6,q6⟩:=z;exact away I6 fun s8 I8=>⟨_,_,I8,q6⟩
  | cont=>
   obtain⟨σ2,H2,I6,q6⟩:=z;exact away I6 fun s8 I8=>⟨_,_,I8,q6⟩
section
variable {X:Cx}{k:Nat}{f:Addr}{fd:FuncData}{ps:List Str}{sp:Sp}{x:Str}{p pos:Pos}{e:Expr}{es:List Expr}{t:TA}
end
theorem QG {prog:Program}{w:World}{A:Around}{s:Shared}{K:PySem.W.Frag}{x C:Addr}{R:Result->Shared->Prop}{ox:Obj}{tp:Value}(k:K.In s.heap) (he:s.heap.get? x=some ox) (hc:ox.cls=.ref C) (hm:W.mroIn K C (.type "object")=some true)
  (h:R (.ok (.ret (.ref C))) s):codeAny (model prog w) A (.call (.builtin "getset_descriptor.__get__") { pos:=[.builtin "object.__class__",.ref x,tp] }) R s:=by
 obtain⟨hh,g,dr,t,os⟩:=s;have keep:∀ (b:Addr) (o:Obj),hh.get? b=some o->hh.get? b=some o:=fun _ _ z=>z;have L0:∀ {M:Model} {A:Around} {Q:Value->Shared->Prop} {E:Value->Shared->Prop},Q (.ref C) ⟨hh,g,dr,t,os⟩->wpAny M A (typeOf (.ref x)) Q E ⟨hh,g,dr,t,os⟩:=fun {M A Q E} q=>wpAny_typeOf_ref he (by rw[hc];exact q);refine codeAny_call_builtin W.KF.slot_gs.plain W.KF.entry_gs (W.KF.slot_gs.check _ _ _ _ _ [.ref x,tp] [] _ W.KF.type_class (W.KF.args_gs _ _ _) ?_);unfold Builtin.«getset_descriptor.__get__» Builtin.Getset_descriptor.descrGet;rw[W.dga_obj];refine wpAny_bind (wpAny_pure ?_);show wpAny _ _ (Builtin.Getset_descriptor.descrGetter _ _) _ _ _;unfold Builtin.Getset_descriptor.descrGetter;refine wpAny_bind ?_;unfold Builtin.Getset_descriptor.descrCheckInstance;refine wpAny_bind ?_;show wpAny _ _ (pure (Str.ofString (Builtin.Getset_descriptor.descrOwnerAndName "object.__class__").2,Value.type (Builtin.Getset_descriptor.descrOwnerAndName "object.__class__").1)) _ _ _;rw[W.KF.owner_class];refine wpAny_pure ?_;refine wpAny_bind ?_;unfold isInstance;refine wpAny_bind (L0 ?_);refine W.looks_subIn (K:=K) k (show W.subIn K (.ref C) (.type "object")=some true from hm) A.in1 _ _ _ keep ?_;refine wpAny_ite_false rfl (wpAny_pure ?_);show wpAny _ _ (again (Code.builtin "object.__class__" { pos:=[.ref x] })) _ _ _;unfold again;refine wpAny_pure ⟨Code.quiet_builtin _ (by decide +kernel),codeAny_builtin W.KF.entry_class ?_⟩;unfold Builtin.«object.__class__»;refine wpAny_bind ?_;unfold shownTypeOf;refine wpAny_bind (L0 ?_);refine wpAny_ite_false rfl (wpAny_pure (wpAny_pure h))
theorem QF {prog:Program}{w:World}{A:Around}{E:Value->Shared->Prop}{K:PySem.W.Frag}{s:Shared}{a C:Addr}{o:Obj}{Q:Option Value->Shared->Prop}(k:K.In s.heap) (he:s.heap.get? a=some o) (hc:o.cls=.ref C)
  {nm qn:Str} {N:Addr} {bs bm bmB:List Value} {hdct:Bool} {sn:List Str} {sub:List Value} {ab:Bool} {col:Option Bool} {dd:Option Addr} {k0 k1 k2 k3 k5:Option Value} {B newId:String} (FB:ExcAttrBase B bmB) (hC:s.heap.get? C=some (excClassObj nm qn C N bs bm hdct sn sub ab col dd k0 k1 k2 k3 k5 newId)) (T:OwnTailQ s.heap bmB bm)
  (h1:W.findIn K (.ref C) "__getattribute__" = some (some (.builtin "BaseException.__getattribute__"))) (h2:W.findIn K (.ref C) "__getattr__" = some none)
  (h3:W.findIn K (.ref C) "__class__" = some (some (.builtin "object.__class__"))) (h4:W.specialIn K (.builtin "object.__class__") "__get__" = some (some (.builtin "getset_descriptor.__get__"))) (h5:W.takesIn K (.builtin "object.__class__")=some true)
  (h6:W.mroIn K C (.type "object")=some true) (q:Q (some (.ref C)) { s with toks:=s.toks+1 }):wpAny (model prog w) A (getAttr? (.ref a) "__class__") Q E s:=by
 obtain⟨h,g,d,t,os⟩:=s;have keep:∀ (b:Addr) (o:Obj),h.get? b=some o->h.get? b=some o:=fun _ _ z=>z;unfold getAttr?;refine wpAny_bind ?_;refine wpAny_bind (wpAny_fresh' (wpAny_pure ?_));unfold getAttrBy?;refine wpAny_bind (wpAny_attempt ?_);unfold getAttrBy;refine wpAny_holding (wpAny_bind ?_);refine wpAny_bind (wpAny_loadPart_at he ?_);rw[hc];refine wpAny_pure (wpAny_bind (W.looks_findIn k h1 A _ _ _ keep ?_));refine wpAny_ite_false rfl ?_;unfold getAttrByItsOwn;refine wpAny_bind ?_;unfold hookBefore;refine wpAny_ite_true rfl (W.looks_findIn k h2 A _ _ _ keep ?_);refine wpAny_bind (wpAny_attempt (wpAny_holding ?_));unfold callGetattribute;refine wpAny_ite_false rfl ?_;unfold boundAndCalled;refine wpAny_bind (wpAny_of_eq (FB.ga.bind (.ref a)) (wpAny_call ?_));refine codeAny_call_builtin FB.ga.plain F.entry_bexc_ga (wpAny_check_ga_own FB hC T he hc ?_);unfold Builtin.«object.__getattribute__»;refine wpAny_bind ?_;unfold slotArgs;refine wpAny_ite_false rfl ?_;refine wpAny_ite_false rfl (wpAny_pure ?_);refine wpAny_bind ?_;refine wpAny_pure (wpAny_bind ?_);refine wpAny_bind (wpAny_loadPart_at he ?_);rw[hc];refine wpAny_pure (wpAny_bind ?_);unfold Builtin.ObjectAttr.find;refine wpAny_bind (W.looks_findIn k h3 A.in1 _ _ _ keep ?_);refine wpAny_bind ?_;unfold Builtin.ObjectAttr.getOf;refine W.looks_specialIn k h4 A.in1 _ _ _ keep ?_;refine wpAny_bind ?_;unfold Builtin.ObjectAttr.dataDescriptor?;refine wpAny_bind (W.looks_takesIn k h5 A.in1 _ _ _ keep ?_);refine wpAny_ite_true rfl (wpAny_pure ?_);refine wpAny_bind (wpAny_rule ?_);refine wpAny_pure ?_;unfold Builtin.ObjectAttr.bindTo;refine wpAny_bind (wpAny_holding (wpAny_call ?_));refine QG (s:=⟨h,g,d,_,os⟩) k he hc h6 ?_;exact wpAny_pure (wpAny_pure (wpAny_pure q))
theorem WQ {K:PySem.W.Frag}{a C N:Addr}{nm qn:Str}{bs bm bmB:List Value}{hdct:Bool}{sn:List Str}{sub:List Value}{ab:Bool}{col:Option Bool}{dd:Option Addr}{k0 k1 k2 k3 k5:Option Value}{B newId:String}(FB:ExcAttrBase B bmB)
  (hC:K.lookup C=some (excClassObj nm qn C N bs bm hdct sn sub ab col dd k0 k1 k2 k3 k5 newId)) (T:∀ h:Heap,K.In h->OwnTailQ h bmB bm)
  (h1:W.findIn K (.ref C) "__getattribute__" = some (some (.builtin "BaseException.__getattribute__"))) (h2:W.findIn K (.ref C) "__getattr__" = some none) (h3:W.findIn K (.ref C) "__class__" = some (some (.builtin "object.__class__")))
  (h4:W.specialIn K (.builtin "object.__class__") "__get__" = some (some (.builtin "getset_descriptor.__get__"))) (h5:W.takesIn K (.builtin "object.__class__")=some true) (h6:W.mroIn K C (.type "object")=some true):
  W.KitX K (.ref a) (.ref C) (fun h=>∃ oe,h.get? a=some oe/\oe.cls=.ref C) where
 ty:=fun M h _ ⟨oe,e,c⟩ A Q E s keep q=>wpAny_typeOf_ref (keep _ _ e) (by rw[c];exact q)
 it:=fun M h k _ A Q E s keep q=>by
  obtain⟨hh,g,d,t,os⟩:=s;exact ks_wpAny_isType_cls (keep _ _ (k _ _ hC)) rfl q
 ne:=fun h tp dd' its n sl k e=>by
  rw[beq_eq_false_iff_ne];intro z;have z:=Value.ref.inj z;subst z;rw[k _ _ hC] at e;exact absurd (congrArg (fun o=>o.data) (aHa e)) (by intro y;cases y)
 ca:=fun {prog w A E Q s} k ⟨oe,e,c⟩ q=>QF k e c FB (k _ _ hC) (T _ k) h1 h2 h3 h4 h5 h6 q
end L2
namespace G
open PySem PySem.Spec PyProof.Rows L2
abbrev nmC (K:PySem.W.Frag) (nm:Str) (C:Addr):Prop:=PySem.W.nsIn K mainGlobals nm=some (some (.ref C))
def LZ (K:PySem.W.Frag) (B:Hp) (fl:List Nat) (n:Bool) (l:Nat) (Exl:List (T × V)) (D:Ends) (Ex:XS):Out ⊕ Str->Prop
 | .inl o=>yP K B fl n l Exl D o
 | .inr nm=>∀ fr C σ' H',nmC K nm C->aP B H'->Ex fr (.ref C) σ' H'
def tSX (K:PySem.W.Frag) (B:Hp) (fl:List Nat) (n:Bool) (l:Nat) (run:Rho->Option (Out ⊕ Str)):TSX:=fun D Ex σ H=>
 ∃ Exl ρ M o,Sl K B fl Exl σ ρ M H/\run ρ=some o/\LZ K B fl n l Exl D Ex o
def GSX (X:Cx) (B:Hp) (fl:List Nat) (n:Bool) (l:Nat) (st:Stmt) (run:Rho->Option (Out ⊕ Str)):Prop:=PSX X st (tSX X.K B fl n l run)
def fN (X:Cx) (B:Hp) (fl:List Nat) (n:Bool) (l:Nat) (st:List Stmt) (run:Rho->Option (Out ⊕ Str)):Prop:=eE X st (tSX X.K B fl n l run)
theorem BK {X:Cx}{st:Stmt}{t t':TSX}(h:PSX X st t) (k:∀ D Ex σ H,t' D Ex σ H->t D Ex σ H):PSX X st t':=fun pins s σ H D Ex I q=>h pins s σ H D Ex I (k D Ex σ H q)
theorem BI {X:Cx}{st:List Stmt}{t t':TSX}(h:eE X st t) (k:∀ D Ex σ H,t' D Ex σ H->t D Ex σ H):eE X st t':=fun pins s σ H D Ex I q=>h pins s σ H D Ex I (k D Ex σ H q)
def xOf (r:Rho->Option Out):Rho->Option (Out ⊕ Str):=fun ρ=>(r ρ).map .inl
def yO (r1 r2:Rho->Option (Out ⊕ Str)):Rho->Option (Out ⊕ Str):=fun ρ=>(r1 ρ).bind fun o=>match o with | .inl (.nx ρ')=>r2 ρ' | o=>some o
def xIf (p:Rho->Option Bool) (r1 r2:Rho->Option (Out ⊕ Str)):Rho->Option (Out ⊕ Str):=fun ρ=>(p ρ).bind fun b=>if b then r1 ρ else r2 ρ
def vG (nm:Str) (fa:Rho->Option (List T)):Rho->Option (Out ⊕ Str):=fun ρ=>(fa ρ).bind fun ts=>if ts.length<=cap then some (.inr nm) else none
def CQ (fa:Rho->Option (List T)) (FX:List T->Option (T ⊕ Str)):Rho->Option (Out ⊕ Str):=fun ρ=>(fa ρ).bind fun ts=>(FX ts).bind fun o=>match o with | .inl _=>some (.inl (.nx ρ)) | .inr nm=>some (.inr nm)
@[simp] theorem xOf_at (r:Rho->Option Out) (ρ:Rho):xOf r ρ=(r ρ).map .inl:=id rfl
@[simp] theorem xSeq_at (r1 r2:Rho->Option (Out ⊕ Str)) (ρ:Rho):yO r1 r2 ρ=(r1 ρ).bind fun o=>match o with | .inl (.nx ρ')=>r2 ρ' | o=>some o:=id rfl
@[simp] theorem xIf_at (p:Rho->Option Bool) (r1 r2:Rho->Option (Out ⊕ Str)) (ρ:Rho):xIf p r1 r2 ρ=(p ρ).bind fun b=>if b then r1 ρ else r2 ρ:=id rfl
@[simp] theorem xRaise_at (nm:Str) (fa:Rho->Option (List T)) (ρ:Rho):vG nm fa ρ=(fa ρ).bind fun ts=>if ts.length<=cap then some (.inr nm) else none:=id rfl
@[simp] theorem xCall_at (fa:Rho->Option (List T)) (FX:List T->Option (T ⊕ Str)) (ρ:Rho):CQ fa FX ρ=(fa ρ).bind fun ts=>(FX ts).bind fun o=>match o with | .inl _=>some (.inl (.nx ρ)) | .inr nm=>some (.inr nm):=id rfl
def spX (K:PySem.W.Frag) (FX:List T->Option (T ⊕ Str)) (n:Bool) (l:Nat):Sp:=fun vs H Q E=>
 ∃ ts o,RepL K H (fun _=>True) ts vs/\FX ts=some o/\(match o with
  | .inl t=>∀ v H',aP H H'->aO K H H [] H' n l t v->Q v H'
  | .inr nm=>∀ C H',nmC K nm C->aP H H'->E (.ref C) none H')
section
variable {X:Cx}{B:Hp}{fl:List Nat}{n:Bool}{l:Nat}{st:Stmt}{rest a b:List Stmt}{r:Rho->Option Out}{r1 r2:Rho->Option (Out ⊕ Str)}{pos:Pos}{c:Expr}{p:Rho->Option Bool}
theorem aF0 {K:PySem.W.Frag}(D:Ends) (Ex:XS) (σ:St) (H:Hp) (h:tSX K B fl n l (xOf r) D Ex σ H):tOf (tS K B fl n l r) D Ex σ H:=by
 obtain⟨Exl,ρ,M,o,S,hr,e⟩:=h;cases hq:r ρ with
 | none=>rw[xOf_at,hq] at hr;cases hr
 | some o'=>
  rw[xOf_at,hq] at hr;cases (aHa hr);exact⟨Exl,ρ,M,o',S,hq,e⟩
theorem UX (h:GSs X.nox B fl n l rest r):fN X B fl n l rest (xOf r):=BI (BJ h) aF0
theorem GL (h1:GSX X B fl n l st r1) (h2:fN X B fl n l rest r2):fN X B fl n l (st::rest) (yO r1 r2):=by
 refine BI (JI h1 h2) ?_;rintro D Ex σ H ⟨Exl,ρ,M,o,S,hr,e⟩;obtain⟨o1,h1,hr⟩:=bind_some hr;refine⟨Exl,ρ,M,o1,S,h1,?_⟩
 match o1,hr with
 | .inl (.nx ρ'),hr=>exact fun σ' M' H' S'=>⟨Exl,ρ',M',o,S',hr,e⟩
 | .inl (.rt t),hr=>cases (aHa hr);exact e
 | .inl (.bk _),hr=>cases (aHa hr);exact e
 | .inl (.ct _),hr=>cases (aHa hr);exact e
 | .inr nm,hr=>cases (aHa hr);exact e
theorem AF (h1:GSX X B fl n l st r1):fN X B fl n l [st] r1:=aBt h1
theorem GP (hc:GT X.nox B fl c p) (ha:fN X B fl n l a r1) (hb:fN X B fl n l b r2):GSX X B fl n l (.If c a b pos) (xIf p r1 r2):=by
 refine BK (aBv hc ha hb) ?_;rintro D Ex σ H ⟨Exl,ρ,M,o,S,hr,e⟩;obtain⟨d,hd,hr⟩:=bind_some hr;refine⟨Exl,ρ,M,d,S,hd,fun H1 s1=>?_⟩;cases d with
 | true=>exact jD ⟨Exl,ρ,M,o,S.grow s1,hr,e⟩
 | false=>exact jC ⟨Exl,ρ,M,o,S.grow s1,hr,e⟩
theorem GM:fN X B fl n l [] (xOf bO):=by
 refine BI (BJ (rest:=[]) (t:=fun D σ H=>D.nx σ H) (fun pins s σ H D I q=>wpAny_execs_nil ⟨σ,H,I,q⟩)) ?_;rintro D Ex σ H ⟨Exl,ρ,M,o,S,hr,e⟩;cases (aHa hr);exact e σ M H S
theorem UZ {x:Str}{C:Addr}{B' newId initId:String}{bmB:List Value}{np cpos:Pos}{e₀:Expr}{es:List Expr}{fa:Rho->Option (List T)}{l':Nat}(hc:X.calm=true) (hex:X.ex=[]) (hg:Gl X x) (O:OwnCls x C bmB newId X.mg X.base) (FB:ExcBaseFacts B' newId initId bmB)
  (hn:nmC X.K x C) (ha:GA X.nox B fl (e₀::es) fa l') (hdb:(x == ("__debug__" : Str))=false:=by decide) (he:starEach (e₀::es) X.env=(false,eval e₀ X.env)::starEach es X.env:=by rfl) (hpl:(backTo cpos (starEach es X.env)).any (·.1)=false:=by rfl):
  GSX X B fl n l (.Raise (some (.Call (.Name x np) (e₀::es) [] cpos)) none pos) (vG x fa):=by
 refine BK (aBw hc hex hg O FB ha hdb he hpl) ?_;rintro D Ex σ H ⟨Exl,ρ,M,o,S,hr,e⟩;obtain⟨ts,hts,hr⟩:=bind_some hr;split at hr
 ·rename_i hl
  cases (aHa hr);exact⟨Exl,ρ,M,ts,S,hts,fun vs H1 s1 r1=>⟨by rw[<- r1.length];exact aJe (gJ hl),e true C σ H1 hn (S.same.trans s1)⟩⟩
 ·cases hr
end
structure CalX (P:Program) (w:World) (K:PySem.W.Frag) (mg:Str->Option Value) (base:Heap) (x:Str) (k:Nat) (ps:List Str) (FX:List T->Option (T ⊕ Str)) (n:Bool) (l:Nat) (ds:List Value):Prop where
 ex:∃ f fd,FnOk P w K mg base (CX1 P w) k f fd ps (spX K FX n l)/\mg x=some (.ref f)/\PySem.W.keepIn K (.ref f)=true/\fH K fd ps ds
section
variable {X:Cx}{k:Nat}{f:Addr}{fd:FuncData}{ps:List Str}{sp:Sp}{x:Str}{p pos:Pos}{e:Expr}{es:List Expr}{t:TA}
theorem aCi {ds:List Value}{dvs:List V}{pins:List (Addr × Obj)}{σ:St}{H:Hp}{s:Shared}{Q:VK}{Ex:Bool->Value->Hp->Prop}{us:List Value}{vs:List V}(F:FnOk X.prog X.w X.K X.mg X.base (CX1 X.prog X.w) k f fd ps sp) (hr:Room k X.A) (hex:X.ex=[]) (hb:fH X.K fd ps ds) (hd:aL dvs ds)
  (I:Inv X pins σ H s) (r:aL vs us) (h:sp (vs++dvs) H Q fun c _ H'=>Ex false c H'):wpAny (model X.prog X.w) X.A (call (.ref f) us) (EP X pins σ Q) (XP X pins fun fr c σ' H'=>σ'=σ/\Ex fr c H') s:=by
 have hl:(us++ds).length=ps.length:=by
  rw[aIo,<- r.length,<- hd.length,<- List.length_append];exact F.len _ _ _ _ h
 have hb':=hb s us I.kIn hl;refine wpAny_call (codeAny_mono (F.run X.A X.stack s H ⟨us,[]⟩ (us++ds) (vs++dvs) Q _ hr I.env0 hb' (aL.append r hd) h) fun r s' hq=>?_);cases r with
 | error e=>
  obtain⟨a,cls,H',rfl,os,bare,un,hok,air,q⟩:=hq;exact⟨false,a,cls,σ,H,H',s,rfl,I,os,bare,un,hok,air,rfl,q⟩
 | ok fl=>
  cases fl with
  | ret u=>exact I.after hq
  | next=>exact False.elim hq
  | brk=>exact False.elim hq
  | cont=>exact False.elim hq
def aDi (sp:Sp) (dvs:List V) (t:TA):TEX:=fun σ H Q Ex=>t σ H fun vs H1=>sp (vs++dvs) H1 Q fun c _ H'=>Ex false c H'
theorem IY {ds:List Value}{dvs:List V}(F:FnOk X.prog X.w X.K X.mg X.base (CX1 X.prog X.w) k f fd ps sp) (hr:Room k X.A) (hex:X.ex=[]) (hg:Gl X x) (hm:X.mg x=some (.ref f)) (hk:PySem.W.keepIn X.K (.ref f)=true) (hb:fH X.K fd ps ds) (hd:aL dvs ds)
  (ha:PA X.nox (e::es) t) (hdb:(x == ("__debug__" : Str))=false:=by decide) (he:starEach (e::es) X.env=(false,eval e X.env)::starEach es X.env:=by rfl) (hpl:(backTo pos (starEach es X.env)).any (·.1)=false:=by rfl):
  PEX X (.Call (.Name x p) (e::es) [] pos) (aDi sp dvs t):=by
 intro pins s σ H Q Ex I h;refine wpAny_Call_Name_kw (rZ I hg hm ?_ hdb);refine PySem.W.callWith_K (h₀:=X.base) I.ok.mod.kin hk (wpAny_mono (ha pos pins s σ H _ (I.wish _) h) (fun us s1 ⟨vs,H1,I1,r,q⟩=>⟨I1.kIn,?_⟩) fun _ _ z=>False.elim z) he hpl;exact aCi F hr hex hb hd I1.unwish r q
end
section
variable {X:Cx}{B:Hp}{fl:List Nat}{n n':Bool}{l l' k:Nat}{e:Expr}{es:List Expr}{fa:Rho->Option (List T)}{FX:List T->Option (T ⊕ Str)}{x:Str}{ps:List Str}{p' pos epos:Pos}
theorem JX {K:PySem.W.Frag}{H:Hp}{A:Addr->Prop}{ts:List T}{vs:List V}(r:RepL K H A ts vs):RepL K H (fun _=>True) ts vs:=r.weak fun _ _=>trivial
theorem UY (C:CalX X.prog X.w X.K X.mg X.base x k ps FX n' l' []) (hr:Room k X.A) (hex:X.ex=[]) (hg:Gl X x) {la:Nat}(ha:GA X.nox B fl (e::es) fa la) (hs:swapsWith (.Call (.Name x p') (e::es) [] pos) none epos.line X.env=pure false:=by rfl) (hdb:(x == ("__debug__" : Str))=false:=by decide)
  (he:starEach (e::es) X.env=(false,eval e X.env)::starEach es X.env:=by rfl) (hpl:(backTo pos (starEach es X.env)).any (·.1)=false:=by rfl):GSX X B fl n l (.Expr (.Call (.Name x p') (e::es) [] pos) epos) (CQ fa FX):=by
 obtain⟨f,fd,FO,hm,hk,hb⟩:=C.ex;refine BK (aBu (IY (dvs:=[]) FO hr hex hg hm hk hb .nil ha hdb he hpl) hs) ?_;rintro D Ex σ H ⟨Exl,ρ,M,o,S,hr,q⟩;obtain⟨ts,hts,hr⟩:=bind_some hr;obtain⟨u,hu,hr⟩:=bind_some hr;refine⟨Exl,ρ,M,ts,S,hts,fun vs H1 s1 r1=>?_⟩;show spX X.K FX n' l' (vs++[]) H1 _ _;rw[aI8];refine⟨ts,u,JX r1,hu,?_⟩;cases u with
 | inl t=>
  cases (aHa hr);exact fun v H2 s2 _=>q σ M H2 (S.grow (s1.trans s2))
 | inr nm=>
  cases (aHa hr);exact fun C H2 hC s2=>q false C σ H2 hC (S.same.trans (s1.trans s2))
end
def sL:Out ⊕ Str->Option (T ⊕ Str)
 | .inl o=>(bF o).map .inl
 | .inr nm=>some (.inr nm)
@[simp] theorem outX_inl (o:Out):sL (.inl o)=(bF o).map .inl:=rfl
@[simp] theorem outX_inr (nm:Str):sL (.inr nm)=some (.inr nm):=rfl
def pS (np k:Nat) (run:Rho->Option (Out ⊕ Str)) (ts:List T):Option (T ⊕ Str):=if ts.length=np then (run (ts.map some++List.replicate k none)).bind sL else none
theorem DE {np k:Nat}{run:Rho->Option (Out ⊕ Str)}{ts:List T}{t:T ⊕ Str}(h:pS np k run ts=some t):ts.length=np:=by
 unfold pS at h;split at h
 ·assumption
 ·cases h
def vI:Out ⊕ Str->T ⊕ Str->Prop
 | .inl o,.inl t=>pT o t
 | .inr a,.inr b=>a=b
 | _,_=>False
theorem DF {np k:Nat}{run:Rho->Option (Out ⊕ Str)}{ts:List T}{t:T ⊕ Str}(h:pS np k run ts=some t):∃ o,run (ts.map some++List.replicate k none)=some o/\vI o t:=by
 unfold pS at h;split at h
 ·obtain⟨o,e,h⟩:=bind_some h
  refine⟨o,e,?_⟩;cases o with
  | inr nm=>cases (aHa h);exact rfl
  | inl o=>
   cases o with
   | rt u=>cases (aHa h);exact rfl
   | nx _=>cases (aHa h);exact rfl
   | bk _=>cases h
   | ct _=>cases h
 ·cases h
section
variable {P:Program}{w:World}{K:PySem.W.Frag}{mg:Str->Option Value}{base:Heap}
theorem FW {N ps:List Str}{fl:List Nat}{n:Bool}{l:Nat}{FX:List T->Option (T ⊕ Str)}{run:Rho->Option (Out ⊕ Str)}(hN:ps.length<=N.length) (hfl:fl.length=N.length) (hp:∀ i,i<ps.length->fl.getD i 1=1) (hlen:∀ ts t,FX ts=some t->ts.length=ps.length)
  (hrun:∀ ts t,FX ts=some t->∃ o,run (ts.map some++List.replicate (N.length-ps.length) none)=some o/\vI o t) {vs:List V} {H:Hp} {Q:VK} {E:XK} (h:spX K FX n l vs H Q E) (hl4:l≠4):
  tSX K H fl n l run { nx:=fun _ H'=>Q .non H',rt:=Q } (fun _ c _ H'=>E c none H') (L2.start N vs) H:=by
 obtain⟨ts,t,r,hf,q⟩:=h;obtain⟨o,ho,hi⟩:=hrun ts t hf;refine⟨[],_,[],o,yJ hfl hp (hlen ts t hf) r hN,ho,?_⟩
 match o,t,hi,q with
 | .inr a,.inr b,hi,q=>
  cases (show a=b from hi);exact fun fr C σ' H' hC s'=>q C H' hC s'
 | .inl (.rt u),.inl t,hi,q=>
  cases (show u=t from hi);exact fun v H' s' r'=>q v H' s' ((RtX.of hl4).mp r')
 | .inl (.nx ρ'),.inl t,hi,q=>
  cases (show t=.non from hi);exact fun σ' M' H' S'=>q _ H' S'.same ((aO.scal rfl).mpr rfl)
theorem UJ {x qual:Str}{st:Stmt}{f:Addr}{fd:FuncData}{N ps:List Str}{k:Nat}{fl:List Nat}{n:Bool}{l:Nat}{FX:List T->Option (T ⊕ Str)}{run:Rho->Option (Out ⊕ Str)}(Fu:Fun K x qual st f fd) (S:FnScope N ps (defScope st))
  (hfl:fl.length=N.length) (hp:∀ i,i<ps.length->fl.getD i 1=1) (hlen:∀ ts t,FX ts=some t->ts.length=ps.length)
  (hb:∀ (cdv:Value) (A:Around) (outer:List Env) (s:Shared) (H:Hp) (E:XK),Room k (A.deeper (envOfC qual (defScope st) s.heap.objs.size f cdv)) ->
   fN (aV (CX1 P w) P w K mg base N qual (defScope st) f cdv A outer s H E) H fl n l (defBody st) run)
  (hrun:∀ ts t,FX ts=some t->∃ o,run (ts.map some++List.replicate (N.length-ps.length) none)=some o/\vI o t) (hl4:l≠4:=by decide):FnOk P w K mg base (CX1 P w) (k+1) f fd ps (spX K FX n l):=by
 have hN:ps.length<=N.length:=by have:=congrArg List.length S.pre;rw[aIw] at this;omega
 refine Fun.okX Fu S (fun vs H Q E h=>?_) (fun cdv A outer s H vs Q E hr h=>⟨_,hb cdv A outer s H E hr,FW hN hfl hp hlen hrun h hl4⟩);obtain⟨ts,t,r,hf,_⟩:=h;rw[<- r.length];exact hlen ts t hf
end
theorem Sl.drop {K:PySem.W.Frag}{B H:Hp}{fl:List Nat}{Ex:List (T × V)}{σ:St}{ρ:Rho}{M:List Addr}{i:Nat}(S:Sl K B fl Ex σ ρ M H):Sl K B fl Ex (σ.set i none) (ρ.set i none) M H:=by
 have get:∀ {j:Nat} {u:T},(ρ.set i none)[j]?=some (some u)->j≠i/\ρ[j]?=some (some u):=fun {j u} e=>by
  by_cases hj:j=i
  ·subst hj
   by_cases hl:j<ρ.length
   ·rw[aIn hl] at e;cases e
   ·rw[List.getElem?_eq_none_iff.mpr (by rw[aIv];omega)] at e;cases e
  ·rw[aHk (Ne.symm hj)] at e
   exact⟨hj,e⟩
 obtain⟨g,hg,ap⟩:=S.mu;refine⟨S.same,fun j u e k=>?_,⟨g,fun j u e k hm=>?_,fun j j' c d u u' us ws hne e e' k k' hm hm'=>?_⟩,S.ex,S.mB,by rw[aIv];exact S.len⟩
 ·obtain⟨hj,e⟩:=get e
  obtain⟨w,e1,r1⟩:=S.slot j u e k;exact⟨w,by rw[aHk (Ne.symm hj)];exact e1,r1⟩
 ·obtain⟨hj,e⟩:=get e
  obtain⟨w,e2,e3⟩:=hg j u e k hm;exact⟨w,by rw[aHk (Ne.symm hj)];exact e2,e3⟩
 ·obtain⟨hj,e⟩:=get e
  obtain⟨hj',e'⟩:=get e';exact ap j j' c d u u' us ws hne e e' k k' hm hm'
structure TryK (K:PySem.W.Frag) (mg:Str->Option Value) (c:Str) (nms:List Str):Prop where
 ex:∃ (CE:Addr) (cd:ClassData),mg c=some (.ref CE)/\PySem.W.typeIn K (.ref CE)=some (.type "type")/\PySem.W.clsIn K CE=some cd/\PySem.W.subIn K (.ref CE) (.type "BaseException")=some true /\
  ∀ nm∈nms,∀ C,nmC K nm C->eR K nm C/\PySem.W.subIn K (.ref C) (.ref CE)=some true
theorem SO {X:Cx}{pins:List (Addr × Obj)}{σ:St}{H:Hp}{s:Shared}{A:Around}{E:Value->Shared->Prop}{Q:Value->Shared->Prop}{c:Value}{b:Bool}{Ad:Addr->Prop}{nm:Str}{v:V}{u:Value}(I:Inv X pins σ H s) (r:Rep X.K H Ad (.exc nm) v) (rx:aX v u)
  (hx:∀ C,eR X.K nm C->PySem.W.kitOne X.K (.ref C) c=some b) (h:∀ tk,Q (.bool b) { s with toks:=tk }):wpAny (model X.prog X.w) A (call (.builtin "isinstance") [u,c]) Q E s:=by
 obtain⟨a,C,rfl,k,h1⟩:=r;cases rx;have ho:∃ oe,s.heap.get? a=some oe/\oe.cls=.ref C:=by
  rcases h1 with h1 | ⟨o,h1⟩
  ·obtain⟨⟨oe,vs,g1,g2,_⟩,_⟩:=I.hok a _ h1
   exact⟨oe,g1,g2⟩
  ·obtain⟨_,⟨oe,vs,g1,g2,_⟩,_⟩:=I.hok a _ h1
   exact⟨oe,g1,g2⟩
 exact aK2 (k.2.1 a) I.kIn ho (hx C k) (fun z=>nomatch z) h
def dW (tab:List (Str × Bool)):T->Option T
 | .exc nm=>(tab.lookup nm).map .bl
 | _=>none
section
variable {X:Cx}{B:Hp}{fl:List Nat}{e:Expr}{f:Rho->Option T}{n:Bool}{l:Nat}{pos p' p2:Pos}{x y:Str}{tab:List (Str × Bool)}
theorem HH {c:Value}{vc:V}(rc:aX vc c) (hE:PE X (.Name y p2) (tC vc)) (hx:x = "isinstance") (hg:Gl X x) (hm:X.mg x=none) (ht:∀ nm b,tab.lookup nm=some b->∀ C,eR X.K nm C->PySem.W.kitOne X.K (.ref C) c=some b) (he:GE X B fl e f n l)
  (hinj:∀ u,aX vc u->u=c)
  (h1:starEach [e,.Name y p2] X.env=(false,eval e X.env)::starEach [.Name y p2] X.env:=by rfl) (h2:starEach [.Name y p2] X.env=[(false,eval (.Name y p2) X.env)]:=by rfl) (hpl:(backTo pos (starEach [.Name y p2] X.env)).any (·.1)=false:=by rfl):
  GE X B fl (.Call (.Name x p') [e,.Name y p2] [] pos) (f1 f (dW tab)) true 3:=by
 subst hx;have cr:fI X (.builtin "isinstance") (fun xs H Q=>∃ v nm b A,xs=[v,vc]/\Rep X.K H A (.exc nm) v/\tab.lookup nm=some b/\Q (.bl b) H):=by
  intro pins s σ H xs us Q I r h;obtain⟨v,nm,b,A,rfl,rt,hl,q⟩:=h;obtain⟨u,w',rfl,r1,r2⟩:=yN r;cases hinj w' r2;exact SO I rt r1 (fun C k=>ht nm b hl C k) fun tk=>⟨.bl _,H,I.tok tk,rfl,q⟩
 refine bB (jZ cr hg hm PyProof.Rows.boot_isinstance (eB he (eB hE fW h2) h1) (by decide) (by decide) h1 hpl) ?_;rintro σ H Q ⟨Ex,ρ,M,t,S,hf,q⟩;obtain⟨u,hu,hf⟩:=bind_some hf
 match u,hf with
 | .exc nm,hf=>
  have hf:(tab.lookup nm).map T.bl=some t:=hf;cases hb:tab.lookup nm with
  | none=>rw[hb] at hf;cases hf
  | some b=>
   rw[hb] at hf;cases (aHa hf);exact⟨Ex,ρ,M,.exc nm,S,hu,fun v H1 s1 r1=>⟨v,nm,b,_,rfl,r1.rep S,hb,q _ H1 s1 ((aO.scal rfl).mpr rfl)⟩⟩
theorem FS (hx:x = "isinstance") (hg:Gl X x) (hm:X.mg x=none) (hg':Gl X y) (hT:∃ CE:Addr,X.mg y=some (.ref CE)/\∀ nm b,tab.lookup nm=some b->∀ C,eR X.K nm C->PySem.W.kitOne X.K (.ref C) (.ref CE)=some b) (he:GE X B fl e f n l)
  (hd:(y == ("__debug__" : Str))=false:=by decide)
  (h1:starEach [e,.Name y p2] X.env=(false,eval e X.env)::starEach [.Name y p2] X.env:=by rfl) (h2:starEach [.Name y p2] X.env=[(false,eval (.Name y p2) X.env)]:=by rfl) (hpl:(backTo pos (starEach [.Name y p2] X.env)).any (·.1)=false:=by rfl):
  GE X B fl (.Call (.Name x p') [e,.Name y p2] [] pos) (f1 f (dW tab)) true 3:=by
 obtain⟨CE,hy,ht⟩:=hT;exact HH (c:=.ref CE) (vc:=.ref CE) rfl (IV hg' hy rfl hd) hx hg hm ht he (fun u r=>by cases r;rfl) h1 h2 hpl
theorem TX {c:String}(hx:x = "isinstance") (hg:Gl X x) (hm:X.mg x=none) (hg':Gl X y) (hm':X.mg y=none) (hv:bootBuiltins y=some (.type c)) (ht:∀ nm b,tab.lookup nm=some b->∀ C,eR X.K nm C->PySem.W.kitOne X.K (.ref C) (.type c)=some b) (he:GE X B fl e f n l)
  (hn:y ≠ "__name__" := by decide) (hd:(y == ("__debug__" : Str))=false:=by decide)
  (h1:starEach [e,.Name y p2] X.env=(false,eval e X.env)::starEach [.Name y p2] X.env:=by rfl) (h2:starEach [.Name y p2] X.env=[(false,eval (.Name y p2) X.env)]:=by rfl) (hpl:(backTo pos (starEach [.Name y p2] X.env)).any (·.1)=false:=by rfl):
  GE X B fl (.Call (.Name x p') [e,.Name y p2] [] pos) (f1 f (dW tab)) true 3:=
 HH (c:=.type c) (vc:=.ty c) rfl (IS (v:=.ty c) hg' hm' hv rfl hn hd) hx hg hm ht he (fun u r=>by cases r;rfl) h1 h2 hpl
end
abbrev VB:List Value:=[.type "ValueError",.type "Exception",.type "BaseException",.type "object"]
def rX (K:PySem.W.Frag) (N:Addr):Bool:=PySem.W.nsOkIn K N&&quietNames.all fun z=>PySem.W.nsIn K N z == some none
theorem HF {K:PySem.W.Frag}{h:Heap}{N:Addr}(I:K.In h) (e:rX K N=true):∃ mN,h.Ns N mN/\∀ z∈quietNames,mN z=none:=by
 unfold rX at e;obtain⟨e1,e2⟩:=aHo.mp e;refine⟨h.nsMap N,.of_isNs (PySem.W.isNs_of_in I e1),fun z hz=>PySem.W.nsMap_none_of_in I e1 ?_⟩;exact beq_iff_eq.mp (aHg.mp e2 z hz)
def sA (K:PySem.W.Frag):List Value->Bool
 | []=>false
 | v::r=>((v::r) == VB)||(match v with
  | .ref A=>(match K.lookup A with
   | some u=>(match u.data with | .cls cd=>rX K cd.ns&&sA K r | _=>false)
   | none=>false)
  | _=>false)
theorem AO {K:PySem.W.Frag}{h:Heap}(I:K.In h):∀ {ls:List Value},sA K ls=true->OwnTailQ h VB ls
 | [],e=>by cases e
 | v::r,e=>by
  unfold sA at e;rcases Bool.or_eq_true_iff.mp e with q | q
  ·have:=beq_iff_eq.mp q
   rw[this];exact .base
  ·cases v with
   | ref A=>
    dsimp only at q;cases hA:K.lookup A with
    | none=>rw[hA] at q;cases q
    | some u=>
     rw[hA] at q;obtain⟨c0,d0,data0,s0⟩:=u;cases data0 with
     | cls cd=>
      obtain⟨q1,q2⟩:=aHo.mp q;obtain⟨mN,n1,n2⟩:=HF I q1;exact .own (I _ _ hA) n1 n2 (AO I q2)
     | _=>cases q
   | _=>cases q
def zO (K:PySem.W.Frag) (C:Addr):Bool:=match K.lookup C with
 | some ⟨.type "type",_,.cls cd,sl⟩=>(match cd.mro,sl.toList with
  | .ref C'::bm,[_,_,_,_,some (.builtin z),_]=>(z == "ValueError.__new__")&&(C' == C)&&sA K bm&&rX K cd.ns && !cd.hasDel
  | _,_=>false)
 | _=>false
theorem ER {K:PySem.W.Frag}{C:Addr}(h:zO K C=true):∃ bm N nm qn bs hdct sn sub ab col dd k0 k1 k2 k3 k5,K.lookup C=some (excClassObj nm qn C N bs bm hdct sn sub ab col dd k0 k1 k2 k3 k5 "ValueError.__new__")/\rX K N=true/\sA K bm=true:=by
 unfold zO at h;split at h
 ·rename_i d9 cd9 sl9 hK
  split at h
  ·rename_i C9 bm9 y0 y1 y2 y3 z9 y5 em es
   simp only[aHn,beq_iff_eq,Bool.not_eq_true'] at h;obtain⟨⟨⟨⟨e1,e2⟩,e3⟩,e4⟩,e5⟩:=h;obtain⟨a1,a2,a3,a4,a5,a6,a7,a8,a9,a10,a11⟩:=cd9;dsimp only at em e4 e5;obtain⟨ll⟩:=sl9;have es':ll=[y0,y1,y2,y3,some (.builtin z9),y5]:=es;subst em e5 es' e1 e2;exact⟨bm9,_,_,_,_,_,_,_,_,_,_,y0,y1,y2,y3,y5,hK,e4,e3⟩
  ·cases h
 ·cases h
def mL (K:PySem.W.Frag) (C:Addr):Bool:=zO K C&&(PySem.W.findIn K (.ref C) "__getattribute__" == some (some (.builtin "BaseException.__getattribute__")))&&(PySem.W.findIn K (.ref C) "__getattr__" == some none) &&
 (PySem.W.findIn K (.ref C) "__class__" == some (some (.builtin "object.__class__")))&&(PySem.W.specialIn K (.builtin "object.__class__") "__get__" == some (some (.builtin "getset_descriptor.__get__")))&&(PySem.W.takesIn K (.builtin "object.__class__") == some true) &&
 (PySem.W.mroIn K C (.type "object") == some true)&&(["int","bool","list","tuple","str"]:List String).all fun c=>PySem.W.kitOne K (.ref C) (.type c) == some false
theorem SN {K:PySem.W.Frag}{nm:Str}{C:Addr}(hn:nmC K nm C) (h:mL K C=true):eR K nm C:=by
 unfold mL at h;simp only[aHn,beq_iff_eq] at h;obtain⟨⟨⟨⟨⟨⟨⟨h0,h1⟩,h2⟩,h3⟩,h4⟩,h5⟩,h6⟩,h7⟩:=h;obtain⟨bm,N,nm',qn,bs,hdct,sn,sub,ab,col,dd,k0,k1,k2,k3,k5,hC,_,hl⟩:=ER h0;exact⟨hn,fun a=>WQ F.attrBase_ValueError hC (fun h I=>AO I hl) h1 h2 h3 h4 h5 h6,fun c hc=>beq_iff_eq.mp (aHg.mp h7 c hc)⟩
structure RaiseK (K:PySem.W.Frag) (mg:Str->Option Value) (base:Heap) (nm:Str):Prop where
 ex:∃ C,OwnCls nm C VB "ValueError.__new__" mg base/\nmC K nm C
theorem JM {K:PySem.W.Frag}{mg:Str->Option Value}{base:Heap}{nm:Str}{C:Addr}(I:K.In base) (G0:base.Ns mainGlobals mg) (hn:nmC K nm C) (h:mL K C=true):RaiseK K mg base nm:=by
 unfold mL at h;simp only[aHn,beq_iff_eq] at h;obtain⟨⟨⟨⟨⟨⟨⟨h0,h1⟩,h2⟩,h3⟩,h4⟩,h5⟩,h6⟩,h7⟩:=h;obtain⟨bm,N,nm',qn,bs,hdct,sn,sub,ab,col,dd,k0,k1,k2,k3,k5,hC,hh,hl⟩:=ER h0;obtain⟨mN,n1,n2⟩:=HF I hh;exact⟨C,OwnClsQ.own ⟨aK5 I G0 hn,bm,N,nm',qn,bs,hdct,sn,sub,ab,col,dd,k0,k1,k2,k3,k5,mN,I _ _ hC,n1,n2,AO I hl⟩,hn⟩
theorem GQ {X:Cx}{B:Hp}{fl:List Nat}{n:Bool}{l l':Nat}{x:Str}{np cpos pos:Pos}{e₀:Expr}{es:List Expr}{fa:Rho->Option (List T)}(R:RaiseK X.K X.mg X.base x) (hc:X.calm=true) (hex:X.ex=[]) (hg:Gl X x)
  (ha:GA X.nox B fl (e₀::es) fa l') (hdb:(x == ("__debug__" : Str))=false:=by decide) (he:starEach (e₀::es) X.env=(false,eval e₀ X.env)::starEach es X.env:=by rfl) (hpl:(backTo cpos (starEach es X.env)).any (·.1)=false:=by rfl):
  GSX X B fl n l (.Raise (some (.Call (.Name x np) (e₀::es) [] cpos)) none pos) (vG x fa):=by
 obtain⟨C,O,hn⟩:=R.ex;exact UZ hc hex hg O F.excBase_ValueError hn ha hdb he hpl
theorem AW {K:PySem.W.Frag}{nm:Str}{C C':Addr}(h:nmC K nm C) (h':nmC K nm C'):C=C':=by
 have:=h.symm.trans h';cases this;rfl
def dO (K:PySem.W.Frag) (mg:Str->Option Value) (y:Str) (tab:List (Str × Bool)):Prop:=∃ CE:Addr,mg y=some (.ref CE)/\∀ nm b,tab.lookup nm=some b->∀ C,eR K nm C->PySem.W.kitOne K (.ref C) (.ref CE)=some b
def rB (K:PySem.W.Frag) (c:String) (tab:List (Str × Bool)):Prop:=∀ nm b,tab.lookup nm=some b->∀ C,eR K nm C->PySem.W.kitOne K (.ref C) (.type c)=some b
section
variable {X:Cx}{B:Hp}{fl:List Nat}{e:Expr}{es:List Expr}{f:Rho->Option T}{fa:Rho->Option (List T)}{n n':Bool}{l l' k:Nat}{pos p':Pos}{x:Str}{ps:List Str}{F:List T->Option T}
end
section
variable {P:Program}{w:World}{K:PySem.W.Frag}{mg:Str->Option Value}{base:Heap}
end
def zC (b:Bool):Value->Bool
 | .bool c=>c == b
 | _=>false
theorem zD:∀ {bs:List Bool}{us:List Value},aL (bs.map V.bl) us->us=bs.map Value.bool
 | [],_,h=>by cases h;rfl
 | b::bs,_,h=>by
  cases h with
  | cons r t=>
   rw[zD t];cases r
   rfl
theorem EK (b:Bool):∀ bs:List Bool,(bs.map Value.bool).countP (zC b)=bs.count b
 | []=>rfl
 | c::bs=>by
  rw[aIy,List.countP_cons,List.count_cons,EK b bs]
  rfl
theorem XT {X:Cx}:MtR X "list.count" (fun x xs H Q=>∃ (a:Addr) (bs:List Bool) (b:Bool),x=.ref a/\xs=[.bl b]/\SqL X.K H a (bs.map V.bl)/\Q (.int (bs.count b:Nat)) H):=by
 intro pins s σ H x xs v us Q I rx rv h;obtain⟨a,bs,b,rfl,rfl,hS,q⟩:=h;cases rx;obtain⟨u,rfl,ru⟩:=rv.one;cases ru;obtain⟨its,r,p,hz⟩:=I.list hS;cases zD r;obtain⟨⟨cls,dd,data,sl⟩,ho,hc,n,hd⟩:=p.isList;simp only at hc hd;subst hc hd;have e:(bs.map Value.bool).toArray.toList.countP (zC b)=bs.count b:=EK b bs;have m:=PySem.SeqAt.list_countAt a (bs.map Value.bool).toArray n dd sl (.bool b) (zC b);rw[e] at m;refine call_meets PySem.F.slot_list_count ⟨_,ho,rfl⟩ PySem.F.entry_list_count (PySem.F.args_list_count_2 _ _) m ⟨ho,fun y hy=>?_,⟨.int _,H,I.tok _,⟨_,rfl⟩,q⟩⟩;obtain⟨c,_,rfl⟩:=aJ7.mp (show y∈bs.map Value.bool by simpa using hy);exact PySem.SeqAt.EqAt.bool_bool c b
def wM:T->T->Option T
 | .lst ts,.bl b=>(gH ts).map fun bs=>.int (bs.count b:Nat)
 | _,_=>none
theorem TN {X:Cx}{B:Hp}{fl:List Nat}{o e:Expr}{f g:Rho->Option T}{n n':Bool}{l l':Nat}{apos pos:Pos}(ho:GE X B fl o f n l) (he:GE X B fl e g n' l')
  (hbase:attributeBase o "count" X.env (eval o X.env)=eval o X.env:=by rfl)
  (hfew:((backTo pos (starEach [e] X.env)).all (fun x=>!x.1)&&(backToKw pos (keywordEach [] X.env)).all (fun x=>x.1.isSome)
   && decide (([e]:List Expr).length+([]:List Keyword).length+(if ([]:List Keyword).isEmpty then 0 else 1)<30))=true:=by rfl)
  (hline:(apos.endLine == pos.line)=true:=by rfl) (hs:starEach [e] X.env=[(false,eval e X.env)]:=by rfl):GE X B fl (.Call (.Attribute o "count" apos) [e] [] pos) (f2 f g wM) true 3:=by
 refine bB (sO PySem.F.plainAttrs_list PySem.F.slot_list_count PySem.F.type_list_count XT ho (eB he fW hs) hbase hfew hline hs rfl) ?_;rintro σ H Q ⟨Ex,ρ,M,t,S,hf,q⟩;obtain⟨x,hx,hf⟩:=bind_some hf;obtain⟨y,hy,hf⟩:=bind_some hf;cases x<;>first | (cases y<;>cases hf;done) | skip
 cases y<;>first | (cases hf;done) | skip
 rename_i us _ b;have hf:(gH us).map (fun bs=>T.int (bs.count b:Nat))=some t:=hf;cases ea:gH us with
 | none=>rw[ea] at hf;cases hf
 | some bs=>
  rw[ea] at hf;cases (aHa hf);cases yW ea;refine⟨Ex,ρ,M,_,S,hx,fun v H1 s1 rx=>?_⟩;obtain⟨p,xs,rfl,h1,h2⟩:=(rx.rep S).sqL;cases BV h2;refine⟨.inl ⟨rfl,_,h1⟩,Ex,ρ,M,_,S.grow s1,hy,fun v2 H2 s2 ry=>?_⟩;cases (aO.scal rfl).mp ry;have h1':SqL X.K H2 p (bs.map V.bl):=by
   rcases h1 with h | h
   ·exact .inl (eL (fun o q=>s2 _ _ q) h)
   ·exact .inr h
  exact⟨p,bs,b,rfl,rfl,h1',q _ _ (s1.trans s2) ((aO.scal rfl).mpr rfl)⟩
def CK (X:Cx) (es:List Expr) (tab:List (Str × Bool)):Prop:=
 ∃ cs:List Addr,cs.length=es.length/\PA X es (fun _ H Q=>Q (cs.map V.ref) H)/\∀ nm,tab.lookup nm=some false->∀ C,eR X.K nm C->PySem.W.kitAny X.K (.ref C) (cs.map Value.ref)=some false
section
variable {X:Cx}{B:Hp}{fl:List Nat}{e:Expr}{es:List Expr}{f:Rho->Option T}{n:Bool}{l:Nat}{pos p' p2:Pos}{x y:Str}{tab:List (Str × Bool)}
theorem QE:CK X [] tab:=⟨[],rfl,fW,fun _ _ _ _=>rfl⟩
theorem vK (hg:Gl X y) (hT:dO X.K X.mg y tab) (h:CK X es tab) (hd:(y == ("__debug__" : Str))=false:=by decide) (hs:starEach (.Name y p2::es) X.env=(false,eval (.Name y p2) X.env)::starEach es X.env:=by rfl):CK X (.Name y p2::es) tab:=by
 obtain⟨c,hy,ht⟩:=hT;obtain⟨cs,h1,h2,h3⟩:=h;refine⟨c::cs,by rw[aIp,aIp,h1],fun pos pins s σ H Q I q=>eB (IV (v:=.ref c) hg hy rfl hd) h2 hs pos pins s σ H Q I q,fun nm hn C k=>?_⟩;show (match PySem.W.kitOne X.K (.ref C) (.ref c) with | some true=>_ | some false=>_ | none=>_)=_
 rw[ht nm false hn C k];exact h3 nm hn C k
theorem JO:∀ {cs:List Addr}{us:List Value},aL (cs.map V.ref) us->us=cs.map Value.ref
 | [],_,h=>by cases h;rfl
 | c::cs,_,h=>by
  cases h with
  | cons r t=>
   rw[JO t];cases r
   rfl
theorem LC {nm:Str}{b:Bool}:∀ {tab:List (Str × Bool)},tab.all (fun x=>!x.2)=true->tab.lookup nm=some b->b=false
 | [],_,h=>by cases h
 | (m,c)::r,ha,h=>by
  rw[List.all_cons,aHn] at ha;rw[aIx] at h;split at h
  ·cases h
   simpa using ha.1
  ·exact LC ha.2 h
theorem TW {cx:Nat}(hx:x = "isinstance") (hg:Gl X x) (hm:X.mg x=none) (hc:CK X es tab) (hall:tab.all (fun x=>!x.2)=true) (hlen:es.length<=1000) (he:GE X B fl e f n l)
  (h1:starEach [e,.Tuple es cx p2] X.env=(false,eval e X.env)::starEach [.Tuple es cx p2] X.env:=by rfl) (h2:starEach [.Tuple es cx p2] X.env=[(false,eval (.Tuple es cx p2) X.env)]:=by rfl) (hpl:(backTo pos (starEach [.Tuple es cx p2] X.env)).any (·.1)=false:=by rfl):
  GE X B fl (.Call (.Name x p') [e,.Tuple es cx p2] [] pos) (f1 f (dW tab)) true 3:=by
 subst hx;obtain⟨cs,hl,hp,hk⟩:=hc;have cr:fI X (.builtin "isinstance") (fun xs H Q=>∃ v nm A tp,xs=[v,.ref tp]/\Rep X.K H A (.exc nm) v/\Rd H tp (.tup (cs.map V.ref))/\tab.lookup nm=some false/\Q (.bl false) H):=by
  intro pins s σ H xs us Q I r h;obtain⟨v,nm,A,tp,rfl,rt,hd,hn,q⟩:=h;obtain⟨u,w',rfl,r1,r2⟩:=yN r;cases r2;obtain⟨a,C,rfl,k,g⟩:=rt;cases r1;have ho:∃ oe,s.heap.get? a=some oe/\oe.cls=.ref C:=by
   rcases g with g | ⟨o,g⟩
   ·obtain⟨⟨oe,vs,g1,g2,_⟩,_⟩:=I.hok a _ g
    exact⟨oe,g1,g2⟩
   ·obtain⟨_,⟨oe,vs,g1,g2,_⟩,_⟩:=I.hok a _ g
    exact⟨oe,g1,g2⟩
  obtain⟨its,rv,⟨⟨cls,dd,data,sl⟩,g3,g4,n,g5⟩,_⟩:=I.tuple (.inl hd);cases JO rv;simp only at g4 g5;subst g4 g5;exact PySem.W.kia_tup (k.2.1 a) I.kIn ho g3 (hk nm hn C k) (fun z=>nomatch z) fun tk=>⟨.bl _,H,I.tok tk,rfl,q⟩
 refine bB (jZ cr hg hm PyProof.Rows.boot_isinstance (eB he (eB (BH hp) fW h2) h1) (by decide) (by decide) h1 hpl) ?_;rintro σ H Q ⟨Ex,ρ,M,t,S,hf,q⟩;obtain⟨u,hu,hf⟩:=bind_some hf
 match u,hf with
 | .exc nm,hf=>
  have hf:(tab.lookup nm).map T.bl=some t:=hf;cases hb:tab.lookup nm with
  | none=>rw[hb] at hf;cases hf
  | some b=>
   rw[hb] at hf;cases (aHa hf);cases LC hall hb;refine⟨Ex,ρ,M,.exc nm,S,hu,fun v H1 s1 r1=>⟨?_,fun p hp=>?_⟩⟩
   ·rw[aIr,hl,sizeLine_eq];omega
   ·exact⟨v,nm,_,p,rfl,(r1.rep S).grow (cX hp _),.inl cP,hb,q _ _ (s1.trans (cX hp _)) ((aO.scal rfl).mpr rfl)⟩
end
section
variable {X:Cx}{e1 e2:Expr}{t1:TE}{t2:TEX}{k:Nat}{f:Addr}{fd:FuncData}{ps:List Str}{sp:Sp}{x:Str}{p pos:Pos}
end
section
variable {X:Cx}{B:Hp}{fl:List Nat}{n nf ng n1:Bool}{l lf lg l1 la kf kg:Nat}{e1 e:Expr}{es:List Expr}{f1:Rho->Option T}{fa:Rho->Option (List T)}{FX:List T->Option (T ⊕ Str)}{F:List T->Option T}{x y:Str}{psf psg:List Str}{p p' pos pos' epos:Pos}
end
section
variable {X:Cx}{B:Hp}{fl:List Nat}{n n':Bool}{l l' k:Nat}{e:Expr}{es:List Expr}{fa:Rho->Option (List T)}{FX:List T->Option (T ⊕ Str)}{x:Str}{ps:List Str}{p' pos epos:Pos}{ds:List Value}{dvs:List V}{dts:List T}
end
section
variable {K:PySem.W.Frag}{mg:Str->Option Value}{base:Heap}{y m c:Str}{C CE:Addr}{b0:Bool}{tab:List (Str × Bool)}{nms:List Str}{cd:ClassData}
theorem LB {nm:Str}{b:Bool}(h:((m,b0)::tab).lookup nm=some b):(nm=m/\b=b0)\/tab.lookup nm=some b:=by
 rw[aIx] at h;cases e:nm == m with
 | true=>rw[e] at h;exact .inl ⟨eq_of_beq e,(aHa h).symm⟩
 | false=>rw[e] at h;exact .inr h
theorem qH (I:K.In base) (G0:base.Ns mainGlobals mg) (hy:nmC K y CE):dO K mg y []:=⟨CE,aK5 I G0 hy,fun nm b h=>by cases h⟩
theorem fA (I:K.In base) (G0:base.Ns mainGlobals mg) (hy:nmC K y CE) (hm:nmC K m C) (hk:PySem.W.kitOne K (.ref C) (.ref CE)=some b0) (h:dO K mg y tab):dO K mg y ((m,b0)::tab):=by
 obtain⟨CE',e1,e2⟩:=h;have e:=aK5 I G0 hy;rw[e1] at e;cases (Value.ref.inj (aHa e));refine⟨_,e1,fun nm b hl C' hC=>?_⟩;rcases LB hl with ⟨rfl,rfl⟩ | hl
 ·rw[AW hC.1 hm];exact hk
 ·exact e2 nm b hl C' hC
theorem VR {v:String}:rB K v []:=fun nm b h=>by cases h
theorem HG {v:String}(hm:nmC K m C) (hk:PySem.W.kitOne K (.ref C) (.type v)=some b0) (h:rB K v tab):rB K v ((m,b0)::tab):=fun nm b hl C' hC=>by
 rcases LB hl with ⟨rfl,rfl⟩ | hl
 ·rw[AW hC.1 hm];exact hk
 ·exact h nm b hl C' hC
theorem aEi (I:K.In base) (G0:base.Ns mainGlobals mg) (hc:nmC K c CE) (ht:PySem.W.typeIn K (.ref CE)=some (.type "type")) (hcl:PySem.W.clsIn K CE=some cd) (hb:PySem.W.subIn K (.ref CE) (.type "BaseException")=some true):TryK K mg c []:=
 ⟨CE,cd,aK5 I G0 hc,ht,hcl,hb,fun nm h=>by cases h⟩
theorem LQ (I:K.In base) (G0:base.Ns mainGlobals mg) (hc:nmC K c CE) (hm:nmC K m C) (hx:mL K C=true) (hs:PySem.W.subIn K (.ref C) (.ref CE)=some true) (h:TryK K mg c nms):TryK K mg c (m::nms):=by
 obtain⟨CE',cd',e1,e2,e3,e4,e5⟩:=h.ex;have e:=aK5 I G0 hc;rw[e1] at e;cases (Value.ref.inj (aHa e));refine⟨_,cd',e1,e2,e3,e4,fun nm hn C' hC=>?_⟩;rcases aHm.mp hn with rfl | hn
 ·cases AW hC hm
  exact⟨SN hm hx,hs⟩
 ·exact e5 nm hn C' hC
end
section
variable {X:Cx}{B:Hp}{fl:List Nat}{n n':Bool}{l l' k la:Nat}{e:Expr}{es:List Expr}{fa:Rho->Option (List T)}{FX:List T->Option (T ⊕ Str)}{x:Str}{ps:List Str}{p' pos epos:Pos}
end
def AK (k:Bool):Value->Bool
 | .bool b=>b == k
 | _=>false
theorem IH {k:Bool}:∀ {bs:List Bool}{j:Nat},j<bs.idxOf k->∀ (h2:j<bs.length),(bs[j] == k)=false
 | b::r,0,h,_=>by
  by_cases e:b=k
  ·subst e;simp at h
  ·simpa using e
 | b::r,j+1,h,h2=>by
  by_cases e:b=k
  ·subst e;simp at h
  ·have hb:(b == k)=false:=by simpa using e
   rw[List.idxOf_cons,hb] at h;exact IH (bs:=r) (j:=j) (by simpa using h) (Nat.lt_of_succ_lt_succ h2)
theorem XV {X:Cx}:MtR X "list.index" (fun x xs H Q=>∃ (a:Addr) (bs:List Bool) (k:Bool),x=.ref a/\xs=[.bl k]/\SqL X.K H a (bs.map V.bl)/\k∈bs/\Q (.int (bs.idxOf k:Nat)) H):=by
 intro pins s σ H x xs v us Q I rx rv h;obtain⟨a,bs,k,rfl,rfl,hS,hk,q⟩:=h;cases rx;obtain⟨u,rfl,ru⟩:=rv.one;cases ru;obtain⟨its,r,p,hz⟩:=I.list hS;cases zD r;have hj:bs.idxOf k<bs.length:=List.idxOf_lt_length_iff.mpr hk;have hz':bs.length<=sizeLine:=by simpa using hz
 rw[sizeLine_eq] at hz';obtain⟨⟨cls,dd,data,sl⟩,ho,hc,n,hd⟩:=p.isList;simp only at hc hd;subst hc hd;refine call_meets PySem.F.slot_list_index ⟨_,ho,rfl⟩ PySem.F.entry_list_index (PySem.F.args_list_index_2 _ _)
  (PySem.SeqAt.list_indexAt a (bs.map Value.bool).toArray n dd sl (.bool k) (AK k) (bs.idxOf k) (by simpa using hj) (by omega) ?_ ?_) ⟨ho,fun y hy=>?_,⟨.int _,H,I.tok _,⟨_,rfl⟩,q⟩⟩
 ·have hj':bs.idxOf k<(bs.map Value.bool).length:=by simpa using hj
  show AK k (bs.map Value.bool)[bs.idxOf k]=true;rw[List.getElem_map];show (bs[bs.idxOf k] == k)=true
  simpa using List.getElem_idxOf hj
 ·intro j hjs hlt
  have hj':j<(bs.map Value.bool).length:=by simpa using hjs
  show AK k (bs.map Value.bool)[j]=false;rw[List.getElem_map];exact IH hlt _
 ·obtain⟨b,_,rfl⟩:=aJ7.mp (by simpa using hy:y∈bs.map Value.bool)
  exact PySem.SeqAt.EqAt.bool_bool b k
def wO:T->T->Option T
 | .lst ts,.bl k=>(gH ts).bind fun bs=>if k∈bs then some (.int (bs.idxOf k:Nat)) else none
 | _,_=>none
theorem TU {X:Cx}{B:Hp}{fl:List Nat}{o e:Expr}{f g:Rho->Option T}{n n':Bool}{l l':Nat}{apos pos:Pos}(ho:GE X B fl o f n l) (he:GE X B fl e g n' l')
  (hbase:attributeBase o "index" X.env (eval o X.env)=eval o X.env:=by rfl)
  (hfew:((backTo pos (starEach [e] X.env)).all (fun x=>!x.1)&&(backToKw pos (keywordEach [] X.env)).all (fun x=>x.1.isSome)
   && decide (([e]:List Expr).length+([]:List Keyword).length+(if ([]:List Keyword).isEmpty then 0 else 1)<30))=true:=by rfl)
  (hline:(apos.endLine == pos.line)=true:=by rfl) (hs:starEach [e] X.env=[(false,eval e X.env)]:=by rfl):GE X B fl (.Call (.Attribute o "index" apos) [e] [] pos) (f2 f g wO) true 3:=by
 refine bB (sO PySem.F.plainAttrs_list PySem.F.slot_list_index PySem.F.type_list_index XV ho (eB he fW hs) hbase hfew hline hs rfl) ?_;rintro σ H Q ⟨Ex,ρ,M,t,S,hf,q⟩;obtain⟨x,hx,hf⟩:=bind_some hf;obtain⟨y,hy,hf⟩:=bind_some hf;cases x<;>first | (cases y<;>cases hf;done) | skip
 cases y<;>first | (cases hf;done) | skip
 rename_i us _ k;obtain⟨ns,ea,hg⟩:=bind_some (show ((gH us).bind fun ns=>if k∈ns then some (T.int (ns.idxOf k:Nat)) else none)=some t from hf);cases yW ea
 by_cases hk:k∈ns
 ·rw[if_pos hk] at hg
  cases (aHa hg);refine⟨Ex,ρ,M,_,S,hx,fun v H1 s1 rx=>?_⟩;obtain⟨p,xs,rfl,h1,h2⟩:=(rx.rep S).sqL;cases BV h2;refine⟨.inl ⟨rfl,_,h1⟩,Ex,ρ,M,_,S.grow s1,hy,fun v2 H2 s2 ry=>?_⟩;cases (aO.scal rfl).mp ry;have h1':SqL X.K H2 p (ns.map V.bl):=by
   rcases h1 with h | h
   ·exact .inl (eL (fun o q=>s2 _ _ q) h)
   ·exact .inr h
  exact⟨p,ns,k,rfl,rfl,h1',hk,q _ _ (s1.trans s2) ((aO.scal rfl).mpr rfl)⟩
 ·rw[if_neg hk] at hg
  cases hg
structure CalXP (P:Program) (w:World) (K:PySem.W.Frag) (mg:Str->Option Value) (base:Heap) (Pt:Addr) (o:HO) (x:Str) (k:Nat) (ps:List Str) (FX:List T->Option (T ⊕ Str)) (n:Bool) (l:Nat) (ds:List Value):Prop where
 ex:∃ f fd,FnOk P w K mg base (CX1 P w) k f fd ps (spP Pt o (spX K FX n l))/\mg x=some (.ref f)/\PySem.W.keepIn K (.ref f)=true/\fH K fd ps ds
section
variable {P:Program}{w:World}{K:PySem.W.Frag}{mg:Str->Option Value}{base:Heap}
theorem UK {x qual:Str}{st:Stmt}{f:Addr}{fd:FuncData}{N ps:List Str}{k:Nat}{fl:List Nat}{n:Bool}{l:Nat}{FX:List T->Option (T ⊕ Str)}{run:Rho->Option (Out ⊕ Str)}{Pt:Addr}{oP:HO}(Fu:Fun K x qual st f fd) (S:FnScope N ps (defScope st))
  (hfl:fl.length=N.length) (hp:∀ i,i<ps.length->fl.getD i 1=1) (hlen:∀ ts t,FX ts=some t->ts.length=ps.length)
  (hb:∀ (cdv:Value) (A:Around) (outer:List Env) (s:Shared) (H:Hp) (E:XK),H Pt=some oP->Room k (A.deeper (envOfC qual (defScope st) s.heap.objs.size f cdv)) ->
   fN (aV (CX1 P w) P w K mg base N qual (defScope st) f cdv A outer s H E) H fl n l (defBody st) run)
  (hrun:∀ ts t,FX ts=some t->∃ o,run (ts.map some++List.replicate (N.length-ps.length) none)=some o/\vI o t) (hl4:l≠4:=by decide):FnOk P w K mg base (CX1 P w) (k+1) f fd ps (spP Pt oP (spX K FX n l)):=by
 have hN:ps.length<=N.length:=by have:=congrArg List.length S.pre;rw[aIw] at this;omega
 refine Fun.okX Fu S (fun vs H Q E h=>?_) (fun cdv A outer s H vs Q E hr h=>⟨_,hb cdv A outer s H E h.1 hr,FW hN hfl hp hlen hrun h.2 hl4⟩);obtain⟨_,ts,t,r,hf,_⟩:=h;rw[<- r.length];exact hlen ts t hf
end
section
variable {X:Cx}{E:XK}{B:Hp}{fl:List Nat}{n:Bool}{l:Nat}{st:Stmt}{rest body:List Stmt}{r r1 r2:Rho->Option (Out ⊕ Str)}{pos p2:Pos}{x:Str}
end
section
variable {P:Program}{w:World}{K:PySem.W.Frag}{mg:Str->Option Value}{base:Heap}
end
def DM (X:Cx) (B:Hp) (fl:List Nat) (n:Bool) (l i:Nat) (nms:List Str) (rs:Rho->Option Out) (body:List Stmt) (run:Rho->Option Out):Prop:=
 ∃ tb,eE X body tb/\∀ CE,(∀ nm∈nms,∀ C,nmC X.K nm C->eR X.K nm C/\PySem.W.subIn X.K (.ref C) (.ref CE)=some true)->∀ D σ H,tS X.K B fl n l run D σ H->KZ X.K CE i tb (tS X.K B fl n l rs) D σ H
section
variable {X:Cx}{B:Hp}{fl:List Nat}{n n':Bool}{l l' la k i:Nat}{e:Expr}{es:List Expr}{fa:Rho->Option (List T)}{FX:List T->Option (T ⊕ Str)}{x c v:Str}{ps:List Str}{p' pos epos cp hpos tpos:Pos}{b₀:Stmt}{suite:List Stmt}{rs:Rho->Option Out}{nms:List Str}{ds:List Value}{dvs:List V}{dts:List T}
theorem UW {body:List Stmt}{run:Rho->Option Out}(TK:TryK X.K X.mg c nms) (hgc:Gl X c) (hst:X.stack=X.env::X.outer) (hL:X.env.frame=some X.env.locals) (hN:X.N.Nodup) (hi:X.N[i]?=some v) (hv:X.env.scope.names.lookup v=some .local)
  (hb:DM X B fl n l i nms rs body run) (hs:∀ a,GSs (X.hdl a) B fl n l (b₀::suite) rs) (hdc:(c == ("__debug__" : Str))=false:=by decide):
  GS X B fl n l (.Try body [.ExceptHandler (some (.Name c cp)) (some v) (b₀::suite) hpos] [] [] tpos) run:=by
 obtain⟨CE,cd,hmc,ht,hcl,hbe,hnm⟩:=TK.ex;obtain⟨tb,hb,kb⟩:=hb;exact eK (aBo (ts:=tS X.K B fl n l rs) (i:=i) hst hL hN hi hv hgc hmc ht hcl hbe hb (fun a=>hs a) hdc) fun D σ H h=>kb CE hnm D σ H h
end
def BP (j i:Nat) (fa:Rho->Option (List T)) (FX:List T->Option (T ⊕ Str)) (nms:List Str) (rs rr:Rho->Option Out):Rho->Option Out:=fun ρ=>(fa ρ).bind fun ts=>(FX ts).bind fun u=>match u with
 | .inl t=>rr (ρ.set j (some t))
 | .inr nm=>if nm∈nms then (rs (ρ.set i (some (.exc nm)))).bind fun o=>(match o with | .nx ρ'=>some (.nx (ρ'.set i none)) | .rt t=>some (.rt t) | _=>none) else none
@[simp] theorem rTryS_at (j i:Nat) (fa:Rho->Option (List T)) (FX:List T->Option (T ⊕ Str)) (nms:List Str) (rs rr:Rho->Option Out) (ρ:Rho):BP j i fa FX nms rs rr ρ=(fa ρ).bind fun ts=>(FX ts).bind fun u=>match u with
 | .inl t=>rr (ρ.set j (some t))
 | .inr nm=>if nm∈nms then (rs (ρ.set i (some (.exc nm)))).bind fun o=>(match o with | .nx ρ'=>some (.nx (ρ'.set i none)) | .rt t=>some (.rt t) | _=>none) else none:=id rfl
section
variable {X:Cx}{B:Hp}{fl:List Nat}{n n':Bool}{l la k i j:Nat}{e:Expr}{es:List Expr}{fa:Rho->Option (List T)}{FX:List T->Option (T ⊕ Str)}{x y:Str}{ps:List Str}{p' pos ypos apos:Pos}{rest:List Stmt}{rs rr:Rho->Option Out}{nms:List Str}{Pt:Addr}{oP:HO}
theorem aEb (C:CalXP X.prog X.w X.K X.mg X.base Pt oP x k ps FX n' 3 []) (hB:B Pt=some oP) (hr:Room k X.A) (hex:X.ex=[]) (hg:Gl X x) (ha:GA X.nox B fl (e::es) fa la)
  (hfl:(decide (i<fl.length)&&decide (1<=fl.getD i 1))=true) (hN:X.N.Nodup) (hj:X.N[j]?=some y) (hy:X.env.scope.names.lookup y=some .local) (hfj:(decide (j<fl.length)&&decide (fl.getD j 1=1))=true) (hrest:GSs X.nox B fl n l rest rr)
  (hsw:swapsWith (.Call (.Name x p') (e::es) [] pos) (some (.Name y ypos)) apos.line X.env=pure false:=by rfl) (hdb:(x == ("__debug__" : Str))=false:=by decide)
  (he:starEach (e::es) X.env=(false,eval e X.env)::starEach es X.env:=by rfl) (hpl:(backTo pos (starEach es X.env)).any (·.1)=false:=by rfl):
  DM X B fl n l i nms rs (.Assign [.Name y ypos] (.Call (.Name x p') (e::es) [] pos) apos::rest) (BP j i fa FX nms rs rr):=by
 obtain⟨f,fd,FO,hm,hk,hb⟩:=C.ex;simp only[aHn,decide_eq_true_eq] at hfl hfj;refine⟨_,JI (aBx hN hj (.inl hy) (IY (dvs:=[]) FO hr hex hg hm hk hb .nil ha hdb he hpl) hsw (.inr hy)) (BJ hrest),?_⟩;rintro CE hnm D σ H ⟨Ex,ρ,M,o,S,hrr,q⟩;obtain⟨ts,hts,hrr⟩:=bind_some hrr;obtain⟨u,hu,hrr⟩:=bind_some hrr;refine⟨Ex,ρ,M,ts,S,hts,fun vs H1 s1 r1=>?_⟩;show spP Pt oP (spX X.K FX n' 3) (vs++[]) H1 _ _;rw[aI8];refine⟨(S.same.trans s1) _ _ hB,ts,u,JX r1,hu,?_⟩;cases u with
 | inl t=>
  intro v H2 s2 r2;have r3:=(r2.called S s1 (.inr rfl)).rep S;have S2:=(S.grow (s1.trans s2)).set (i:=j) (t:=t) (v:=v) hfj.1 (.inl (by rw[hfj.2];exact aJf 1)) (r3.weak fun b hb=>⟨fun _=>hb.1 (by decide),fun z=>by rw[hfj.2] at z;exact absurd z (by decide),fun z=>by rw[hfj.2] at z;exact absurd z (by decide)⟩);exact⟨Ex,_,M,o,S2,hrr,q⟩
 | inr nm=>
  intro C' H2 hC s2;dsimp only at hrr;split at hrr
  ·rename_i hmem
   obtain⟨o',ho',hrr⟩:=bind_some hrr;obtain⟨hEx,hsub⟩:=hnm nm hmem C' hC;refine⟨rfl,C',rfl,hsub,fun a ha0=>?_⟩;have S2:=(S.grow (s1.trans s2)).grow (cX ha0 (pX a (.ref C')));have S3:=S2.set (i:=i) (t:=.exc nm) (v:=.ref a) hfl.1 (.inl hfl.2) ⟨a,C',rfl,hEx,.inl cP⟩;refine⟨Ex,_,M,o',S3,ho',?_⟩
   match o',hrr with
   | .nx ρ',hrr=>
    cases (aHa hrr);exact fun σ' M' H' S'=>q _ M' H' S'.drop
   | .rt t,hrr=>
    cases (aHa hrr);exact q
  ·cases hrr
end
end G
namespace My
open PySem PySem.Spec PyProof.Rows L2 G
def top (i:Nat):Stmt:=PySem.Challenge.pw_groupcost_k70_no_mix_refused.main.body.getD i (.Pass ⟨0,0,0,0⟩)
local macro_rules | `(tactic| trivial)=>`(tactic| first | exact Or.inl rfl | exact Or.inr rfl | exact Or.inr (Or.inl rfl) | exact Or.inr (Or.inr rfl))
set_option maxRecDepth 100000
variable {P:Program}{w:World}{K:PySem.W.Frag}{mg:Str->Option Value}{base:Heap}{f Pt cq bm:Addr}
abbrev cV:HO:=.tbc ⟨104,42,104,96⟩ ((("core_order" : Str) ++ ".<locals>.") ++ "<lambda>")
abbrev nD:Stmt:=top 41
theorem aCl:FnScope ["script","k"] ["script","k"] (defScope nD):=⟨rfl,rfl,rfl,by decide +kernel,rfl,by decide +kernel,by decide +kernel⟩
def sY:Rho->Option Out:=
 aH (rIf (fB (f2 (aA 1) (aJ (aC (aA 0) aF) dE) oLt)) (aZ (f1 (f2 (aA 0) (aA 1) oIx) aW)) bO)
  (aZ (fC (.int 0)))
def bW:List T->Option T:=Fof 2 0 sY
theorem MG (t0 t1:T):bW [t0,t1]=(sY [some t0,some t1]).bind bF:=rfl
theorem QY (aF5:mg "len" = none) (cdv:Value) (A:Around) (outer:List Env) (s:Shared) (H:Hp) (E:XK)
  (hr:Room 0 (A.deeper (envOfC "_law_cell" (defScope nD) s.heap.objs.size f cdv))):
  GSs (aV CX0 P w K mg base ["script","k"] "_law_cell" (defScope nD) f cdv A outer s H E).nox H [1,1] false 3 (defBody nD) sY:=by
 have hu:=hr.units;unfold sY;exact @aI _ _ _ _ _ _ _ _ _ (@cI _ _ _ _ _ _ _ _ _ _ _ _ (@wC _ _ _ _ _ _ _ _ _ _ _ _ (aB 1) (eH (by rfl) (by rfl) aF5 (aD (aB 0) aG))) (@aK _ _ _ _ _ _ _ (@bA _ _ _ _ _ _ _ _ (@bC _ _ _ _ _ _ _ _ _ (@GE.sc _ _ _ _ _ _ _ (@aY _ _ _ _ _ _ _ _ _ _ _ _ (aB 0) (aB 1) (by exact fun _ _=>rfl))) (by rfl)))) cJ) (@aK _ _ _ _ _ _ _ (@bA _ _ _ _ _ _ _ _ (@bC _ _ _ _ _ _ _ _ _ aE (by rfl))))
theorem YW {fd:FuncData}(aF5:mg "len" = none) (Fu:Fun K "_law_cell" "_law_cell" nD f fd):
  FnOk P w K mg base CX0 1 f fd ["script","k"] (spT K bW false 3):=
 gfn Fu aCl rfl (by decide) (fun ts t h=>bH h) (fun cdv A outer s H E hr=>@QY _ _ _ _ _ _ aF5 cdv A outer s H E hr) (fun ts t h=>bI h)
abbrev nI:Stmt:=top 43
theorem aCm:FnScope ["script"] ["script"] (defScope nI):=⟨rfl,rfl,rfl,by decide +kernel,rfl,by decide +kernel,by decide +kernel⟩
def tO:Rho->Option Out:=
 aZ (f1 (f2 (fC (.lst (tI [1,2,3,4,3,2,4,5,3,6]))) (f2 (aJ (aC (aA 0) (aC (fC (.int 0)) aF)) bW) (fC (.int 10)) aS) oIx) aW)
def kL:List T->Option T:=Fof 1 0 tO
theorem ML (t0:T):kL [t0]=(tO [some t0]).bind bF:=rfl
theorem RD (aF6:Cal P w K mg base "_law_cell" 1 ["script","k"] bW false 3) (cdv:Value) (A:Around) (outer:List Env) (s:Shared) (H:Hp) (E:XK)
  (hr:Room 1 (A.deeper (envOfC "_law_hands" (defScope nI) s.heap.objs.size f cdv))):
  GSs (aV CX0 P w K mg base ["script"] "_law_hands" (defScope nI) f cdv A outer s H E).nox H [1] false 3 (defBody nI) tO:=by
 have hu:=hr.units;unfold tO;exact @aK _ _ _ _ _ _ _ (@bA _ _ _ _ _ _ _ _ (@bC _ _ _ _ _ _ _ _ _ (@GE.sc _ _ _ _ _ _ _ (@aY _ _ _ _ _ _ _ _ _ _ _ _ (@zX _ _ _ _ _ ([ 1 ,2 ,3 ,4 ,3 ,2 ,4 ,5 ,3 ,6 ]) (by rfl) (by decide +kernel)) (@bY _ _ _ _ _ _ _ _ _ _ _ _ (aU aF6 (hr.mono (by decide)) (by rfl) (aD (aB 0) (aD aE aG))) aE) (by exact fun _ _=>rfl))) (by rfl)))
theorem ZC {fd:FuncData}(aF6:Cal P w K mg base "_law_cell" 1 ["script","k"] bW false 3) (Fu:Fun K "_law_hands" "_law_hands" nI f fd):
  FnOk P w K mg base CX0 2 f fd ["script"] (spT K kL false 3):=
 gfn Fu aCm rfl (by decide) (fun ts t h=>bH h) (fun cdv A outer s H E hr=>@RD _ _ _ _ _ _ aF6 cdv A outer s H E hr) (fun ts t h=>bI h)
abbrev nL:Stmt:=top 45
theorem uZ:FnScope ["script","hands","size","slots","k","at"] ["script","hands"] (defScope nL):=⟨rfl,rfl,rfl,by decide +kernel,rfl,by decide +kernel,by decide +kernel⟩
def xR:Rho->Option T:=
 f2 (f2 (f2 (f2 (aA 0) (aA 0) bN) (fC (.int 48271)) bN) (f2 (fC (.int 7)) (aA 0) bN) bS) (fC (.int 1009)) aS
def xQ:Rho->Option Out:=
 aH (aN 5 (f2 (f2 (aA 4) (fC (.int 1)) cR) (aA 2) aS))
  (eC 3 (aA 5) (f2 (f2 (f2 (f2 (aA 3) (aA 5) oIx) (fC (.int 1000003)) bN) (f2 (aA 0) (aA 4) oIx) bS) (f2 (fC (.int 10)) (fC (.int 59)) cN) aS))
def tR:Rho->Option Out:=
 aH (aN 2 (f2 (f2 (fC (.int 1)) (aA 1) dF) (fC (.int 1)) cR))
  (aH (dX 3 (dH (cU (aC (aA 2) aF) dM) [none] bJ xR))
  (aH (cW 4 (cU (aC (fC (.int 1)) (aC (aJ (aC (aA 0) aF) dE) aF)) gT)
  xQ)
  (aZ (gL 3))))
def kM:List T->Option T:=Fof 2 4 tR
theorem MN (t0 t1:T):kM [t0,t1]=(tR [some t0,some t1,none,none,none,none]).bind bF:=rfl
theorem RG (aF4:mg "range" = none) (aF5:mg "len" = none) (cdv:Value) (A:Around) (outer:List Env) (s:Shared) (H:Hp) (E:XK)
  (hr:Room 0 (A.deeper (envOfC "_law_slots" (defScope nL) s.heap.objs.size f cdv))):
  GSs (aV CX0 P w K mg base ["script","hands","size","slots","k","at"] "_law_slots" (defScope nL) f cdv A outer s H E).nox H [1,1,1,0,1,1] true 3 (defBody nL) tR:=by
 have hu:=hr.units;unfold tR xQ xR;exact @aI _ _ _ _ _ _ _ _ _ (@aQ _ _ _ _ _ _ _ _ _ _ _ _ 2 (@dS _ _ _ _ _ _ _ _ _ _ _ _ (@eO _ _ _ _ _ _ _ _ _ _ _ _ aE (aB 1)) aE) uZ.nd (by rfl) (Or.inl (by rfl)) (by rfl) (by rfl) (by trivial)) (@aI _ _ _ _ _ _ _ _ _ (@wB _ _ _ _ _ _ _ _ _ _ _ _ _ _ _ _ _ _ _ _ _ _ _ _ _ 3 (eF (by kernel_rfl) (N':=[ "k" ]) (src:=[ none ])) (gM (by kernel_rfl) (fl':=[ 2 ])) (by rfl) (eQ (by rfl) (by rfl) aF4 (aD (aB 2) aG)) (by rfl) (by rfl) (fun cl C s H ex=>⟨gO,@bY _ _ _ _ _ _ _ _ _ _ _ _ (@cB _ _ _ _ _ _ _ _ _ _ _ _ (@dI _ _ _ _ _ _ _ _ _ _ _ _ (@dI _ _ _ _ _ _ _ _ _ _ _ _ (aB 0) (aB 0)) aE) (@dI _ _ _ _ _ _ _ _ _ _ _ _ aE (aB 0))) aE⟩) uZ.nd (by rfl) (Or.inl (by rfl)) (by rfl) (by rfl) (by intro _;rfl) (by trivial)) (@aI _ _ _ _ _ _ _ _ _ (@dJ _ _ _ _ _ _ _ _ _ 4 _ _ _ _ _ PassesOwn.never (by rfl) (AA (by rfl) (by rfl) aF4 (aD aE (aD (eH (by rfl) (by rfl) aF5 (aD (aB 0) aG)) aG))) uZ.nd (by rfl) (Or.inl (by rfl)) (@aI _ _ _ _ _ _ _ _ _ (@aQ _ _ _ _ _ _ _ _ _ _ _ _ 5 (@bY _ _ _ _ _ _ _ _ _ _ _ _ (@dS _ _ _ _ _ _ _ _ _ _ _ _ (aB 4) aE) (aB 2)) uZ.nd (by rfl) (Or.inl (by rfl)) (by rfl) (by rfl) (by trivial)) (@aK _ _ _ _ _ _ _ (@hZ _ _ _ _ _ _ _ _ _ _ _ 3 _ _ _ _ _ _ (@bY _ _ _ _ _ _ _ _ _ _ _ _ (@cB _ _ _ _ _ _ _ _ _ _ _ _ (@dI _ _ _ _ _ _ _ _ _ _ _ _ (@aY _ _ _ _ _ _ _ _ _ _ _ _ (aB 3) (aB 5) (by exact fun _ _=>rfl)) aE) (@aY _ _ _ _ _ _ _ _ _ _ _ _ (aB 0) (aB 4) (by exact fun _ _=>rfl))) (@hX _ _ _ _ _ _ _ _ _ _ _ _ aE aE)) (aB 5) (by rfl) (by rfl) (by trivial) (by decide) (by decide) (by intro _;rfl) (by rfl) (by rfl) (by rfl)))) (by rfl) (by intro _;rfl) (by trivial)) (@aK _ _ _ _ _ _ _ (@bA _ _ _ _ _ _ _ _ (@mQ _ _ _ _ _ _ _ 3 (by rfl) (by trivial) (by rfl) (by decide) (by decide))))))
theorem ZF {fd:FuncData}(aF4:mg "range" = none) (aF5:mg "len" = none) (Fu:Fun K "_law_slots" "_law_slots" nL f fd):
  FnOk P w K mg base CX0 1 f fd ["script","hands"] (spT K kM true 3):=
 gfn Fu uZ rfl (by decide) (fun ts t h=>bH h) (fun cdv A outer s H E hr=>@RG _ _ _ _ _ _ aF4 aF5 cdv A outer s H E hr) (fun ts t h=>bI h)
abbrev nJ:Stmt:=top 44
theorem yH:FnScope ["group","many"] ["group"] (defScope nJ):=⟨rfl,rfl,rfl,by decide +kernel,rfl,by decide +kernel,by decide +kernel⟩
def KC:Rho->Option Out:=
 aH (aN 1 (f2 (aA 1) (f2 (aA 0) (fC (.int 2)) aS) bS))
  (aN 0 (f2 (aA 0) (fC (.int 2)) bK))
def KD:Rho->Option Bool:=
 fB (f2 (aA 0) (fC (.int 0)) oGt)
def BY:Rho->Option Out:=
 aH (aN 1 (fC (.int 0)))
  (aH (mX KD KC)
  (aZ (f1 (aA 1) aW)))
def fJ:List T->Option T:=Fof 1 1 BY
theorem RE (cdv:Value) (A:Around) (outer:List Env) (s:Shared) (H:Hp) (E:XK)
  (hr:Room 0 (A.deeper (envOfC "_law_many" (defScope nJ) s.heap.objs.size f cdv))):
  GSs (aV CX0 P w K mg base ["group","many"] "_law_many" (defScope nJ) f cdv A outer s H E).nox H [1,1] false 3 (defBody nJ) BY:=by
 have hu:=hr.units;unfold BY KD KC;exact @aI _ _ _ _ _ _ _ _ _ (@aQ _ _ _ _ _ _ _ _ _ _ _ _ 1 aE yH.nd (by rfl) (Or.inl (by rfl)) (by rfl) (by rfl) (by trivial)) (@aI _ _ _ _ _ _ _ _ _ (@AE _ _ _ _ _ _ _ _ _ _ PassesOwn.never (@qE _ _ _ _ _ _ _ _ _ _ _ _ (aB 0) aE) (@aI _ _ _ _ _ _ _ _ _ (@aQ _ _ _ _ _ _ _ _ _ _ _ _ 1 (@cB _ _ _ _ _ _ _ _ _ _ _ _ (aB 1) (@bY _ _ _ _ _ _ _ _ _ _ _ _ (aB 0) aE)) yH.nd (by rfl) (Or.inl (by rfl)) (by rfl) (by rfl) (by trivial)) (@aK _ _ _ _ _ _ _ (@aQ _ _ _ _ _ _ _ _ _ _ _ _ 0 (@eG _ _ _ _ _ _ _ _ _ _ _ _ (aB 0) aE) yH.nd (by rfl) (Or.inl (by rfl)) (by rfl) (by rfl) (by trivial))))) (@aK _ _ _ _ _ _ _ (@bA _ _ _ _ _ _ _ _ (@bC _ _ _ _ _ _ _ _ _ (@GE.sc _ _ _ _ _ _ _ (aB 1)) (by rfl)))))
theorem ZD {fd:FuncData}(Fu:Fun K "_law_many" "_law_many" nJ f fd):
  FnOk P w K mg base CX0 1 f fd ["group"] (spT K fJ false 3):=
 gfn Fu yH rfl (by decide) (fun ts t h=>bH h) (fun cdv A outer s H E hr=>@RE _ _ _ _ _ _  cdv A outer s H E hr) (fun ts t h=>bI h)
abbrev nM:Stmt:=top 47
theorem fY:FnScope ["slots","hands","most","table","part","slot","cap","weight","group","held","hand","each"] ["slots","hands","most"] (defScope nM):=⟨rfl,rfl,rfl,by decide +kernel,rfl,by decide +kernel,by decide +kernel⟩
def BZ:Rho->Option T:=
 fC (.int 0)
def tU:Rho->Option Out:=
 aH (aN 9 (aJ (aC (aA 6) (aC (aJ (aC (f2 (aA 8) (aA 4) gQ) aF) fJ) aF)) AY))
  (eC 3 (aA 8) (f2 (f2 (aA 3) (aA 8) oIx) (f2 (aA 7) (aA 9) bN) bS))
def qT:Rho->Option Out:=
 aH (aN 5 (f1 (f2 (aA 0) (f2 (aA 4) (fC (.int 1)) cR) oIx) aW))
  (aH (aN 6 (f2 (fC (.int 1)) (f2 (f2 (f2 (aA 5) (fC (.int 5)) bK) (fC (.int 11)) aS) (aJ (aC (aA 4) aF) fJ) aS) bS))
  (aH (aN 7 (f2 (f2 (aA 5) (fC (.int 55)) bK) (aA 2) aS))
  (rIf (sN (fB (f2 (aA 7) (fC (.int 0)) oGt)) (fB (f2 (f2 (aA 5) (fC (.int 5)) aS) (fC (.int 3)) oLt))) (cW 8 (cU (aC (f2 (fC (.int 1)) (aA 1) dF) aF) dM)
  tU) bO)))
def tV:Rho->Option Out:=
 rIf (fB (f2 (f2 (f2 (aA 8) (aA 10) jY) (fC (.int 1)) gQ) (fC (.int 1)) oEq)) (aH (aN 11 (f2 (f2 (f2 (f2 (aA 0) (aA 10) oIx) (fC (.int 3)) bK) (fC (.int 7)) aS) (fC (.int 3)) cR))
  (eC 3 (aA 8) (f2 (f2 (aA 3) (aA 8) oIx) (f2 (f2 (aA 11) (aA 2) bN) (fC (.int 2)) bK) bS))) bO
def tW:Rho->Option Out:=
 cW 10 (cU (aC (aA 1) aF) dM)
  tV
def tT:Rho->Option Out:=
 aH (dX 3 (dH (cU (aC (f2 (fC (.int 1)) (aA 1) dF) aF) dM) [none] bJ BZ))
  (aH (cW 4 (cU (aC (fC (.int 1)) (aC (f2 (fC (.int 1)) (aA 1) dF) aF)) gT)
  qT)
  (aH (cW 8 (cU (aC (f2 (fC (.int 1)) (aA 1) dF) aF) dM)
  tW)
  (aZ (gL 3))))
def kN:List T->Option T:=Fof 3 9 tT
theorem MO (t0 t1 t2:T):kN [t0,t1,t2]=(tT [some t0,some t1,some t2,none,none,none,none,none,none,none,none,none]).bind bF:=rfl
theorem RH (aFc:Cal P w K mg base "_law_many" 1 ["group"] fJ false 3) (aF4:mg "range" = none) (aGh:mg "min" = none) (cdv:Value) (A:Around) (outer:List Env) (s:Shared) (H:Hp) (E:XK)
  (hr:Room 1 (A.deeper (envOfC "_law_tied" (defScope nM) s.heap.objs.size f cdv))):
  GSs (aV CX0 P w K mg base ["slots","hands","most","table","part","slot","cap","weight","group","held","hand","each"] "_law_tied" (defScope nM) f cdv A outer s H E).nox H [1,1,1,0,1,1,1,1,1,1,1,1] true 3 (defBody nM) tT:=by
 have hu:=hr.units;unfold tT tW tV qT tU BZ;exact @aI _ _ _ _ _ _ _ _ _ (@wB _ _ _ _ _ _ _ _ _ _ _ _ _ _ _ _ _ _ _ _ _ _ _ _ _ 3 (eF (by kernel_rfl) (N':=[ "group" ]) (src:=[ none ])) (gM (by kernel_rfl) (fl':=[ 2 ])) (by rfl) (eQ (by rfl) (by rfl) aF4 (aD (@eO _ _ _ _ _ _ _ _ _ _ _ _ aE (aB 1)) aG)) (by rfl) (by rfl) (fun cl C s H ex=>⟨gO,@aE _ _ _ _ _ _⟩) fY.nd (by rfl) (Or.inl (by rfl)) (by rfl) (by rfl) (by intro _;rfl) (by trivial)) (@aI _ _ _ _ _ _ _ _ _ (@dJ _ _ _ _ _ _ _ _ _ 4 _ _ _ _ _ PassesOwn.never (by rfl) (AA (by rfl) (by rfl) aF4 (aD aE (aD (@eO _ _ _ _ _ _ _ _ _ _ _ _ aE (aB 1)) aG))) fY.nd (by rfl) (Or.inl (by rfl)) (@aI _ _ _ _ _ _ _ _ _ (@aQ _ _ _ _ _ _ _ _ _ _ _ _ 5 (@GE.sc _ _ _ _ _ _ _ (@aY _ _ _ _ _ _ _ _ _ _ _ _ (aB 0) (@dS _ _ _ _ _ _ _ _ _ _ _ _ (aB 4) aE) (by exact fun _ _=>rfl))) fY.nd (by rfl) (Or.inl (by rfl)) (by rfl) (by rfl) (by trivial)) (@aI _ _ _ _ _ _ _ _ _ (@aQ _ _ _ _ _ _ _ _ _ _ _ _ 6 (@cB _ _ _ _ _ _ _ _ _ _ _ _ aE (@bY _ _ _ _ _ _ _ _ _ _ _ _ (@bY _ _ _ _ _ _ _ _ _ _ _ _ (@eG _ _ _ _ _ _ _ _ _ _ _ _ (aB 5) aE) aE) (aU aFc (hr.mono (by decide)) (by rfl) (aD (aB 4) aG)))) fY.nd (by rfl) (Or.inl (by rfl)) (by rfl) (by rfl) (by trivial)) (@aI _ _ _ _ _ _ _ _ _ (@aQ _ _ _ _ _ _ _ _ _ _ _ _ 7 (@bY _ _ _ _ _ _ _ _ _ _ _ _ (@eG _ _ _ _ _ _ _ _ _ _ _ _ (aB 5) aE) (aB 2)) fY.nd (by rfl) (Or.inl (by rfl)) (by rfl) (by rfl) (by trivial)) (@aK _ _ _ _ _ _ _ (@cI _ _ _ _ _ _ _ _ _ _ _ _ (@GW.gt _ _ _ _ _ (@AI _ _ _ _ _ _ _ _ _ (@qE _ _ _ _ _ _ _ _ _ _ _ _ (aB 7) aE) (@AJ _ _ _ _ _ _ (@wC _ _ _ _ _ _ _ _ _ _ _ _ (@bY _ _ _ _ _ _ _ _ _ _ _ _ (aB 5) aE) aE)))) (@aK _ _ _ _ _ _ _ (@dJ _ _ _ _ _ _ _ _ _ 8 _ _ _ _ _ PassesOwn.never (by rfl) (eQ (by rfl) (by rfl) aF4 (aD (@eO _ _ _ _ _ _ _ _ _ _ _ _ aE (aB 1)) aG)) fY.nd (by rfl) (Or.inl (by rfl)) (@aI _ _ _ _ _ _ _ _ _ (@aQ _ _ _ _ _ _ _ _ _ _ _ _ 9 (TZ (by rfl) (by rfl) (by rfl) aGh (aD (aB 6) (aD (aU aFc (hr.mono (by decide)) (by rfl) (aD (@jQ _ _ _ _ _ _ _ _ _ _ _ _ (aB 8) (aB 4)) aG)) aG))) fY.nd (by rfl) (Or.inl (by rfl)) (by rfl) (by rfl) (by trivial)) (@aK _ _ _ _ _ _ _ (@hZ _ _ _ _ _ _ _ _ _ _ _ 3 _ _ _ _ _ _ (@cB _ _ _ _ _ _ _ _ _ _ _ _ (@aY _ _ _ _ _ _ _ _ _ _ _ _ (aB 3) (aB 8) (by exact fun _ _=>rfl)) (@dI _ _ _ _ _ _ _ _ _ _ _ _ (aB 7) (aB 9))) (aB 8) (by rfl) (by rfl) (by trivial) (by decide) (by decide) (by intro _;rfl) (by rfl) (by rfl) (by rfl)))) (by rfl) (by intro _;rfl) (by trivial))) cJ))))) (by rfl) (by intro _;rfl) (by trivial)) (@aI _ _ _ _ _ _ _ _ _ (@dJ _ _ _ _ _ _ _ _ _ 8 _ _ _ _ _ PassesOwn.never (by rfl) (eQ (by rfl) (by rfl) aF4 (aD (@eO _ _ _ _ _ _ _ _ _ _ _ _ aE (aB 1)) aG)) fY.nd (by rfl) (Or.inl (by rfl)) (@aK _ _ _ _ _ _ _ (@dJ _ _ _ _ _ _ _ _ _ 10 _ _ _ _ _ PassesOwn.never (by rfl) (eQ (by rfl) (by rfl) aF4 (aD (aB 1) aG)) fY.nd (by rfl) (Or.inl (by rfl)) (@aK _ _ _ _ _ _ _ (@cI _ _ _ _ _ _ _ _ _ _ _ _ (@fQ _ _ _ _ _ _ _ _ _ _ _ _ hu (@jQ _ _ _ _ _ _ _ _ _ _ _ _ (@vY _ _ _ _ _ _ _ _ _ _ _ _ (aB 8) (aB 10)) aE) aE) (@aI _ _ _ _ _ _ _ _ _ (@aQ _ _ _ _ _ _ _ _ _ _ _ _ 11 (@dS _ _ _ _ _ _ _ _ _ _ _ _ (@bY _ _ _ _ _ _ _ _ _ _ _ _ (@eG _ _ _ _ _ _ _ _ _ _ _ _ (@aY _ _ _ _ _ _ _ _ _ _ _ _ (aB 0) (aB 10) (by exact fun _ _=>rfl)) aE) aE) aE) fY.nd (by rfl) (Or.inl (by rfl)) (by rfl) (by rfl) (by trivial)) (@aK _ _ _ _ _ _ _ (@hZ _ _ _ _ _ _ _ _ _ _ _ 3 _ _ _ _ _ _ (@cB _ _ _ _ _ _ _ _ _ _ _ _ (@aY _ _ _ _ _ _ _ _ _ _ _ _ (aB 3) (aB 8) (by exact fun _ _=>rfl)) (@eG _ _ _ _ _ _ _ _ _ _ _ _ (@dI _ _ _ _ _ _ _ _ _ _ _ _ (aB 11) (aB 2)) aE)) (aB 8) (by rfl) (by rfl) (by trivial) (by decide) (by decide) (by intro _;rfl) (by rfl) (by rfl) (by rfl)))) cJ)) (by rfl) (by intro _;rfl) (by trivial))) (by rfl) (by intro _;rfl) (by trivial)) (@aK _ _ _ _ _ _ _ (@bA _ _ _ _ _ _ _ _ (@mQ _ _ _ _ _ _ _ 3 (by rfl) (by trivial) (by rfl) (by decide) (by decide))))))
theorem ZG {fd:FuncData}(aFc:Cal P w K mg base "_law_many" 1 ["group"] fJ false 3) (aF4:mg "range" = none) (aGh:mg "min" = none) (Fu:Fun K "_law_tied" "_law_tied" nM f fd):
  FnOk P w K mg base CX0 2 f fd ["slots","hands","most"] (spT K kN true 3):=
 gfn Fu fY rfl (by decide) (fun ts t h=>bH h) (fun cdv A outer s H E hr=>@RH _ _ _ _ _ _ aFc aF4 aGh cdv A outer s H E hr) (fun ts t h=>bI h)
abbrev nK:Stmt:=top 46
theorem uY:FnScope ["slots","hands","most","table","group","many","noise"] ["slots","hands","most"] (defScope nK):=⟨rfl,rfl,rfl,by decide +kernel,rfl,by decide +kernel,by decide +kernel⟩
def xP:Rho->Option Out:=
 aH (aN 5 (f1 (aJ (aC (aA 4) aF) fJ) aW))
  (aH (aN 6 (f2 (f2 (f2 (aA 0) (f2 (aA 4) (fC (.int 1)) cR) oIx) (fC (.int 7)) bK) (aA 2) aS))
  (BM 3 (f2 (aA 6) (f2 (f2 (aA 2) (aA 5) bN) (aA 5) bN) cR)))
def tQ:Rho->Option Out:=
 aH (dX 3 (fC (.lst (tI [0]))))
  (aH (cW 4 (cU (aC (fC (.int 1)) (aC (f2 (fC (.int 1)) (aA 1) dF) aF)) gT)
  xP)
  (aZ (gL 3)))
def jN:List T->Option T:=Fof 3 4 tQ
theorem MM (t0 t1 t2:T):jN [t0,t1,t2]=(tQ [some t0,some t1,some t2,none,none,none,none]).bind bF:=rfl
theorem RF (aFc:Cal P w K mg base "_law_many" 1 ["group"] fJ false 3) (aF4:mg "range" = none) (cdv:Value) (A:Around) (outer:List Env) (s:Shared) (H:Hp) (E:XK)
  (hr:Room 1 (A.deeper (envOfC "_law_noisy" (defScope nK) s.heap.objs.size f cdv))):
  GSs (aV CX0 P w K mg base ["slots","hands","most","table","group","many","noise"] "_law_noisy" (defScope nK) f cdv A outer s H E).nox H [1,1,1,0,1,1,1] true 3 (defBody nK) tQ:=by
 have hu:=hr.units;unfold tQ xP;exact @aI _ _ _ _ _ _ _ _ _ (@jS _ _ _ _ _ _ _ _ _ _ _ 3 (@zX _ _ _ _ _ ([ 0 ]) (by rfl) (by decide +kernel)) uY.nd (by rfl) (Or.inl (by rfl)) (by rfl) (by rfl) (by trivial)) (@aI _ _ _ _ _ _ _ _ _ (@dJ _ _ _ _ _ _ _ _ _ 4 _ _ _ _ _ PassesOwn.never (by rfl) (AA (by rfl) (by rfl) aF4 (aD aE (aD (@eO _ _ _ _ _ _ _ _ _ _ _ _ aE (aB 1)) aG))) uY.nd (by rfl) (Or.inl (by rfl)) (@aI _ _ _ _ _ _ _ _ _ (@aQ _ _ _ _ _ _ _ _ _ _ _ _ 5 (@GE.sc _ _ _ _ _ _ _ (aU aFc (hr.mono (by decide)) (by rfl) (aD (aB 4) aG))) uY.nd (by rfl) (Or.inl (by rfl)) (by rfl) (by rfl) (by trivial)) (@aI _ _ _ _ _ _ _ _ _ (@aQ _ _ _ _ _ _ _ _ _ _ _ _ 6 (@bY _ _ _ _ _ _ _ _ _ _ _ _ (@eG _ _ _ _ _ _ _ _ _ _ _ _ (@aY _ _ _ _ _ _ _ _ _ _ _ _ (aB 0) (@dS _ _ _ _ _ _ _ _ _ _ _ _ (aB 4) aE) (by exact fun _ _=>rfl)) aE) (aB 2)) uY.nd (by rfl) (Or.inl (by rfl)) (by rfl) (by rfl) (by trivial)) (@aK _ _ _ _ _ _ _ (@UR _ _ _ _ _ _ _ _ _ _ _ _ 3 _ _ (@dS _ _ _ _ _ _ _ _ _ _ _ _ (aB 6) (@dI _ _ _ _ _ _ _ _ _ _ _ _ (@dI _ _ _ _ _ _ _ _ _ _ _ _ (aB 2) (aB 5)) (aB 5))) (by rfl) (by rfl) (by trivial) (by decide) (by decide) (by rfl) (by rfl) (by rfl) (by rfl) (by rfl))))) (by rfl) (by intro _;rfl) (by trivial)) (@aK _ _ _ _ _ _ _ (@bA _ _ _ _ _ _ _ _ (@mQ _ _ _ _ _ _ _ 3 (by rfl) (by trivial) (by rfl) (by decide) (by decide)))))
theorem ZE {fd:FuncData}(aFc:Cal P w K mg base "_law_many" 1 ["group"] fJ false 3) (aF4:mg "range" = none) (Fu:Fun K "_law_noisy" "_law_noisy" nK f fd):
  FnOk P w K mg base CX0 2 f fd ["slots","hands","most"] (spT K jN true 3):=
 gfn Fu uY rfl (by decide) (fun ts t h=>bH h) (fun cdv A outer s H E hr=>@RF _ _ _ _ _ _ aFc aF4 cdv A outer s H E hr) (fun ts t h=>bI h)
abbrev nF:Stmt:=top 48
theorem pP:FnScope ["script","hands","slots","way","table"] ["script","hands"] (defScope nF):=⟨rfl,rfl,rfl,by decide +kernel,rfl,by decide +kernel,by decide +kernel⟩
def tE:Rho->Option T:=
 f2 (f2 (f2 (f2 (fC (.int 10)) (fC (.int 50)) cN) (fC (.int 2)) cN) (f2 (fC (.int 10)) (fC (.int 30)) cN) bN) (aA 0) bN
def tD:Rho->Option Out:=
 aH (aN 2 (aJ (aC (aA 0) (aC (aA 1) aF)) kM))
  (aH (aN 3 (f2 (f2 (aJ (aC (aA 0) (aC (fC (.int 0)) aF)) bW) (fC (.int 10)) bK) (fC (.int 4)) aS))
  (aH (dX 4 (aJ (aC (aA 2) (aC (aA 1) (aC (f2 (dQ (aC (fC (.int 4)) (aC (f2 (fC (.int 10)) (fC (.int 50)) cN) aF))) (f2 (aA 3) (fC (.int 2)) aS) oIx) aF))) kN))
  (aH (rIf (fB (f2 (aA 3) (fC (.int 0)) oEq)) (dX 4 (aJ (aC (aA 2) (aC (aA 1) (aC (f2 (fC (.int 10)) (fC (.int 58)) cN) aF))) jN)) bO)
  (aH (rIf (fB (f2 (aA 3) (fC (.int 1)) oEq)) (dX 4 (aJ (aC (aA 2) (aC (aA 1) (aC (fC (.int 3)) aF))) jN)) bO)
  (aH (rIf (fB (f2 (f2 (f2 (aJ (aC (aA 0) (aC (fC (.int 0)) aF)) bW) (fC (.int 40)) bK) (fC (.int 8)) aS) (fC (.int 3)) oEq)) (dX 4 (dH (fFL (aA 4)) [none] bJ tE)) bO)
  (aZ (gL 4)))))))
def kJ:List T->Option T:=Fof 2 3 tD
theorem MI (t0 t1:T):kJ [t0,t1]=(tD [some t0,some t1,none,none,none]).bind bF:=rfl
theorem RA (aFx:Cal P w K mg base "_law_slots" 1 ["script","hands"] kM true 3) (aF6:Cal P w K mg base "_law_cell" 1 ["script","k"] bW false 3) (aG5:Cal P w K mg base "_law_tied" 2 ["slots","hands","most"] kN true 3) (aFm:Cal P w K mg base "_law_noisy" 2 ["slots","hands","most"] jN true 3) (cdv:Value) (A:Around) (outer:List Env) (s:Shared) (H:Hp) (E:XK)
  (hr:Room 2 (A.deeper (envOfC "_law_falling" (defScope nF) s.heap.objs.size f cdv))):
  GSs (aV CX0 P w K mg base ["script","hands","slots","way","table"] "_law_falling" (defScope nF) f cdv A outer s H E).nox H [1,1,1,1,0] true 3 (defBody nF) tD:=by
 have hu:=hr.units;unfold tD tE;exact @aI _ _ _ _ _ _ _ _ _ (@aQ _ _ _ _ _ _ _ _ _ _ _ _ 2 (aU aFx (hr.mono (by decide)) (by rfl) (aD (aB 0) (aD (aB 1) aG))) pP.nd (by rfl) (Or.inl (by rfl)) (by rfl) (by rfl) (by trivial)) (@aI _ _ _ _ _ _ _ _ _ (@aQ _ _ _ _ _ _ _ _ _ _ _ _ 3 (@bY _ _ _ _ _ _ _ _ _ _ _ _ (@eG _ _ _ _ _ _ _ _ _ _ _ _ (aU aF6 (hr.mono (by decide)) (by rfl) (aD (aB 0) (aD aE aG))) aE) aE) pP.nd (by rfl) (Or.inl (by rfl)) (by rfl) (by rfl) (by trivial)) (@aI _ _ _ _ _ _ _ _ _ (@jS _ _ _ _ _ _ _ _ _ _ _ 4 (aU aG5 (hr.mono (by decide)) (by rfl) (aD (aB 2) (aD (aB 1) (aD (@aY _ _ _ _ _ _ _ _ _ _ _ _ (@eX _ _ _ _ _ _ _ (aD aE (aD (@hX _ _ _ _ _ _ _ _ _ _ _ _ aE aE) aG))) (@bY _ _ _ _ _ _ _ _ _ _ _ _ (aB 3) aE) (by exact fun _ _=>rfl)) aG)))) pP.nd (by rfl) (Or.inl (by rfl)) (by rfl) (by rfl) (by trivial)) (@aI _ _ _ _ _ _ _ _ _ (@cI _ _ _ _ _ _ _ _ _ _ _ _ (@fQ _ _ _ _ _ _ _ _ _ _ _ _ hu (aB 3) aE) (@aK _ _ _ _ _ _ _ (@jS _ _ _ _ _ _ _ _ _ _ _ 4 (aU aFm (hr.mono (by decide)) (by rfl) (aD (aB 2) (aD (aB 1) (aD (@hX _ _ _ _ _ _ _ _ _ _ _ _ aE aE) aG)))) pP.nd (by rfl) (Or.inl (by rfl)) (by rfl) (by rfl) (by trivial))) cJ) (@aI _ _ _ _ _ _ _ _ _ (@cI _ _ _ _ _ _ _ _ _ _ _ _ (@fQ _ _ _ _ _ _ _ _ _ _ _ _ hu (aB 3) aE) (@aK _ _ _ _ _ _ _ (@jS _ _ _ _ _ _ _ _ _ _ _ 4 (aU aFm (hr.mono (by decide)) (by rfl) (aD (aB 2) (aD (aB 1) (aD aE aG)))) pP.nd (by rfl) (Or.inl (by rfl)) (by rfl) (by rfl) (by trivial))) cJ) (@aI _ _ _ _ _ _ _ _ _ (@cI _ _ _ _ _ _ _ _ _ _ _ _ (@fQ _ _ _ _ _ _ _ _ _ _ _ _ hu (@bY _ _ _ _ _ _ _ _ _ _ _ _ (@eG _ _ _ _ _ _ _ _ _ _ _ _ (aU aF6 (hr.mono (by decide)) (by rfl) (aD (aB 0) (aD aE aG))) aE) aE) aE) (@aK _ _ _ _ _ _ _ (@wB _ _ _ _ _ _ _ _ _ _ _ _ _ _ _ _ _ _ _ _ _ _ _ _ _ 4 (eF (by kernel_rfl) (N':=[ "cost" ]) (src:=[ none ])) (gM (by kernel_rfl) (fl':=[ 2 ])) (by rfl) (fO (aB 4)) (by rfl) (by rfl) (fun cl C s H ex=>⟨gO,@dI _ _ _ _ _ _ _ _ _ _ _ _ (@dI _ _ _ _ _ _ _ _ _ _ _ _ (@hX _ _ _ _ _ _ _ _ _ _ _ _ (@hX _ _ _ _ _ _ _ _ _ _ _ _ aE aE) aE) (@hX _ _ _ _ _ _ _ _ _ _ _ _ aE aE)) (aB 0)⟩) pP.nd (by rfl) (Or.inl (by rfl)) (by rfl) (by rfl) (by intro _;rfl) (by trivial))) cJ) (@aK _ _ _ _ _ _ _ (@bA _ _ _ _ _ _ _ _ (@mQ _ _ _ _ _ _ _ 4 (by rfl) (by trivial) (by rfl) (by decide) (by decide)))))))))
theorem YY {fd:FuncData}(aFx:Cal P w K mg base "_law_slots" 1 ["script","hands"] kM true 3) (aF6:Cal P w K mg base "_law_cell" 1 ["script","k"] bW false 3) (aG5:Cal P w K mg base "_law_tied" 2 ["slots","hands","most"] kN true 3) (aFm:Cal P w K mg base "_law_noisy" 2 ["slots","hands","most"] jN true 3) (Fu:Fun K "_law_falling" "_law_falling" nF f fd):
  FnOk P w K mg base CX0 3 f fd ["script","hands"] (spT K kJ true 3):=
 gfn Fu pP rfl (by decide) (fun ts t h=>bH h) (fun cdv A outer s H E hr=>@RA _ _ _ _ _ _ aFx aF6 aG5 aFm cdv A outer s H E hr) (fun ts t h=>bI h)
abbrev nE:Stmt:=top 50
theorem yF:FnScope ["cell","hands","order","hand"] ["cell","hands"] (defScope nE):=⟨rfl,rfl,rfl,by decide +kernel,rfl,by decide +kernel,by decide +kernel⟩
def xO:Rho->Option Out:=
 aH (BN 2 (f2 (aA 0) (f2 (aA 3) (fC (.int 1)) bS) aS) (f1 (aA 3) aW))
  (aN 0 (f2 (aA 0) (f2 (aA 3) (fC (.int 1)) bS) bK))
def sZ:Rho->Option Out:=
 aH (dX 2 (dQ aF))
  (aH (cW 3 (cU (aC (aA 1) aF) dM)
  xO)
  (aZ (gL 2)))
def kI:List T->Option T:=Fof 2 2 sZ
theorem MH (t0 t1:T):kI [t0,t1]=(sZ [some t0,some t1,none,none]).bind bF:=rfl
theorem QZ (aF4:mg "range" = none) (cdv:Value) (A:Around) (outer:List Env) (s:Shared) (H:Hp) (E:XK)
  (hr:Room 0 (A.deeper (envOfC "_law_drawn" (defScope nE) s.heap.objs.size f cdv))):
  GSs (aV CX0 P w K mg base ["cell","hands","order","hand"] "_law_drawn" (defScope nE) f cdv A outer s H E).nox H [1,1,0,1] true 3 (defBody nE) sZ:=by
 have hu:=hr.units;unfold sZ xO;exact @aI _ _ _ _ _ _ _ _ _ (@jS _ _ _ _ _ _ _ _ _ _ _ 2 (@eX _ _ _ _ _ _ _ aG) yF.nd (by rfl) (Or.inl (by rfl)) (by rfl) (by rfl) (by trivial)) (@aI _ _ _ _ _ _ _ _ _ (@dJ _ _ _ _ _ _ _ _ _ 3 _ _ _ _ _ PassesOwn.never (by rfl) (eQ (by rfl) (by rfl) aF4 (aD (aB 1) aG)) yF.nd (by rfl) (Or.inl (by rfl)) (@aI _ _ _ _ _ _ _ _ _ (@US _ _ _ _ _ _ _ _ _ _ _ _ _ _ _ _ 2 _ _ (@bY _ _ _ _ _ _ _ _ _ _ _ _ (aB 0) (@cB _ _ _ _ _ _ _ _ _ _ _ _ (aB 3) aE)) (@GE.sc _ _ _ _ _ _ _ (aB 3)) (by rfl) (by rfl) (by trivial) (by decide) (by decide) (by rfl) (by rfl) (by rfl) (by rfl) (by rfl) (by rfl) (by rfl)) (@aK _ _ _ _ _ _ _ (@aQ _ _ _ _ _ _ _ _ _ _ _ _ 0 (@eG _ _ _ _ _ _ _ _ _ _ _ _ (aB 0) (@cB _ _ _ _ _ _ _ _ _ _ _ _ (aB 3) aE)) yF.nd (by rfl) (Or.inl (by rfl)) (by rfl) (by rfl) (by trivial)))) (by rfl) (by intro _;rfl) (by trivial)) (@aK _ _ _ _ _ _ _ (@bA _ _ _ _ _ _ _ _ (@mQ _ _ _ _ _ _ _ 2 (by rfl) (by trivial) (by rfl) (by decide) (by decide)))))
theorem YX {fd:FuncData}(aF4:mg "range" = none) (Fu:Fun K "_law_drawn" "_law_drawn" nE f fd):
  FnOk P w K mg base CX0 1 f fd ["cell","hands"] (spT K kI true 3):=
 gfn Fu yF rfl (by decide) (fun ts t h=>bH h) (fun cdv A outer s H E hr=>@QZ _ _ _ _ _ _ aF4 cdv A outer s H E hr) (fun ts t h=>bI h)
abbrev nC:Stmt:=top 49
theorem uX:FnScope ["table","order","shares","ahead","hand"] ["table","order"] (defScope nC):=⟨rfl,rfl,rfl,by decide +kernel,rfl,by decide +kernel,by decide +kernel⟩
def BX:Rho->Option T:=
 fC (.int 0)
def xM:Rho->Option Out:=
 aH (eC 2 (aA 4) (f2 (f2 (aA 0) (f2 (aA 3) (f2 (fC (.int 1)) (aA 4) dF) bS) oIx) (f2 (aA 0) (aA 3) oIx) cR))
  (aN 3 (f2 (aA 3) (f2 (fC (.int 1)) (aA 4) dF) bS))
def sX:Rho->Option Out:=
 aH (dX 2 (dH (fFL (aA 1)) [none] bJ BX))
  (aH (aN 3 (fC (.int 0)))
  (aH (cW 4 (fFL (aA 1))
  xM)
  (aZ (gL 2))))
def kH:List T->Option T:=Fof 2 3 sX
theorem MF (t0 t1:T):kH [t0,t1]=(sX [some t0,some t1,none,none,none]).bind bF:=rfl
theorem QX (cdv:Value) (A:Around) (outer:List Env) (s:Shared) (H:Hp) (E:XK)
  (hr:Room 0 (A.deeper (envOfC "_law_by" (defScope nC) s.heap.objs.size f cdv))):
  GSs (aV CX0 P w K mg base ["table","order","shares","ahead","hand"] "_law_by" (defScope nC) f cdv A outer s H E).nox H [1,1,0,1,1] true 3 (defBody nC) sX:=by
 have hu:=hr.units;unfold sX xM BX;exact @aI _ _ _ _ _ _ _ _ _ (@wB _ _ _ _ _ _ _ _ _ _ _ _ _ _ _ _ _ _ _ _ _ _ _ _ _ 2 (eF (by kernel_rfl) (N':=[ "hand" ]) (src:=[ none ])) (gM (by kernel_rfl) (fl':=[ 2 ])) (by rfl) (fO (aB 1)) (by rfl) (by rfl) (fun cl C s H ex=>⟨gO,@aE _ _ _ _ _ _⟩) uX.nd (by rfl) (Or.inl (by rfl)) (by rfl) (by rfl) (by intro _;rfl) (by trivial)) (@aI _ _ _ _ _ _ _ _ _ (@aQ _ _ _ _ _ _ _ _ _ _ _ _ 3 aE uX.nd (by rfl) (Or.inl (by rfl)) (by rfl) (by rfl) (by trivial)) (@aI _ _ _ _ _ _ _ _ _ (@dJ _ _ _ _ _ _ _ _ _ 4 _ _ _ _ _ PassesOwn.never (by rfl) (fO (aB 1)) uX.nd (by rfl) (Or.inl (by rfl)) (@aI _ _ _ _ _ _ _ _ _ (@hZ _ _ _ _ _ _ _ _ _ _ _ 2 _ _ _ _ _ _ (@dS _ _ _ _ _ _ _ _ _ _ _ _ (@aY _ _ _ _ _ _ _ _ _ _ _ _ (aB 0) (@cB _ _ _ _ _ _ _ _ _ _ _ _ (aB 3) (@eO _ _ _ _ _ _ _ _ _ _ _ _ aE (aB 4))) (by exact fun _ _=>rfl)) (@aY _ _ _ _ _ _ _ _ _ _ _ _ (aB 0) (aB 3) (by exact fun _ _=>rfl))) (aB 4) (by rfl) (by rfl) (by trivial) (by decide) (by decide) (by intro _;rfl) (by rfl) (by rfl) (by rfl)) (@aK _ _ _ _ _ _ _ (@aQ _ _ _ _ _ _ _ _ _ _ _ _ 3 (@cB _ _ _ _ _ _ _ _ _ _ _ _ (aB 3) (@eO _ _ _ _ _ _ _ _ _ _ _ _ aE (aB 4))) uX.nd (by rfl) (Or.inl (by rfl)) (by rfl) (by rfl) (by trivial)))) (by rfl) (by intro _;rfl) (by trivial)) (@aK _ _ _ _ _ _ _ (@bA _ _ _ _ _ _ _ _ (@mQ _ _ _ _ _ _ _ 2 (by rfl) (by trivial) (by rfl) (by decide) (by decide))))))
theorem YV {fd:FuncData}(Fu:Fun K "_law_by" "_law_by" nC f fd):
  FnOk P w K mg base CX0 1 f fd ["table","order"] (spT K kH true 3):=
 gfn Fu uX rfl (by decide) (fun ts t h=>bH h) (fun cdv A outer s H E hr=>@QX _ _ _ _ _ _  cdv A outer s H E hr) (fun ts t h=>bI h)
abbrev nH:Stmt:=top 51
theorem yG:FnScope ["row","group","total","hand"] ["row","group"] (defScope nH):=⟨rfl,rfl,rfl,by decide +kernel,rfl,by decide +kernel,by decide +kernel⟩
def tN:Rho->Option Out:=
 rIf (fB (f2 (f2 (f2 (aA 1) (aA 3) jY) (fC (.int 1)) gQ) (fC (.int 1)) oEq)) (aN 2 (f2 (aA 2) (f2 (aA 0) (aA 3) oIx) bS)) bO
def tM:Rho->Option Out:=
 aH (aN 2 (fC (.int 0)))
  (aH (cW 3 (cU (aC (aJ (aC (aA 0) aF) dE) aF) dM)
  tN)
  (aZ (f1 (aA 2) aW)))
def gD:List T->Option T:=Fof 2 2 tM
theorem MK (t0 t1:T):gD [t0,t1]=(tM [some t0,some t1,none,none]).bind bF:=rfl
theorem RC (aF5:mg "len" = none) (aF4:mg "range" = none) (cdv:Value) (A:Around) (outer:List Env) (s:Shared) (H:Hp) (E:XK)
  (hr:Room 0 (A.deeper (envOfC "_law_gives" (defScope nH) s.heap.objs.size f cdv))):
  GSs (aV CX0 P w K mg base ["row","group","total","hand"] "_law_gives" (defScope nH) f cdv A outer s H E).nox H [1,1,1,1] false 3 (defBody nH) tM:=by
 have hu:=hr.units;unfold tM tN;exact @aI _ _ _ _ _ _ _ _ _ (@aQ _ _ _ _ _ _ _ _ _ _ _ _ 2 aE yG.nd (by rfl) (Or.inl (by rfl)) (by rfl) (by rfl) (by trivial)) (@aI _ _ _ _ _ _ _ _ _ (@dJ _ _ _ _ _ _ _ _ _ 3 _ _ _ _ _ PassesOwn.never (by rfl) (eQ (by rfl) (by rfl) aF4 (aD (eH (by rfl) (by rfl) aF5 (aD (aB 0) aG)) aG)) yG.nd (by rfl) (Or.inl (by rfl)) (@aK _ _ _ _ _ _ _ (@cI _ _ _ _ _ _ _ _ _ _ _ _ (@fQ _ _ _ _ _ _ _ _ _ _ _ _ hu (@jQ _ _ _ _ _ _ _ _ _ _ _ _ (@vY _ _ _ _ _ _ _ _ _ _ _ _ (aB 1) (aB 3)) aE) aE) (@aK _ _ _ _ _ _ _ (@aQ _ _ _ _ _ _ _ _ _ _ _ _ 2 (@cB _ _ _ _ _ _ _ _ _ _ _ _ (aB 2) (@aY _ _ _ _ _ _ _ _ _ _ _ _ (aB 0) (aB 3) (by exact fun _ _=>rfl))) yG.nd (by rfl) (Or.inl (by rfl)) (by rfl) (by rfl) (by trivial))) cJ)) (by rfl) (by intro _;rfl) (by trivial)) (@aK _ _ _ _ _ _ _ (@bA _ _ _ _ _ _ _ _ (@bC _ _ _ _ _ _ _ _ _ (@GE.sc _ _ _ _ _ _ _ (aB 2)) (by rfl)))))
theorem ZB {fd:FuncData}(aF5:mg "len" = none) (aF4:mg "range" = none) (Fu:Fun K "_law_gives" "_law_gives" nH f fd):
  FnOk P w K mg base CX0 1 f fd ["row","group"] (spT K gD false 3):=
 gfn Fu yG rfl (by decide) (fun ts t h=>bH h) (fun cdv A outer s H E hr=>@RC _ _ _ _ _ _ aF5 aF4 cdv A outer s H E hr) (fun ts t h=>bI h)
abbrev nN:Stmt:=top 52
theorem KK:FnScope ["table","shares","group"] ["table","shares"] (defScope nN):=⟨rfl,rfl,rfl,by decide +kernel,rfl,by decide +kernel,by decide +kernel⟩
def xS:Rho->Option Out:=
 rIf (fB (f2 (aJ (aC (aA 1) (aC (aA 2) aF)) gD) (f2 (aA 0) (aA 2) oIx) oGt)) (aZ (fC (.bl false))) bO
def tX:Rho->Option Out:=
 aH (cW 2 (cU (aC (aJ (aC (aA 0) aF) dE) aF) dM)
  xS)
  (aZ (fC (.bl true)))
def kO:List T->Option T:=Fof 2 1 tX
theorem MP (t0 t1:T):kO [t0,t1]=(tX [some t0,some t1,none]).bind bF:=rfl
theorem RI (aFb:Cal P w K mg base "_law_gives" 1 ["row","group"] gD false 3) (aF5:mg "len" = none) (aF4:mg "range" = none) (cdv:Value) (A:Around) (outer:List Env) (s:Shared) (H:Hp) (E:XK)
  (hr:Room 1 (A.deeper (envOfC "_law_under" (defScope nN) s.heap.objs.size f cdv))):
  GSs (aV CX0 P w K mg base ["table","shares","group"] "_law_under" (defScope nN) f cdv A outer s H E).nox H [1,1,1] false 3 (defBody nN) tX:=by
 have hu:=hr.units;unfold tX xS;exact @aI _ _ _ _ _ _ _ _ _ (@dJ _ _ _ _ _ _ _ _ _ 2 _ _ _ _ _ PassesOwn.never (by rfl) (eQ (by rfl) (by rfl) aF4 (aD (eH (by rfl) (by rfl) aF5 (aD (aB 0) aG)) aG)) KK.nd (by rfl) (Or.inl (by rfl)) (@aK _ _ _ _ _ _ _ (@cI _ _ _ _ _ _ _ _ _ _ _ _ (@qE _ _ _ _ _ _ _ _ _ _ _ _ (aU aFb (hr.mono (by decide)) (by rfl) (aD (aB 1) (aD (aB 2) aG))) (@aY _ _ _ _ _ _ _ _ _ _ _ _ (aB 0) (aB 2) (by exact fun _ _=>rfl))) (@aK _ _ _ _ _ _ _ (@bA _ _ _ _ _ _ _ _ (@bC _ _ _ _ _ _ _ _ _ pZ (by rfl)))) cJ)) (by rfl) (by intro _;rfl) (by trivial)) (@aK _ _ _ _ _ _ _ (@bA _ _ _ _ _ _ _ _ (@bC _ _ _ _ _ _ _ _ _ pZ (by rfl))))
theorem ZH {fd:FuncData}(aFb:Cal P w K mg base "_law_gives" 1 ["row","group"] gD false 3) (aF5:mg "len" = none) (aF4:mg "range" = none) (Fu:Fun K "_law_under" "_law_under" nN f fd):
  FnOk P w K mg base CX0 2 f fd ["table","shares"] (spT K kO false 3):=
 gfn Fu KK rfl (by decide) (fun ts t h=>bH h) (fun cdv A outer s H E hr=>@RI _ _ _ _ _ _ aFb aF5 aF4 cdv A outer s H E hr) (fun ts t h=>bI h)
abbrev nB:Stmt:=top 53
theorem aCk:FnScope ["table","shares"] ["table","shares"] (defScope nB):=⟨rfl,rfl,rfl,by decide +kernel,rfl,by decide +kernel,by decide +kernel⟩
def sW:Rho->Option Out:=
 aZ (f1 (vE (aJ (aC (aA 0) (aC (aA 1) aF)) kO) (f2 (aJ (aC (aA 1) (aC (f2 (aJ (aC (aA 0) aF) dE) (fC (.int 1)) cR) aF)) gD) (f2 (aA 0) (f1 (fC (.int 1)) dL) oIx) oEq)) aW)
def kG:List T->Option T:=Fof 2 0 sW
theorem ME (t0 t1:T):kG [t0,t1]=(sW [some t0,some t1]).bind bF:=rfl
theorem QW (aFy:Cal P w K mg base "_law_under" 2 ["table","shares"] kO false 3) (aFb:Cal P w K mg base "_law_gives" 1 ["row","group"] gD false 3) (aF5:mg "len" = none) (cdv:Value) (A:Around) (outer:List Env) (s:Shared) (H:Hp) (E:XK)
  (hr:Room 2 (A.deeper (envOfC "_law_base" (defScope nB) s.heap.objs.size f cdv))):
  GSs (aV CX0 P w K mg base ["table","shares"] "_law_base" (defScope nB) f cdv A outer s H E).nox H [1,1] false 3 (defBody nB) sW:=by
 have hu:=hr.units;unfold sW;exact @aK _ _ _ _ _ _ _ (@bA _ _ _ _ _ _ _ _ (@bC _ _ _ _ _ _ _ _ _ (@GE.sc _ _ _ _ _ _ _ (@zV _ _ _ _ _ _ _ _ _ _ _ _ _ (aU aFy (hr.mono (by decide)) (by rfl) (aD (aB 0) (aD (aB 1) aG))) (@vW _ _ _ _ _ _ _ _ _ (@qA _ _ _ _ _ _ _ _ _ _ _ _ hu (aU aFb (hr.mono (by decide)) (by rfl) (aD (aB 1) (aD (@dS _ _ _ _ _ _ _ _ _ _ _ _ (eH (by rfl) (by rfl) aF5 (aD (aB 0) aG)) aE) aG))) (@aY _ _ _ _ _ _ _ _ _ _ _ _ (aB 0) (@jR _ _ _ _ _ _ _ _ aE) (by exact fun _ _=>rfl)))))) (by rfl)))
theorem YU {fd:FuncData}(aFy:Cal P w K mg base "_law_under" 2 ["table","shares"] kO false 3) (aFb:Cal P w K mg base "_law_gives" 1 ["row","group"] gD false 3) (aF5:mg "len" = none) (Fu:Fun K "_law_base" "_law_base" nB f fd):
  FnOk P w K mg base CX0 3 f fd ["table","shares"] (spT K kG false 3):=
 gfn Fu aCk rfl (by decide) (fun ts t h=>bH h) (fun cdv A outer s H E hr=>@QW _ _ _ _ _ _ aFy aFb aF5 cdv A outer s H E hr) (fun ts t h=>bI h)
abbrev nG:Stmt:=top 54
theorem qW:FnScope ["table","hands","group","free","one","other","both"] ["table","hands"] (defScope nG):=⟨rfl,rfl,rfl,by decide +kernel,rfl,by decide +kernel,by decide +kernel⟩
def tK:Rho->Option Bool:=
 fB (f2 (f2 (f2 (aA 1) (aA 0) jY) (fC (.int 1)) gQ) (fC (.int 0)) oEq)
def tH:Rho->Option T:=
 f2 (fC (.int 1)) (aA 0) dF
def tL:Rho->Option Bool:=
 fB (f2 (aA 0) (aA 1) oGt)
def tJ:Rho->Option T:=
 f1 (aA 0) aW
def qS:Rho->Option Out:=
 aH (aN 6 (f2 (f2 (aA 0) (f2 (f2 (aA 2) (aA 4) bS) (aA 5) bS) oIx) (f2 (aA 0) (aA 2) oIx) bS))
  (rIf (fB (f2 (f2 (f2 (aA 0) (f2 (aA 2) (aA 4) bS) oIx) (f2 (aA 0) (f2 (aA 2) (aA 5) bS) oIx) bS) (aA 6) oLt)) (aZ (fC (.bl false))) bO)
def kB:Rho->Option Out:=
 cW 5 (fFL (dH (fFL (aA 3)) [none,some 4] tL tJ))
  qS
def nA:Rho->Option Out:=
 aH (aN 3 (dH (cU (aC (aA 1) aF) dM) [none,some 2] tK tH))
  (cW 4 (fFL (aA 3))
  kB)
def tF:Rho->Option Out:=
 aH (cW 2 (cU (aC (aJ (aC (aA 0) aF) dE) aF) dM)
  nA)
  (aZ (fC (.bl true)))
def kK:List T->Option T:=Fof 2 5 tF
theorem MJ (t0 t1:T):kK [t0,t1]=(tF [some t0,some t1,none,none,none,none,none]).bind bF:=rfl
theorem RB (aF5:mg "len" = none) (aF4:mg "range" = none) (cdv:Value) (A:Around) (outer:List Env) (s:Shared) (H:Hp) (E:XK)
  (hr:Room 0 (A.deeper (envOfC "_law_falls" (defScope nG) s.heap.objs.size f cdv))):
  GSs (aV CX0 P w K mg base ["table","hands","group","free","one","other","both"] "_law_falls" (defScope nG) f cdv A outer s H E).nox H [1,1,1,1,1,1,1] false 3 (defBody nG) tF:=by
 have hu:=hr.units;unfold tF nA kB qS tJ tL tH tK;exact @aI _ _ _ _ _ _ _ _ _ (@dJ _ _ _ _ _ _ _ _ _ 2 _ _ _ _ _ PassesOwn.never (by rfl) (eQ (by rfl) (by rfl) aF4 (aD (eH (by rfl) (by rfl) aF5 (aD (aB 0) aG)) aG)) qW.nd (by rfl) (Or.inr (by rfl)) (@aI _ _ _ _ _ _ _ _ _ (@UU _ _ _ _ _ _ _ _ _ _ _ _ _ _ _ _ _ _ _ _ _ _ _ _ _ 3 (eF (by kernel_rfl) (N':=[ "hand" ,"group" ]) (src:=[ none ,some 2 ])) (gM (by kernel_rfl) (fl':=[ 2 ,1 ])) (by rfl) (eQ (by rfl) (by rfl) aF4 (aD (aB 1) aG)) (by rfl) (by rfl) (fun cl C s H ex=>⟨@wA _ _ _ _ _ (@fQ _ _ _ _ _ _ _ _ _ _ _ _ hu (@jQ _ _ _ _ _ _ _ _ _ _ _ _ (@vY _ _ _ _ _ _ _ _ _ _ _ _ (aB 1) (aB 0)) aE) aE),@eO _ _ _ _ _ _ _ _ _ _ _ _ aE (aB 0)⟩) qW.nd (by rfl) (Or.inl (by rfl)) (by rfl) (by rfl) (by intro _;rfl) (by trivial)) (@aK _ _ _ _ _ _ _ (@dJ _ _ _ _ _ _ _ _ _ 4 _ _ _ _ _ PassesOwn.never (by rfl) (fO (aB 3)) qW.nd (by rfl) (Or.inr (by rfl)) (@aK _ _ _ _ _ _ _ (@dJ _ _ _ _ _ _ _ _ _ 5 _ _ _ _ _ PassesOwn.never (by rfl) (fO (@rQ _ _ _ _ _ _ _ _ _ _ _ _ _ _ _ _ _ _ _ _ (eF (by kernel_rfl) (N':=[ "more" ,"one" ]) (src:=[ none ,some 4 ])) (gM (by kernel_rfl) (fl':=[ 2 ,1 ])) (by decide) (by rfl) (fO (aB 3)) (by rfl) (by rfl) (fun cl C s H ex=>⟨@wA _ _ _ _ _ (@qE _ _ _ _ _ _ _ _ _ _ _ _ (aB 0) (aB 1)),@GE.sc _ _ _ _ _ _ _ (aB 0)⟩) (by intro _;rfl))) qW.nd (by rfl) (Or.inl (by rfl)) (@aI _ _ _ _ _ _ _ _ _ (@aQ _ _ _ _ _ _ _ _ _ _ _ _ 6 (@cB _ _ _ _ _ _ _ _ _ _ _ _ (@aY _ _ _ _ _ _ _ _ _ _ _ _ (aB 0) (@cB _ _ _ _ _ _ _ _ _ _ _ _ (@cB _ _ _ _ _ _ _ _ _ _ _ _ (aB 2) (aB 4)) (aB 5)) (by exact fun _ _=>rfl)) (@aY _ _ _ _ _ _ _ _ _ _ _ _ (aB 0) (aB 2) (by exact fun _ _=>rfl))) qW.nd (by rfl) (Or.inl (by rfl)) (by rfl) (by rfl) (by trivial)) (@aK _ _ _ _ _ _ _ (@cI _ _ _ _ _ _ _ _ _ _ _ _ (@wC _ _ _ _ _ _ _ _ _ _ _ _ (@cB _ _ _ _ _ _ _ _ _ _ _ _ (@aY _ _ _ _ _ _ _ _ _ _ _ _ (aB 0) (@cB _ _ _ _ _ _ _ _ _ _ _ _ (aB 2) (aB 4)) (by exact fun _ _=>rfl)) (@aY _ _ _ _ _ _ _ _ _ _ _ _ (aB 0) (@cB _ _ _ _ _ _ _ _ _ _ _ _ (aB 2) (aB 5)) (by exact fun _ _=>rfl))) (aB 6)) (@aK _ _ _ _ _ _ _ (@bA _ _ _ _ _ _ _ _ (@bC _ _ _ _ _ _ _ _ _ pZ (by rfl)))) cJ))) (by rfl) (by intro _;rfl) (by trivial))) (by rfl) (by intro _;rfl) (by trivial)))) (by rfl) (by intro _;rfl) (by trivial)) (@aK _ _ _ _ _ _ _ (@bA _ _ _ _ _ _ _ _ (@bC _ _ _ _ _ _ _ _ _ pZ (by rfl))))
theorem YZ {fd:FuncData}(aF5:mg "len" = none) (aF4:mg "range" = none) (Fu:Fun K "_law_falls" "_law_falls" nG f fd):
  FnOk P w K mg base CX0 1 f fd ["table","hands"] (spT K kK false 3):=
 gfn Fu qW rfl (by decide) (fun ts t h=>bH h) (fun cdv A outer s H E hr=>@RB _ _ _ _ _ _ aF5 aF4 cdv A outer s H E hr) (fun ts t h=>bI h)
abbrev nV:Stmt:=top 15
theorem aCn:FnScope ["table"] ["table"] (defScope nV):=⟨rfl,rfl,rfl,by decide +kernel,rfl,by decide +kernel,by decide +kernel⟩
def qV:Rho->Option Out:=
 aZ (f2 (aJ (aC (aA 0) aF) dE) (fC (.int 1)) cR)
def fK:List T->Option T:=Fof 1 0 qV
theorem CW (t0:T):fK [t0]=(qV [some t0]).bind bF:=rfl
theorem RP (aF5:mg "len" = none) (cdv:Value) (A:Around) (outer:List Env) (s:Shared) (H:Hp) (E:XK)
  (hr:Room 0 (A.deeper (envOfC "everybody" (defScope nV) s.heap.objs.size f cdv))):
  GSs (aV CX0 P w K mg base ["table"] "everybody" (defScope nV) f cdv A outer s H E).nox H [1] false 3 (defBody nV) qV:=by
 have hu:=hr.units;unfold qV;exact @aK _ _ _ _ _ _ _ (@bA _ _ _ _ _ _ _ _ (@bC _ _ _ _ _ _ _ _ _ (@dS _ _ _ _ _ _ _ _ _ _ _ _ (eH (by rfl) (by rfl) aF5 (aD (aB 0) aG)) aE) (by rfl)))
theorem ZO {fd:FuncData}(aF5:mg "len" = none) (Fu:Fun K "everybody" "everybody" nV f fd):
  FnOk P w K mg base CX0 1 f fd ["table"] (spT K fK false 3):=
 gfn Fu aCn rfl (by decide) (fun ts t h=>bH h) (fun cdv A outer s H E hr=>@RP _ _ _ _ _ _ aF5 cdv A outer s H E hr) (fun ts t h=>bI h)
abbrev pB:Stmt:=top 9
theorem aCs:FnScope ["group"] ["group"] (defScope pB):=⟨rfl,rfl,rfl,by decide +kernel,rfl,by decide +kernel,by decide +kernel⟩
def KH:Rho->Option Bool:=
 fT (f2 (f2 (aA 1) (aA 0) jY) (fC (.int 1)) gQ)
def KG:Rho->Option T:=
 f1 (aA 0) aW
def CA:Rho->Option Out:=
 aZ (dH (cU (aC (f1 (aA 0) wL) aF) dM) [none,some 0] KH KG)
def eN:List T->Option T:=Fof 1 0 CA
theorem RW (aF4:mg "range" = none) (cdv:Value) (A:Around) (outer:List Env) (s:Shared) (H:Hp) (E:XK)
  (hr:Room 0 (A.deeper (envOfC "hands_in" (defScope pB) s.heap.objs.size f cdv))):
  GSs (aV CX0 P w K mg base ["group"] "hands_in" (defScope pB) f cdv A outer s H E).nox H [1] true 3 (defBody pB) CA:=by
 have hu:=hr.units;unfold CA KG KH;exact @aK _ _ _ _ _ _ _ (@bA _ _ _ _ _ _ _ _ (@bC _ _ _ _ _ _ _ _ _ (@rQ _ _ _ _ _ _ _ _ _ _ _ _ _ _ _ _ _ _ _ _ (eF (by kernel_rfl) (N':=[ "hand" ,"group" ]) (src:=[ none ,some 0 ])) (gM (by kernel_rfl) (fl':=[ 2 ,1 ])) (by decide) (by rfl) (eQ (by rfl) (by rfl) aF4 (aD (@FN _ _ _ _ _ _ _ _ _ (aB 0) (by rfl) (by rfl)) aG)) (by rfl) (by rfl) (fun cl C s H ex=>⟨@wA _ _ _ _ _ (@gP _ _ _ _ _ _ _ (@jQ _ _ _ _ _ _ _ _ _ _ _ _ (@vY _ _ _ _ _ _ _ _ _ _ _ _ (aB 1) (aB 0)) aE) (by intro _;rfl)),@GE.sc _ _ _ _ _ _ _ (aB 0)⟩) (by intro _;rfl)) (by rfl)))
theorem ZU {fd:FuncData}(aF4:mg "range" = none) (Fu:Fun K "hands_in" "hands_in" pB f fd):
  FnOk P w K mg base CX0 1 f fd ["group"] (spT K eN true 3):=
 gfn Fu aCs rfl (by decide) (fun ts t h=>bH h) (fun cdv A outer s H E hr=>@RW _ _ _ _ _ _ aF4 cdv A outer s H E hr) (fun ts t h=>bI h)
abbrev pN:Stmt:=top 20
theorem aCz:FnScope ["table","one","other"] ["table","one","other"] (defScope pN):=⟨rfl,rfl,rfl,by decide +kernel,rfl,by decide +kernel,by decide +kernel⟩
def uV:Rho->Option Out:=
 aZ (f2 (f2 (f2 (aA 0) (aA 1) oIx) (f2 (aA 0) (aA 2) oIx) bS) (f2 (f2 (aA 0) (f2 (aA 1) (aA 2) oOr) oIx) (f2 (aA 0) (f2 (aA 1) (aA 2) gQ) oIx) bS) oLt)
def mG:List T->Option T:=Fof 3 0 uV
theorem OK (t0 t1 t2:T):mG [t0,t1,t2]=(uV [some t0,some t1,some t2]).bind bF:=rfl
theorem SH (cdv:Value) (A:Around) (outer:List Env) (s:Shared) (H:Hp) (E:XK)
  (hr:Room 0 (A.deeper (envOfC "two_break" (defScope pN) s.heap.objs.size f cdv))):
  GSs (aV CX0 P w K mg base ["table","one","other"] "two_break" (defScope pN) f cdv A outer s H E).nox H [1,1,1] false 3 (defBody pN) uV:=by
 have hu:=hr.units;unfold uV;exact @aK _ _ _ _ _ _ _ (@bA _ _ _ _ _ _ _ _ (@bC _ _ _ _ _ _ _ _ _ (@FU _ _ _ _ _ _ _ _ _ _ _ _ (@cB _ _ _ _ _ _ _ _ _ _ _ _ (@aY _ _ _ _ _ _ _ _ _ _ _ _ (aB 0) (aB 1) (by exact fun _ _=>rfl)) (@aY _ _ _ _ _ _ _ _ _ _ _ _ (aB 0) (aB 2) (by exact fun _ _=>rfl))) (@cB _ _ _ _ _ _ _ _ _ _ _ _ (@aY _ _ _ _ _ _ _ _ _ _ _ _ (aB 0) (@vX _ _ _ _ _ _ _ _ _ _ _ _ (aB 1) (aB 2)) (by exact fun _ _=>rfl)) (@aY _ _ _ _ _ _ _ _ _ _ _ _ (aB 0) (@jQ _ _ _ _ _ _ _ _ _ _ _ _ (aB 1) (aB 2)) (by exact fun _ _=>rfl)))) (by rfl)))
theorem aA5 {fd:FuncData}(Fu:Fun K "two_break" "two_break" pN f fd):
  FnOk P w K mg base CX0 1 f fd ["table","one","other"] (spT K mG false 3):=
 gfn Fu aCz rfl (by decide) (fun ts t h=>bH h) (fun cdv A outer s H E hr=>@SH _ _ _ _ _ _  cdv A outer s H E hr) (fun ts t h=>bI h)
abbrev nP:Stmt:=top 21
theorem vA:FnScope ["table","group","outside","place","first","second"] ["table","group"] (defScope nP):=⟨rfl,rfl,rfl,by decide +kernel,rfl,by decide +kernel,by decide +kernel⟩
def qU:Rho->Option Out:=
 rIf (fT (aJ (aC (aA 0) (aC (f2 (aA 1) (f2 (fC (.int 1)) (aA 4) dF) oOr) (aC (f2 (aA 1) (f2 (fC (.int 1)) (aA 5) dF) oOr) aF))) mG)) (aZ (eV (aC (f1 (aA 1) aW) (aC (f1 (aA 4) aW) (aC (f1 (aA 5) aW) aF))))) bO
def uA:Rho->Option Out:=
 cW 5 (fFL (zQ (aA 2) (wW (f2 (aA 3) (fC (.int 1)) bS)) wT wT))
  qU
def tZ:Rho->Option Out:=
 aH (aN 2 (aJ (aC (f2 (aJ (aC (aA 0) aF) fK) (aA 1) BB) aF) eN))
  (aH (xF [3,4] (mM (fFL (aA 2)))
  uA)
  (aZ (fC .non)))
def kQ:List T->Option T:=Fof 2 4 tZ
theorem MS (t0 t1:T):kQ [t0,t1]=(tZ [some t0,some t1,none,none,none,none]).bind bF:=rfl
theorem RK (aFe:Cal P w K mg base "everybody" 1 ["table"] fK false 3) (aF9:Cal P w K mg base "hands_in" 1 ["group"] eN true 3) (aG7:Cal P w K mg base "two_break" 1 ["table","one","other"] mG false 3) (aF7:mg "enumerate" = none) (cdv:Value) (A:Around) (outer:List Env) (s:Shared) (H:Hp) (E:XK)
  (hr:Room 1 (A.deeper (envOfC "break_beside" (defScope nP) s.heap.objs.size f cdv))):
  GSs (aV CX0 P w K mg base ["table","group","outside","place","first","second"] "break_beside" (defScope nP) f cdv A outer s H E).nox H [1,1,1,1,1,1] false 3 (defBody nP) tZ:=by
 have hu:=hr.units;unfold tZ uA qU;exact @aI _ _ _ _ _ _ _ _ _ (@aQ _ _ _ _ _ _ _ _ _ _ _ _ 2 (aU aF9 (hr.mono (by decide)) (by rfl) (aD (@UH _ _ _ _ _ _ _ _ _ _ _ _ (aU aFe (hr.mono (by decide)) (by rfl) (aD (aB 0) aG)) (aB 1)) aG)) vA.nd (by rfl) (Or.inl (by rfl)) (by rfl) (by rfl) (by trivial)) (@aI _ _ _ _ _ _ _ _ _ (@GJ _ _ _ _ _ _ _ _ _ _ _ [3 ,4] _ _ _ _ _ PassesOwn.never (by rfl) (@zZ _ _ _ _ _ _ _ _ _ _ _ _ _ (by rfl) (by rfl) aF7 (aB 2) (by rfl)) (@eZ _ _ _ _ _ _ vA.nd (by rfl) (Or.inl (by rfl)) (@eZ _ _ _ _ _ _ vA.nd (by rfl) (Or.inl (by rfl)) (@qC _) (by trivial) (by rfl)) (by trivial) (by rfl)) (@aK _ _ _ _ _ _ _ (@dJ _ _ _ _ _ _ _ _ _ 5 _ _ _ _ _ PassesOwn.never (by rfl) (fO (@UF _ _ _ _ _ _ _ _ _ _ _ _ _ _ _ (aB 2) (@UO _ _ _ _ _ _ _ (@cB _ _ _ _ _ _ _ _ _ _ _ _ (aB 3) aE)) GC GC (by intro _ _;first | exact⟨_,rfl⟩ | (refine⟨_,?_⟩;with_unfolding_all rfl)))) vA.nd (by rfl) (Or.inl (by rfl)) (@aK _ _ _ _ _ _ _ (@cI _ _ _ _ _ _ _ _ _ _ _ _ (@gP _ _ _ _ _ _ _ (aU aG7 (hr.mono (by decide)) (by rfl) (aD (aB 0) (aD (@vX _ _ _ _ _ _ _ _ _ _ _ _ (aB 1) (@eO _ _ _ _ _ _ _ _ _ _ _ _ aE (aB 4))) (aD (@vX _ _ _ _ _ _ _ _ _ _ _ _ (aB 1) (@eO _ _ _ _ _ _ _ _ _ _ _ _ aE (aB 5))) aG)))) (by intro _;rfl)) (@aK _ _ _ _ _ _ _ (@bA _ _ _ _ _ _ _ _ (@AC _ _ _ _ _ _ _ _ _ (@mR _ _ _ _ _ _ _ _ (@bC _ _ _ _ _ _ _ _ _ (@GE.sc _ _ _ _ _ _ _ (aB 1)) (by rfl)) (@mR _ _ _ _ _ _ _ _ (@bC _ _ _ _ _ _ _ _ _ (@GE.sc _ _ _ _ _ _ _ (aB 4)) (by rfl)) (@mR _ _ _ _ _ _ _ _ (@bC _ _ _ _ _ _ _ _ _ (@GE.sc _ _ _ _ _ _ _ (aB 5)) (by rfl)) AD (by rfl) (by rfl)) (by rfl) (by rfl)) (by rfl) (by rfl)) (by rfl)))) cJ)) (by rfl) (by intro _;rfl) (by trivial))) (by rfl) (by rfl) (by rfl) (by rfl) (by rfl) (by intro _;rfl)) (@aK _ _ _ _ _ _ _ (@bA _ _ _ _ _ _ _ _ (@bC _ _ _ _ _ _ _ _ _ qB (by rfl)))))
theorem ZJ {fd:FuncData}(aFe:Cal P w K mg base "everybody" 1 ["table"] fK false 3) (aF9:Cal P w K mg base "hands_in" 1 ["group"] eN true 3) (aG7:Cal P w K mg base "two_break" 1 ["table","one","other"] mG false 3) (aF7:mg "enumerate" = none) (Fu:Fun K "break_beside" "break_beside" nP f fd):
  FnOk P w K mg base CX0 2 f fd ["table","group"] (spT K kQ false 3):=
 gfn Fu vA rfl (by decide) (fun ts t h=>bH h) (fun cdv A outer s H E hr=>@RK _ _ _ _ _ _ aFe aF9 aG7 aF7 cdv A outer s H E hr) (fun ts t h=>bI h)
abbrev nQ:Stmt:=top 22
theorem CD:FnScope ["table","group","found"] ["table"] (defScope nQ):=⟨rfl,rfl,rfl,by decide +kernel,rfl,by decide +kernel,by decide +kernel⟩
def xT:Rho->Option Out:=
 aH (aN 2 (f1 (aJ (aC (aA 0) (aC (aA 1) aF)) kQ) aW))
  (rIf (fB (f2 (aA 2) (fC .non) wQ)) (aZ (f1 (aA 2) aW)) bO)
def uB:Rho->Option Out:=
 aH (cW 1 (cU (aC (aJ (aC (aA 0) aF) dE) aF) dM)
  xT)
  (aZ (fC .non))
def kR:List T->Option T:=Fof 1 2 uB
theorem MT (t0:T):kR [t0]=(uB [some t0,none,none]).bind bF:=rfl
theorem RL (aFn:Cal P w K mg base "break_beside" 2 ["table","group"] kQ false 3) (aF5:mg "len" = none) (aF4:mg "range" = none) (cdv:Value) (A:Around) (outer:List Env) (s:Shared) (H:Hp) (E:XK)
  (hr:Room 2 (A.deeper (envOfC "break_of" (defScope nQ) s.heap.objs.size f cdv))):
  GSs (aV CX0 P w K mg base ["table","group","found"] "break_of" (defScope nQ) f cdv A outer s H E).nox H [1,1,1] false 3 (defBody nQ) uB:=by
 have hu:=hr.units;unfold uB xT;exact @aI _ _ _ _ _ _ _ _ _ (@dJ _ _ _ _ _ _ _ _ _ 1 _ _ _ _ _ PassesOwn.never (by rfl) (eQ (by rfl) (by rfl) aF4 (aD (eH (by rfl) (by rfl) aF5 (aD (aB 0) aG)) aG)) CD.nd (by rfl) (Or.inl (by rfl)) (@aI _ _ _ _ _ _ _ _ _ (@aQ _ _ _ _ _ _ _ _ _ _ _ _ 2 (@GE.sc _ _ _ _ _ _ _ (aU aFn (hr.mono (by decide)) (by rfl) (aD (aB 0) (aD (aB 1) aG)))) CD.nd (by rfl) (Or.inl (by rfl)) (by rfl) (by rfl) (by trivial)) (@aK _ _ _ _ _ _ _ (@cI _ _ _ _ _ _ _ _ _ _ _ _ (@VC _ _ _ _ _ _ _ _ _ _ _ _ (aB 2) qB) (@aK _ _ _ _ _ _ _ (@bA _ _ _ _ _ _ _ _ (@bC _ _ _ _ _ _ _ _ _ (@GE.sc _ _ _ _ _ _ _ (aB 2)) (by rfl)))) cJ))) (by rfl) (by intro _;rfl) (by trivial)) (@aK _ _ _ _ _ _ _ (@bA _ _ _ _ _ _ _ _ (@bC _ _ _ _ _ _ _ _ _ qB (by rfl))))
theorem ZK {fd:FuncData}(aFn:Cal P w K mg base "break_beside" 2 ["table","group"] kQ false 3) (aF5:mg "len" = none) (aF4:mg "range" = none) (Fu:Fun K "break_of" "break_of" nQ f fd):
  FnOk P w K mg base CX0 3 f fd ["table"] (spT K kR false 3):=
 gfn Fu CD rfl (by decide) (fun ts t h=>bH h) (fun cdv A outer s H E hr=>@RL _ _ _ _ _ _ aFn aF5 aF4 cdv A outer s H E hr) (fun ts t h=>bI h)
abbrev nW:Stmt:=top 23
theorem aCo:FnScope ["table"] ["table"] (defScope nW):=⟨rfl,rfl,rfl,by decide +kernel,rfl,by decide +kernel,by decide +kernel⟩
def uF:Rho->Option Out:=
 aZ (f2 (aJ (aC (aA 0) aF) kR) (fC .non) oIs)
def jO:List T->Option T:=Fof 1 0 uF
theorem NF (t0:T):jO [t0]=(uF [some t0]).bind bF:=rfl
theorem RQ (aGb:Cal P w K mg base "break_of" 3 ["table"] kR false 3) (cdv:Value) (A:Around) (outer:List Env) (s:Shared) (H:Hp) (E:XK)
  (hr:Room 3 (A.deeper (envOfC "falls" (defScope nW) s.heap.objs.size f cdv))):
  GSs (aV CX0 P w K mg base ["table"] "falls" (defScope nW) f cdv A outer s H E).nox H [1] false 3 (defBody nW) uF:=by
 have hu:=hr.units;unfold uF;exact @aK _ _ _ _ _ _ _ (@bA _ _ _ _ _ _ _ _ (@bC _ _ _ _ _ _ _ _ _ (@TY _ _ _ _ _ _ _ _ _ _ _ _ (aU aGb (hr.mono (by decide)) (by rfl) (aD (aB 0) aG)) qB) (by rfl)))
theorem ZP {fd:FuncData}(aGb:Cal P w K mg base "break_of" 3 ["table"] kR false 3) (Fu:Fun K "falls" "falls" nW f fd):
  FnOk P w K mg base CX0 4 f fd ["table"] (spT K jO false 3):=
 gfn Fu aCo rfl (by decide) (fun ts t h=>bH h) (fun cdv A outer s H E hr=>@RQ _ _ _ _ _ _ aGb cdv A outer s H E hr) (fun ts t h=>bI h)
abbrev pI:Stmt:=top 24
theorem aCw:FnScope ["table"] ["table"] (defScope pI):=⟨rfl,rfl,rfl,by decide +kernel,rfl,by decide +kernel,by decide +kernel⟩
def sV:Rho->Option (Out ⊕ Str):=
 xIf (jI (fT (aJ (aC (aA 0) aF) jO))) (vG "NotFalling" (aC (fC (.str "the table does not fall")) aF)) (xOf bO)
def hJ:List T->Option (T ⊕ Str):=pS 1 0 sV
theorem MD (t0:T):hJ [t0]=(sV [some t0]).bind sL:=rfl
theorem QV (aGr:Cal P w K mg base "falls" 4 ["table"] jO false 3) (aFs:RaiseK K mg base "NotFalling") (cdv:Value) (A:Around) (outer:List Env) (s:Shared) (H:Hp) (E:XK)
  (hr:Room 4 (A.deeper (envOfC "must_fall" (defScope pI) s.heap.objs.size f cdv))):
  fN (aV (CX1 P w) P w K mg base ["table"] "must_fall" (defScope pI) f cdv A outer s H E) H [1] false 3 (defBody pI) sV:=by
 have hu:=hr.units;unfold sV;exact @AF _ _ _ _ _ _ _ (@GP _ _ _ _ _ _ _ _ _ _ _ _ (@qF _ _ _ _ _ _ (@gP _ _ _ _ _ _ _ (aU aGr (hr.mono (by decide)) (by rfl) (aD (aB 0) aG)) (by intro _;rfl))) (@AF _ _ _ _ _ _ _ (@GQ _ _ _ _ _ _ _ _ _ _ _ _ _ aFs (by rfl) (by rfl) (by rfl) (aD gN aG) (by decide) (by rfl) (by rfl))) GM)
theorem YT {fd:FuncData}(aGr:Cal P w K mg base "falls" 4 ["table"] jO false 3) (aFs:RaiseK K mg base "NotFalling") (Fu:Fun K "must_fall" "must_fall" pI f fd):
  FnOk P w K mg base (CX1 P w) 5 f fd ["table"] (spX K hJ false 3):=
 UJ Fu aCw rfl (by decide) (fun ts t h=>DE h) (fun cdv A outer s H E hr=>@QV _ _ _ _ _ _ aGr aFs cdv A outer s H E hr) (fun ts t h=>DF h)
abbrev pA:Stmt:=top 14
theorem aCr:FnScope ["table"] ["table"] (defScope pA):=⟨rfl,rfl,rfl,by decide +kernel,rfl,by decide +kernel,by decide +kernel⟩
def uJ:Rho->Option Out:=
 aZ (f2 (f1 (aJ (aC (aA 0) aF) dE) wL) (fC (.int 1)) cR)
def gE:List T->Option T:=Fof 1 0 uJ
theorem NM (t0:T):gE [t0]=(uJ [some t0]).bind bF:=rfl
theorem RV (aF5:mg "len" = none) (cdv:Value) (A:Around) (outer:List Env) (s:Shared) (H:Hp) (E:XK)
  (hr:Room 0 (A.deeper (envOfC "hand_count" (defScope pA) s.heap.objs.size f cdv))):
  GSs (aV CX0 P w K mg base ["table"] "hand_count" (defScope pA) f cdv A outer s H E).nox H [1] false 3 (defBody pA) uJ:=by
 have hu:=hr.units;unfold uJ;exact @aK _ _ _ _ _ _ _ (@bA _ _ _ _ _ _ _ _ (@bC _ _ _ _ _ _ _ _ _ (@dS _ _ _ _ _ _ _ _ _ _ _ _ (@FN _ _ _ _ _ _ _ _ _ (eH (by rfl) (by rfl) aF5 (aD (aB 0) aG)) (by rfl) (by rfl)) aE) (by rfl)))
theorem ZT {fd:FuncData}(aF5:mg "len" = none) (Fu:Fun K "hand_count" "hand_count" pA f fd):
  FnOk P w K mg base CX0 1 f fd ["table"] (spT K gE false 3):=
 gfn Fu aCr rfl (by decide) (fun ts t h=>bH h) (fun cdv A outer s H E hr=>@RV _ _ _ _ _ _ aF5 cdv A outer s H E hr) (fun ts t h=>bI h)
abbrev pK:Stmt:=top 16
theorem aCx:FnScope ["row","group"] ["row","group"] (defScope pK):=⟨rfl,rfl,rfl,by decide +kernel,rfl,by decide +kernel,by decide +kernel⟩
def yC:Rho->Option T:=
 f1 (f2 (aA 1) (aA 0) oIx) aW
def uR:Rho->Option Out:=
 aZ (aJ (aC (dH (fFL (aJ (aC (aA 1) aF) eN)) [none,some 0] bJ yC) aF) wX)
def fM:List T->Option T:=Fof 2 0 uR
theorem OD (t0 t1:T):fM [t0,t1]=(uR [some t0,some t1]).bind bF:=rfl
theorem SE (aF9:Cal P w K mg base "hands_in" 1 ["group"] eN true 3) (aH1:mg "sum" = none) (cdv:Value) (A:Around) (outer:List Env) (s:Shared) (H:Hp) (E:XK)
  (hr:Room 1 (A.deeper (envOfC "row_gives" (defScope pK) s.heap.objs.size f cdv))):
  GSs (aV CX0 P w K mg base ["row","group"] "row_gives" (defScope pK) f cdv A outer s H E).nox H [1,1] false 3 (defBody pK) uR:=by
 have hu:=hr.units;unfold uR yC;exact @aK _ _ _ _ _ _ _ (@bA _ _ _ _ _ _ _ _ (@bC _ _ _ _ _ _ _ _ _ (UG (by rfl) (by rfl) (by rfl) aH1 (aD (@rQ _ _ _ _ _ _ _ _ _ _ _ _ _ _ _ _ _ _ _ _ (eF (by kernel_rfl) (N':=[ "hand" ,"row" ]) (src:=[ none ,some 0 ])) (gM (by kernel_rfl) (fl':=[ 2 ,1 ])) (by decide) (by rfl) (fO (aU aF9 (hr.mono (by decide)) (by rfl) (aD (aB 1) aG))) (by rfl) (by rfl) (fun cl C s H ex=>⟨gO,@GE.sc _ _ _ _ _ _ _ (@aY _ _ _ _ _ _ _ _ _ _ _ _ (aB 1) (aB 0) (by exact fun _ _=>rfl))⟩) (by intro _;rfl)) aG)) (by rfl)))
theorem aA2 {fd:FuncData}(aF9:Cal P w K mg base "hands_in" 1 ["group"] eN true 3) (aH1:mg "sum" = none) (Fu:Fun K "row_gives" "row_gives" pK f fd):
  FnOk P w K mg base CX0 2 f fd ["row","group"] (spT K fM false 3):=
 gfn Fu aCx rfl (by decide) (fun ts t h=>bH h) (fun cdv A outer s H E hr=>@SE _ _ _ _ _ _ aF9 aH1 cdv A outer s H E hr) (fun ts t h=>bI h)
abbrev pE:Stmt:=top 18
theorem aCu:FnScope ["table","row"] ["table","row"] (defScope pE):=⟨rfl,rfl,rfl,by decide +kernel,rfl,by decide +kernel,by decide +kernel⟩
def yA:Rho->Option T:=
 f2 (aA 1) (aJ (aC (aA 2) (aC (aA 0) aF)) fM) cR
def uN:Rho->Option Out:=
 aH (rIf (fB (f2 (aJ (aC (aA 1) aF) dE) (aJ (aC (aA 0) aF) gE) oNe)) BO bO)
  (aZ (hV [0,1] (mM (fFL (aA 0))) [none,none,some 1] bJ yA))
def eD:List T->Option T:=Fof 2 0 uN
theorem NV (t0 t1:T):eD [t0,t1]=(uN [some t0,some t1]).bind bF:=rfl
theorem SA (aFd:Cal P w K mg base "hand_count" 1 ["table"] gE false 3) (aFf:Cal P w K mg base "row_gives" 2 ["row","group"] fM false 3) (aF5:mg "len" = none) (aF7:mg "enumerate" = none) (cdv:Value) (A:Around) (outer:List Env) (s:Shared) (H:Hp) (E:XK)
  (hr:Room 2 (A.deeper (envOfC "less_row" (defScope pE) s.heap.objs.size f cdv))):
  GSs (aV CX0 P w K mg base ["table","row"] "less_row" (defScope pE) f cdv A outer s H E).nox H [1,1] true 3 (defBody pE) uN:=by
 have hu:=hr.units;unfold uN yA;exact @aI _ _ _ _ _ _ _ _ _ (@cI _ _ _ _ _ _ _ _ _ _ _ _ (@GU _ _ _ _ _ _ _ _ _ _ _ _ hu (eH (by rfl) (by rfl) aF5 (aD (aB 1) aG)) (aU aFd (hr.mono (by decide)) (by rfl) (aD (aB 0) aG))) (@aK _ _ _ _ _ _ _ UT) cJ) (@aK _ _ _ _ _ _ _ (@bA _ _ _ _ _ _ _ _ (@bC _ _ _ _ _ _ _ _ _ (@zW _ _ _ _ _ _ _ _ _ _ _ _ _ _ _ _ _ _ _ _ _ _ _ (eF (by kernel_rfl) (N':=[ "group" ,"cost" ,"row" ]) (src:=[ none ,none ,some 1 ])) (vP (by kernel_rfl) (fl':=[ 2 ,2 ,1 ]) (js:=[ 0 ,1 ])) (by decide) (by rfl) (@zZ _ _ _ _ _ _ _ _ _ _ _ _ _ (by rfl) (by rfl) aF7 (aB 0) (by rfl)) (fun cl C s H ex=>@pgT _ _ _ (2) _ _ (by rfl) (@eZ _ _ _ _ _ _ (fU (by kernel_rfl)) (by rfl) (Or.inl (by rfl)) (@eZ _ _ _ _ _ _ (fU (by kernel_rfl)) (by rfl) (Or.inl (by rfl)) (@qC _) (by trivial) (by rfl)) (by trivial) (by rfl)) (by rfl) (by rfl)) (by rfl) (fun cl C s H ex=>⟨gO,@dS _ _ _ _ _ _ _ _ _ _ _ _ (aB 1) (aU aFf (hr.mono (by decide)) (by rfl) (aD (aB 2) (aD (aB 0) aG)))⟩) (by intro _;rfl)) (by rfl))))
theorem ZY {fd:FuncData}(aFd:Cal P w K mg base "hand_count" 1 ["table"] gE false 3) (aFf:Cal P w K mg base "row_gives" 2 ["row","group"] fM false 3) (aF5:mg "len" = none) (aF7:mg "enumerate" = none) (Fu:Fun K "less_row" "less_row" pE f fd):
  FnOk P w K mg base CX0 3 f fd ["table","row"] (spT K eD true 3):=
 gfn Fu aCu rfl (by decide) (fun ts t h=>bH h) (fun cdv A outer s H E hr=>@SA _ _ _ _ _ _ aFd aFf aF5 aF7 cdv A outer s H E hr) (fun ts t h=>bI h)
abbrev pJ:Stmt:=top 30
theorem CH:FnScope ["table","shares","left","least"] ["table","shares"] (defScope pJ):=⟨rfl,rfl,rfl,by decide +kernel,rfl,by decide +kernel,by decide +kernel⟩
def uQ:Rho->Option Out:=
 aH (aN 2 (aJ (aC (aA 0) (aC (aA 1) aF)) eD))
  (aH (aN 3 (aJ (aC (aA 2) aF) wR))
  (aZ (eV (aC (f2 (aA 2) (aA 3) wN) (aC (f1 (aA 3) dL) aF)))))
def mE:List T->Option T:=Fof 2 2 uQ
theorem OB (t0 t1:T):mE [t0,t1]=(uQ [some t0,some t1,none,none]).bind bF:=rfl
theorem SD (aF8:Cal P w K mg base "less_row" 3 ["table","row"] eD true 3) (aGh:mg "min" = none) (cdv:Value) (A:Around) (outer:List Env) (s:Shared) (H:Hp) (E:XK)
  (hr:Room 3 (A.deeper (envOfC "over" (defScope pJ) s.heap.objs.size f cdv))):
  GSs (aV CX0 P w K mg base ["table","shares","left","least"] "over" (defScope pJ) f cdv A outer s H E).nox H [1,1,1,1] false 3 (defBody pJ) uQ:=by
 have hu:=hr.units;unfold uQ;exact @aI _ _ _ _ _ _ _ _ _ (@aQ _ _ _ _ _ _ _ _ _ _ _ _ 2 (aU aF8 (hr.mono (by decide)) (by rfl) (aD (aB 0) (aD (aB 1) aG))) CH.nd (by rfl) (Or.inl (by rfl)) (by rfl) (by rfl) (by trivial)) (@aI _ _ _ _ _ _ _ _ _ (@aQ _ _ _ _ _ _ _ _ _ _ _ _ 3 (UA (by rfl) (by rfl) (by rfl) aGh (aD (aB 2) aG)) CH.nd (by rfl) (Or.inl (by rfl)) (by rfl) (by rfl) (by trivial)) (@aK _ _ _ _ _ _ _ (@bA _ _ _ _ _ _ _ _ (@AC _ _ _ _ _ _ _ _ _ (@mR _ _ _ _ _ _ _ _ (@bC _ _ _ _ _ _ _ _ _ (@TR _ _ _ _ _ _ _ _ _ _ _ _ _ (aB 2) (aB 3) (by rfl) (by rfl) (by rfl) (by rfl)) (by rfl)) (@mR _ _ _ _ _ _ _ _ (@bC _ _ _ _ _ _ _ _ _ (@jR _ _ _ _ _ _ _ _ (aB 3)) (by rfl)) AD (by rfl) (by rfl)) (by rfl) (by rfl)) (by rfl)))))
theorem aA1 {fd:FuncData}(aF8:Cal P w K mg base "less_row" 3 ["table","row"] eD true 3) (aGh:mg "min" = none) (Fu:Fun K "over" "over" pJ f fd):
  FnOk P w K mg base CX0 4 f fd ["table","shares"] (spT K mE false 3):=
 gfn Fu CH rfl (by decide) (fun ts t h=>bH h) (fun cdv A outer s H E hr=>@SD _ _ _ _ _ _ aF8 aGh cdv A outer s H E hr) (fun ts t h=>bI h)
abbrev pD:Stmt:=top 31
theorem aCt:FnScope ["table","shares"] ["table","shares"] (defScope pD):=⟨rfl,rfl,rfl,by decide +kernel,rfl,by decide +kernel,by decide +kernel⟩
def uL:Rho->Option Out:=
 aZ (f2 (f2 (aJ (aC (aA 0) (aC (aA 1) aF)) mE) (fC (.int 1)) oIx) (fC (.int 0)) oEq)
def mC:List T->Option T:=Fof 2 0 uL
theorem NQ (t0 t1:T):mC [t0,t1]=(uL [some t0,some t1]).bind bF:=rfl
theorem RY (aGv:Cal P w K mg base "over" 4 ["table","shares"] mE false 3) (cdv:Value) (A:Around) (outer:List Env) (s:Shared) (H:Hp) (E:XK)
  (hr:Room 4 (A.deeper (envOfC "is_under" (defScope pD) s.heap.objs.size f cdv))):
  GSs (aV CX0 P w K mg base ["table","shares"] "is_under" (defScope pD) f cdv A outer s H E).nox H [1,1] false 3 (defBody pD) uL:=by
 have hu:=hr.units;unfold uL;exact @aK _ _ _ _ _ _ _ (@bA _ _ _ _ _ _ _ _ (@bC _ _ _ _ _ _ _ _ _ (@qA _ _ _ _ _ _ _ _ _ _ _ _ hu (@aY _ _ _ _ _ _ _ _ _ _ _ _ (aU aGv (hr.mono (by decide)) (by rfl) (aD (aB 0) (aD (aB 1) aG))) aE (by exact fun _ _=>rfl)) aE) (by rfl)))
theorem ZW {fd:FuncData}(aGv:Cal P w K mg base "over" 4 ["table","shares"] mE false 3) (Fu:Fun K "is_under" "is_under" pD f fd):
  FnOk P w K mg base CX0 5 f fd ["table","shares"] (spT K mC false 3):=
 gfn Fu aCt rfl (by decide) (fun ts t h=>bH h) (fun cdv A outer s H E hr=>@RY _ _ _ _ _ _ aGv cdv A outer s H E hr) (fun ts t h=>bI h)
abbrev pC:Stmt:=top 32
theorem KM:FnScope ["table","shares","whole"] ["table","shares"] (defScope pC):=⟨rfl,rfl,rfl,by decide +kernel,rfl,by decide +kernel,by decide +kernel⟩
def uK:Rho->Option Out:=
 aH (aN 2 (f1 (aJ (aC (aA 0) aF) fK) aW))
  (aZ (f1 (vE (aJ (aC (aA 0) (aC (aA 1) aF)) mC) (f2 (aJ (aC (aA 1) (aC (aA 2) aF)) fM) (f2 (aA 0) (aA 2) oIx) oEq)) aW))
def hO:List T->Option T:=Fof 2 1 uK
theorem NP (t0 t1:T):hO [t0,t1]=(uK [some t0,some t1,none]).bind bF:=rfl
theorem RX (aFe:Cal P w K mg base "everybody" 1 ["table"] fK false 3) (aGe:Cal P w K mg base "is_under" 5 ["table","shares"] mC false 3) (aFf:Cal P w K mg base "row_gives" 2 ["row","group"] fM false 3) (cdv:Value) (A:Around) (outer:List Env) (s:Shared) (H:Hp) (E:XK)
  (hr:Room 5 (A.deeper (envOfC "is_base" (defScope pC) s.heap.objs.size f cdv))):
  GSs (aV CX0 P w K mg base ["table","shares","whole"] "is_base" (defScope pC) f cdv A outer s H E).nox H [1,1,1] false 3 (defBody pC) uK:=by
 have hu:=hr.units;unfold uK;exact @aI _ _ _ _ _ _ _ _ _ (@aQ _ _ _ _ _ _ _ _ _ _ _ _ 2 (@GE.sc _ _ _ _ _ _ _ (aU aFe (hr.mono (by decide)) (by rfl) (aD (aB 0) aG))) KM.nd (by rfl) (Or.inl (by rfl)) (by rfl) (by rfl) (by trivial)) (@aK _ _ _ _ _ _ _ (@bA _ _ _ _ _ _ _ _ (@bC _ _ _ _ _ _ _ _ _ (@GE.sc _ _ _ _ _ _ _ (@zV _ _ _ _ _ _ _ _ _ _ _ _ _ (aU aGe (hr.mono (by decide)) (by rfl) (aD (aB 0) (aD (aB 1) aG))) (@vW _ _ _ _ _ _ _ _ _ (@qA _ _ _ _ _ _ _ _ _ _ _ _ hu (aU aFf (hr.mono (by decide)) (by rfl) (aD (aB 1) (aD (aB 2) aG))) (@aY _ _ _ _ _ _ _ _ _ _ _ _ (aB 0) (aB 2) (by exact fun _ _=>rfl)))))) (by rfl))))
theorem ZV {fd:FuncData}(aFe:Cal P w K mg base "everybody" 1 ["table"] fK false 3) (aGe:Cal P w K mg base "is_under" 5 ["table","shares"] mC false 3) (aFf:Cal P w K mg base "row_gives" 2 ["row","group"] fM false 3) (Fu:Fun K "is_base" "is_base" pC f fd):
  FnOk P w K mg base CX0 6 f fd ["table","shares"] (spT K hO false 3):=
 gfn Fu KM rfl (by decide) (fun ts t h=>bH h) (fun cdv A outer s H E hr=>@RX _ _ _ _ _ _ aFe aGe aFf cdv A outer s H E hr) (fun ts t h=>bI h)
abbrev pL:Stmt:=top 17
theorem aCy:FnScope ["many","table"] ["many","table"] (defScope pL):=⟨rfl,rfl,rfl,by decide +kernel,rfl,by decide +kernel,by decide +kernel⟩
def yD:Rho->Option T:=
 f2 (aA 1) (aA 0) bN
def uS:Rho->Option Out:=
 aZ (dH (fFL (aA 1)) [none,some 0] bJ yD)
def gF:List T->Option T:=Fof 2 0 uS
theorem OF (t0 t1:T):gF [t0,t1]=(uS [some t0,some t1]).bind bF:=rfl
theorem SF (cdv:Value) (A:Around) (outer:List Env) (s:Shared) (H:Hp) (E:XK)
  (hr:Room 0 (A.deeper (envOfC "scaled" (defScope pL) s.heap.objs.size f cdv))):
  GSs (aV CX0 P w K mg base ["many","table"] "scaled" (defScope pL) f cdv A outer s H E).nox H [1,1] true 3 (defBody pL) uS:=by
 have hu:=hr.units;unfold uS yD;exact @aK _ _ _ _ _ _ _ (@bA _ _ _ _ _ _ _ _ (@bC _ _ _ _ _ _ _ _ _ (@rQ _ _ _ _ _ _ _ _ _ _ _ _ _ _ _ _ _ _ _ _ (eF (by kernel_rfl) (N':=[ "cost" ,"many" ]) (src:=[ none ,some 0 ])) (gM (by kernel_rfl) (fl':=[ 2 ,1 ])) (by decide) (by rfl) (fO (aB 1)) (by rfl) (by rfl) (fun cl C s H ex=>⟨gO,@dI _ _ _ _ _ _ _ _ _ _ _ _ (aB 1) (aB 0)⟩) (by intro _;rfl)) (by rfl)))
theorem aA3 {fd:FuncData}(Fu:Fun K "scaled" "scaled" pL f fd):
  FnOk P w K mg base CX0 1 f fd ["many","table"] (spT K gF true 3):=
 gfn Fu aCy rfl (by decide) (fun ts t h=>bH h) (fun cdv A outer s H E hr=>@SF _ _ _ _ _ _  cdv A outer s H E hr) (fun ts t h=>bI h)
abbrev nZ:Stmt:=top 33
theorem aCq:FnScope ["table","shares"] ["table","shares"] (defScope nZ):=⟨rfl,rfl,rfl,by decide +kernel,rfl,by decide +kernel,by decide +kernel⟩
def xZ:Rho->Option Bool:=
 fB (f2 (aA 1) (fC (.int 0)) oEq)
def xY:Rho->Option T:=
 f1 (aA 0) aW
def uI:Rho->Option Out:=
 aZ (hV [0,1] (mM (fFL (aJ (aC (aA 0) (aC (aA 1) aF)) eD))) [none,none] xZ xY)
def kZ:List T->Option T:=Fof 2 0 uI
theorem NL (t0 t1:T):kZ [t0,t1]=(uI [some t0,some t1]).bind bF:=rfl
theorem RU (aF8:Cal P w K mg base "less_row" 3 ["table","row"] eD true 3) (aF7:mg "enumerate" = none) (cdv:Value) (A:Around) (outer:List Env) (s:Shared) (H:Hp) (E:XK)
  (hr:Room 3 (A.deeper (envOfC "full_groups" (defScope nZ) s.heap.objs.size f cdv))):
  GSs (aV CX0 P w K mg base ["table","shares"] "full_groups" (defScope nZ) f cdv A outer s H E).nox H [1,1] true 3 (defBody nZ) uI:=by
 have hu:=hr.units;unfold uI xY xZ;exact @aK _ _ _ _ _ _ _ (@bA _ _ _ _ _ _ _ _ (@bC _ _ _ _ _ _ _ _ _ (@zW _ _ _ _ _ _ _ _ _ _ _ _ _ _ _ _ _ _ _ _ _ _ _ (eF (by kernel_rfl) (N':=[ "group" ,"spare" ]) (src:=[ none ,none ])) (vP (by kernel_rfl) (fl':=[ 2 ,2 ]) (js:=[ 0 ,1 ])) (by decide) (by rfl) (@zZ _ _ _ _ _ _ _ _ _ _ _ _ _ (by rfl) (by rfl) aF7 (aU aF8 (hr.mono (by decide)) (by rfl) (aD (aB 0) (aD (aB 1) aG))) (by rfl)) (fun cl C s H ex=>@pgT _ _ _ (2) _ _ (by rfl) (@eZ _ _ _ _ _ _ (fU (by kernel_rfl)) (by rfl) (Or.inl (by rfl)) (@eZ _ _ _ _ _ _ (fU (by kernel_rfl)) (by rfl) (Or.inl (by rfl)) (@qC _) (by trivial) (by rfl)) (by trivial) (by rfl)) (by rfl) (by rfl)) (by rfl) (fun cl C s H ex=>⟨@wA _ _ _ _ _ (@fQ _ _ _ _ _ _ _ _ _ _ _ _ hu (aB 1) aE),@GE.sc _ _ _ _ _ _ _ (aB 0)⟩) (by intro _;rfl)) (by rfl)))
theorem ZS {fd:FuncData}(aF8:Cal P w K mg base "less_row" 3 ["table","row"] eD true 3) (aF7:mg "enumerate" = none) (Fu:Fun K "full_groups" "full_groups" nZ f fd):
  FnOk P w K mg base CX0 4 f fd ["table","shares"] (spT K kZ true 3):=
 gfn Fu aCq rfl (by decide) (fun ts t h=>bH h) (fun cdv A outer s H E hr=>@RU _ _ _ _ _ _ aF8 aF7 cdv A outer s H E hr) (fun ts t h=>bI h)
abbrev pO:Stmt:=top 11
theorem aD0:FnScope ["one","other"] ["one","other"] (defScope pO):=⟨rfl,rfl,rfl,by decide +kernel,rfl,by decide +kernel,by decide +kernel⟩
def uW:Rho->Option Out:=
 aZ (f2 (f2 (aA 0) (aA 1) gQ) (aA 0) oEq)
def mH:List T->Option T:=Fof 2 0 uW
theorem ON (t0 t1:T):mH [t0,t1]=(uW [some t0,some t1]).bind bF:=rfl
theorem SI (cdv:Value) (A:Around) (outer:List Env) (s:Shared) (H:Hp) (E:XK)
  (hr:Room 0 (A.deeper (envOfC "within" (defScope pO) s.heap.objs.size f cdv))):
  GSs (aV CX0 P w K mg base ["one","other"] "within" (defScope pO) f cdv A outer s H E).nox H [1,1] false 3 (defBody pO) uW:=by
 have hu:=hr.units;unfold uW;exact @aK _ _ _ _ _ _ _ (@bA _ _ _ _ _ _ _ _ (@bC _ _ _ _ _ _ _ _ _ (@qA _ _ _ _ _ _ _ _ _ _ _ _ hu (@jQ _ _ _ _ _ _ _ _ _ _ _ _ (aB 0) (aB 1)) (aB 0)) (by rfl)))
theorem aA6 {fd:FuncData}(Fu:Fun K "within" "within" pO f fd):
  FnOk P w K mg base CX0 1 f fd ["one","other"] (spT K mH false 3):=
 gfn Fu aD0 rfl (by decide) (fun ts t h=>bH h) (fun cdv A outer s H E hr=>@SI _ _ _ _ _ _  cdv A outer s H E hr) (fun ts t h=>bI h)
abbrev pM:Stmt:=top 12
theorem yI:FnScope ["groups","hand","shared","group"] ["groups","hand"] (defScope pM):=⟨rfl,rfl,rfl,by decide +kernel,rfl,by decide +kernel,by decide +kernel⟩
def uU:Rho->Option Out:=
 rIf (fT (aJ (aC (f2 (fC (.int 1)) (aA 1) dF) (aC (aA 3) aF)) mH)) (aN 2 (fIf (fB (f2 (aA 2) (fC .non) oIs)) (f1 (aA 3) aW) (f2 (aA 2) (aA 3) gQ))) bO
def uT:Rho->Option Out:=
 aH (aN 2 (fC .non))
  (aH (cW 3 (fFL (aA 0))
  uU)
  (aZ (f1 (aA 2) aW)))
def mF:List T->Option T:=Fof 2 2 uT
theorem OH (t0 t1:T):mF [t0,t1]=(uT [some t0,some t1,none,none]).bind bF:=rfl
theorem SG (aGo:Cal P w K mg base "within" 1 ["one","other"] mH false 3) (cdv:Value) (A:Around) (outer:List Env) (s:Shared) (H:Hp) (E:XK)
  (hr:Room 1 (A.deeper (envOfC "shared_with" (defScope pM) s.heap.objs.size f cdv))):
  GSs (aV CX0 P w K mg base ["groups","hand","shared","group"] "shared_with" (defScope pM) f cdv A outer s H E).nox H [1,1,1,1] false 3 (defBody pM) uT:=by
 have hu:=hr.units;unfold uT uU;exact @aI _ _ _ _ _ _ _ _ _ (@aQ _ _ _ _ _ _ _ _ _ _ _ _ 2 qB yI.nd (by rfl) (Or.inl (by rfl)) (by rfl) (by rfl) (by trivial)) (@aI _ _ _ _ _ _ _ _ _ (@dJ _ _ _ _ _ _ _ _ _ 3 _ _ _ _ _ PassesOwn.never (by rfl) (fO (aB 0)) yI.nd (by rfl) (Or.inl (by rfl)) (@aK _ _ _ _ _ _ _ (@cI _ _ _ _ _ _ _ _ _ _ _ _ (@gP _ _ _ _ _ _ _ (aU aGo (hr.mono (by decide)) (by rfl) (aD (@eO _ _ _ _ _ _ _ _ _ _ _ _ aE (aB 1)) (aD (aB 3) aG))) (by intro _;rfl)) (@aK _ _ _ _ _ _ _ (@aQ _ _ _ _ _ _ _ _ _ _ _ _ 2 (@TQ _ _ _ _ _ _ _ _ _ _ _ _ (@VA _ _ _ _ _ _ _ _ _ _ _ _ (aB 2) qB) (@GE.sc _ _ _ _ _ _ _ (aB 3)) (@jQ _ _ _ _ _ _ _ _ _ _ _ _ (aB 2) (aB 3))) yI.nd (by rfl) (Or.inl (by rfl)) (by rfl) (by rfl) (by trivial))) cJ)) (by rfl) (by intro _;rfl) (by trivial)) (@aK _ _ _ _ _ _ _ (@bA _ _ _ _ _ _ _ _ (@bC _ _ _ _ _ _ _ _ _ (@GE.sc _ _ _ _ _ _ _ (aB 2)) (by rfl)))))
theorem aA4 {fd:FuncData}(aGo:Cal P w K mg base "within" 1 ["one","other"] mH false 3) (Fu:Fun K "shared_with" "shared_with" pM f fd):
  FnOk P w K mg base CX0 2 f fd ["groups","hand"] (spT K mF false 3):=
 gfn Fu yI rfl (by decide) (fun ts t h=>bH h) (fun cdv A outer s H E hr=>@SG _ _ _ _ _ _ aGo cdv A outer s H E hr) (fun ts t h=>bI h)
abbrev pF:Stmt:=top 10
theorem aCv:FnScope ["group"] ["group"] (defScope pF):=⟨rfl,rfl,rfl,by decide +kernel,rfl,by decide +kernel,by decide +kernel⟩
def CB:Rho->Option Out:=
 aZ (aJ (aC (aJ (aC (aA 0) aF) eN) aF) dE)
def hU:List T->Option T:=Fof 1 0 CB
theorem SB (aF9:Cal P w K mg base "hands_in" 1 ["group"] eN true 3) (aF5:mg "len" = none) (cdv:Value) (A:Around) (outer:List Env) (s:Shared) (H:Hp) (E:XK)
  (hr:Room 1 (A.deeper (envOfC "many_in" (defScope pF) s.heap.objs.size f cdv))):
  GSs (aV CX0 P w K mg base ["group"] "many_in" (defScope pF) f cdv A outer s H E).nox H [1] false 3 (defBody pF) CB:=by
 have hu:=hr.units;unfold CB;exact @aK _ _ _ _ _ _ _ (@bA _ _ _ _ _ _ _ _ (@bC _ _ _ _ _ _ _ _ _ (eH (by rfl) (by rfl) aF5 (aD (aU aF9 (hr.mono (by decide)) (by rfl) (aD (aB 0) aG)) aG)) (by rfl)))
theorem ZZ {fd:FuncData}(aF9:Cal P w K mg base "hands_in" 1 ["group"] eN true 3) (aF5:mg "len" = none) (Fu:Fun K "many_in" "many_in" pF f fd):
  FnOk P w K mg base CX0 2 f fd ["group"] (spT K hU false 3):=
 gfn Fu aCv rfl (by decide) (fun ts t h=>bH h) (fun cdv A outer s H E hr=>@SB _ _ _ _ _ _ aF9 aF5 cdv A outer s H E hr) (fun ts t h=>bI h)
abbrev nU:Stmt:=top 37
theorem CF:FnScope ["table","shares","full","cores"] ["table","shares"] (defScope nU):=⟨rfl,rfl,rfl,by decide +kernel,rfl,by decide +kernel,by decide +kernel⟩
def xX:Rho->Option T:=
 f1 (aJ (aC (aA 1) (aC (aA 0) aF)) mF) aW
def uE:Rho->Option Out:=
 aH (aN 2 (aJ (aC (aA 0) (aC (aA 1) aF)) kZ))
  (aH (aN 3 (dH (cU (aC (aJ (aC (aA 1) aF) dE) aF) dM) [none,some 2] bJ xX))
  (aZ (zP (aC (aJ (aC (aA 1) aF) dE) aF) 3 hU)))
def kW:List T->Option T:=Fof 2 2 uE
theorem MZ (t0 t1:T):kW [t0,t1]=(uE [some t0,some t1,none,none]).bind bF:=rfl
theorem RO (LK:LamK K mg cq Pt bm) (aFo:Cal P w K mg base "full_groups" 4 ["table","shares"] kZ true 3) (aFp:Cal P w K mg base "shared_with" 2 ["groups","hand"] mF false 3) (aGl:Cal P w K mg base "many_in" 2 ["group"] hU false 3) (aF5:mg "len" = none) (aF4:mg "range" = none) (aGp:mg "sorted" = none) (A:Around) (outer:List Env) (s:Shared) (H:Hp) (E:XK) (hP:H Pt=some cV)
  (hr:Room 5 (A.deeper (envOfC "core_order" (defScope nU) s.heap.objs.size f (.ref cq)))):
  GSs (aV CX0 P w K mg base ["table","shares","full","cores"] "core_order" (defScope nU) f (.ref cq) A outer s H E).nox H [1,1,1,1] true 3 (defBody nU) uE:=by
 have hu:=hr.units;unfold uE xX;exact @aI _ _ _ _ _ _ _ _ _ (@aQ _ _ _ _ _ _ _ _ _ _ _ _ 2 (aU aFo (hr.mono (by decide)) (by rfl) (aD (aB 0) (aD (aB 1) aG))) CF.nd (by rfl) (Or.inr (by rfl)) (by rfl) (by rfl) (by trivial)) (@aI _ _ _ _ _ _ _ _ _ (@aQ _ _ _ _ _ _ _ _ _ _ _ _ 3 (@rQ _ _ _ _ _ _ _ _ _ _ _ _ _ _ _ _ _ _ _ _ (eF (by kernel_rfl) (N':=[ "hand" ,"full" ]) (src:=[ none ,some 2 ])) (gM (by kernel_rfl) (fl':=[ 2 ,1 ])) (by decide) (by rfl) (eQ (by rfl) (by rfl) aF4 (aD (eH (by rfl) (by rfl) aF5 (aD (aB 1) aG)) aG)) (by rfl) (by rfl) (fun cl C s H ex=>⟨gO,@GE.sc _ _ _ _ _ _ _ (aU aFp (hr.mono (by decide)) (by rfl) (aD (aB 1) (aD (aB 0) aG)))⟩) (by intro _;rfl)) CF.nd (by rfl) (Or.inr (by rfl)) (by rfl) (by rfl) (by trivial)) (@aK _ _ _ _ _ _ _ (@bA _ _ _ _ _ _ _ _ (@bC _ _ _ _ _ _ _ _ _ (UE (by rfl) (by rfl) (by rfl) hP (by rfl) (hr.mono (by decide)) LK (by rfl) (by rfl) (by rfl) (by decide) (by trivial) aGl (by rfl) (by decide) (by rfl) (by rfl) (by rfl) (by decide) (by decide) (by decide) (by decide) (by decide) (by intros;rfl) (by rfl) aGp (by rfl) aF4 (aD (eH (by rfl) (by rfl) aF5 (aD (aB 1) aG)) aG)) (by rfl)))))
theorem ZN {fd:FuncData}(LK:LamK K mg cq Pt bm) (aFo:Cal P w K mg base "full_groups" 4 ["table","shares"] kZ true 3) (aFp:Cal P w K mg base "shared_with" 2 ["groups","hand"] mF false 3) (aGl:Cal P w K mg base "many_in" 2 ["group"] hU false 3) (aF5:mg "len" = none) (aF4:mg "range" = none) (aGp:mg "sorted" = none) (Fu:FunC K "core_order" "core_order" nU f fd cq):
  FnOk P w K mg base CX0 6 f fd ["table","shares"] (spP Pt cV (spT K kW true 3)):=
 UI Fu CF rfl (by decide) (fun ts t h=>bH h) (fun A outer s H E hP hr=>RO LK aFo aFp aGl aF5 aF4 aGp A outer s H E hP hr) (fun ts t h=>bI h)
abbrev nR:Stmt:=top 35
theorem qX:FnScope ["table","order","shares","ahead","hand","joined"] ["table","order"] (defScope nR):=⟨rfl,rfl,rfl,by decide +kernel,rfl,by decide +kernel,by decide +kernel⟩
def xU:Rho->Option Out:=
 aH (aN 5 (f2 (aA 3) (f2 (fC (.int 1)) (aA 4) dF) oOr))
  (aH (eC 2 (aA 4) (f2 (f2 (aA 0) (aA 5) oIx) (f2 (aA 0) (aA 3) oIx) cR))
  (aN 3 (f1 (aA 5) aW)))
def uC:Rho->Option Out:=
 aH (dX 2 (f2 (fC (.lst (tI [0]))) (aJ (aC (aA 0) aF) gE) wU))
  (aH (aN 3 (fC (.int 0)))
  (aH (cW 4 (fFL (aA 1))
  xU)
  (aZ (gL 2))))
def kT:List T->Option T:=Fof 2 4 uC
theorem MV (t0 t1:T):kT [t0,t1]=(uC [some t0,some t1,none,none,none,none]).bind bF:=rfl
theorem RM (aFd:Cal P w K mg base "hand_count" 1 ["table"] gE false 3) (cdv:Value) (A:Around) (outer:List Env) (s:Shared) (H:Hp) (E:XK)
  (hr:Room 1 (A.deeper (envOfC "by_order" (defScope nR) s.heap.objs.size f cdv))):
  GSs (aV CX0 P w K mg base ["table","order","shares","ahead","hand","joined"] "by_order" (defScope nR) f cdv A outer s H E).nox H [1,1,0,1,1,1] true 3 (defBody nR) uC:=by
 have hu:=hr.units;unfold uC xU;exact @aI _ _ _ _ _ _ _ _ _ (@jS _ _ _ _ _ _ _ _ _ _ _ 2 (@UD _ _ _ _ _ _ _ _ _ _ _ (@zX _ _ _ _ _ ([ 0 ]) (by rfl) (by decide +kernel)) (aU aFd (hr.mono (by decide)) (by rfl) (aD (aB 0) aG))) qX.nd (by rfl) (Or.inl (by rfl)) (by rfl) (by rfl) (by trivial)) (@aI _ _ _ _ _ _ _ _ _ (@aQ _ _ _ _ _ _ _ _ _ _ _ _ 3 aE qX.nd (by rfl) (Or.inl (by rfl)) (by rfl) (by rfl) (by trivial)) (@aI _ _ _ _ _ _ _ _ _ (@dJ _ _ _ _ _ _ _ _ _ 4 _ _ _ _ _ PassesOwn.never (by rfl) (fO (aB 1)) qX.nd (by rfl) (Or.inl (by rfl)) (@aI _ _ _ _ _ _ _ _ _ (@aQ _ _ _ _ _ _ _ _ _ _ _ _ 5 (@vX _ _ _ _ _ _ _ _ _ _ _ _ (aB 3) (@eO _ _ _ _ _ _ _ _ _ _ _ _ aE (aB 4))) qX.nd (by rfl) (Or.inl (by rfl)) (by rfl) (by rfl) (by trivial)) (@aI _ _ _ _ _ _ _ _ _ (@hZ _ _ _ _ _ _ _ _ _ _ _ 2 _ _ _ _ _ _ (@dS _ _ _ _ _ _ _ _ _ _ _ _ (@aY _ _ _ _ _ _ _ _ _ _ _ _ (aB 0) (aB 5) (by exact fun _ _=>rfl)) (@aY _ _ _ _ _ _ _ _ _ _ _ _ (aB 0) (aB 3) (by exact fun _ _=>rfl))) (aB 4) (by rfl) (by rfl) (by trivial) (by decide) (by decide) (by intro _;rfl) (by rfl) (by rfl) (by rfl)) (@aK _ _ _ _ _ _ _ (@aQ _ _ _ _ _ _ _ _ _ _ _ _ 3 (@GE.sc _ _ _ _ _ _ _ (aB 5)) qX.nd (by rfl) (Or.inl (by rfl)) (by rfl) (by rfl) (by trivial))))) (by rfl) (by intro _;rfl) (by trivial)) (@aK _ _ _ _ _ _ _ (@bA _ _ _ _ _ _ _ _ (@mQ _ _ _ _ _ _ _ 2 (by rfl) (by trivial) (by rfl) (by decide) (by decide))))))
theorem ZL {fd:FuncData}(aFd:Cal P w K mg base "hand_count" 1 ["table"] gE false 3) (Fu:Fun K "by_order" "by_order" nR f fd):
  FnOk P w K mg base CX0 2 f fd ["table","order"] (spT K kT true 3):=
 gfn Fu qX rfl (by decide) (fun ts t h=>bH h) (fun cdv A outer s H E hr=>@RM _ _ _ _ _ _ aFd cdv A outer s H E hr) (fun ts t h=>bI h)
abbrev nY:Stmt:=top 28
theorem aCp:FnScope ["one","other"] ["one","other"] (defScope nY):=⟨rfl,rfl,rfl,by decide +kernel,rfl,by decide +kernel,by decide +kernel⟩
def uH:Rho->Option Out:=
 aZ (f2 (f2 (f2 (aA 0) (fC (.int 0)) oIx) (f2 (aA 1) (fC (.int 1)) oIx) bN) (f2 (f2 (aA 1) (fC (.int 0)) oIx) (f2 (aA 0) (fC (.int 1)) oIx) bN) oLt)
def kY:List T->Option T:=Fof 2 0 uH
theorem NJ (t0 t1:T):kY [t0,t1]=(uH [some t0,some t1]).bind bF:=rfl
theorem RT (cdv:Value) (A:Around) (outer:List Env) (s:Shared) (H:Hp) (E:XK)
  (hr:Room 0 (A.deeper (envOfC "fraction_less" (defScope nY) s.heap.objs.size f cdv))):
  GSs (aV CX0 P w K mg base ["one","other"] "fraction_less" (defScope nY) f cdv A outer s H E).nox H [1,1] false 3 (defBody nY) uH:=by
 have hu:=hr.units;unfold uH;exact @aK _ _ _ _ _ _ _ (@bA _ _ _ _ _ _ _ _ (@bC _ _ _ _ _ _ _ _ _ (@FU _ _ _ _ _ _ _ _ _ _ _ _ (@dI _ _ _ _ _ _ _ _ _ _ _ _ (@aY _ _ _ _ _ _ _ _ _ _ _ _ (aB 0) aE (by exact fun _ _=>rfl)) (@aY _ _ _ _ _ _ _ _ _ _ _ _ (aB 1) aE (by exact fun _ _=>rfl))) (@dI _ _ _ _ _ _ _ _ _ _ _ _ (@aY _ _ _ _ _ _ _ _ _ _ _ _ (aB 1) aE (by exact fun _ _=>rfl)) (@aY _ _ _ _ _ _ _ _ _ _ _ _ (aB 0) aE (by exact fun _ _=>rfl)))) (by rfl)))
theorem ZR {fd:FuncData}(Fu:Fun K "fraction_less" "fraction_less" nY f fd):
  FnOk P w K mg base CX0 1 f fd ["one","other"] (spT K kY false 3):=
 gfn Fu aCp rfl (by decide) (fun ts t h=>bH h) (fun cdv A outer s H E hr=>@RT _ _ _ _ _ _  cdv A outer s H E hr) (fun ts t h=>bI h)
abbrev nS:Stmt:=top 26
theorem qY:FnScope ["one","other","greater","lesser","rest"] ["one","other"] (defScope nS):=⟨rfl,rfl,rfl,by decide +kernel,rfl,by decide +kernel,by decide +kernel⟩
def xV:Rho->Option Out:=
 aH (aN 4 (f2 (aA 2) (aA 3) aS))
  (aH (aN 2 (f1 (aA 3) aW))
  (aN 3 (f1 (aA 4) aW)))
def xW:Rho->Option Bool:=
 fB (f2 (aA 3) (fC (.int 0)) oNe)
def uD:Rho->Option Out:=
 aH (aN 2 (aJ (aC (aA 0) aF) wK))
  (aH (aN 3 (aJ (aC (aA 1) aF) wK))
  (aH (mX xW xV)
  (aZ (f1 (aA 2) aW))))
def kU:List T->Option T:=Fof 2 3 uD
theorem MX (t0 t1:T):kU [t0,t1]=(uD [some t0,some t1,none,none,none]).bind bF:=rfl
theorem RN (aGy:mg "abs" = none) (cdv:Value) (A:Around) (outer:List Env) (s:Shared) (H:Hp) (E:XK)
  (hr:Room 0 (A.deeper (envOfC "common_divisor" (defScope nS) s.heap.objs.size f cdv))):
  GSs (aV CX0 P w K mg base ["one","other","greater","lesser","rest"] "common_divisor" (defScope nS) f cdv A outer s H E).nox H [1,1,1,1,1] false 3 (defBody nS) uD:=by
 have hu:=hr.units;unfold uD xW xV;exact @aI _ _ _ _ _ _ _ _ _ (@aQ _ _ _ _ _ _ _ _ _ _ _ _ 2 (FM (by rfl) (by rfl) aGy (aD (aB 0) aG)) qY.nd (by rfl) (Or.inl (by rfl)) (by rfl) (by rfl) (by trivial)) (@aI _ _ _ _ _ _ _ _ _ (@aQ _ _ _ _ _ _ _ _ _ _ _ _ 3 (FM (by rfl) (by rfl) aGy (aD (aB 1) aG)) qY.nd (by rfl) (Or.inl (by rfl)) (by rfl) (by rfl) (by trivial)) (@aI _ _ _ _ _ _ _ _ _ (@AE _ _ _ _ _ _ _ _ _ _ PassesOwn.never (@GU _ _ _ _ _ _ _ _ _ _ _ _ hu (aB 3) aE) (@aI _ _ _ _ _ _ _ _ _ (@aQ _ _ _ _ _ _ _ _ _ _ _ _ 4 (@bY _ _ _ _ _ _ _ _ _ _ _ _ (aB 2) (aB 3)) qY.nd (by rfl) (Or.inl (by rfl)) (by rfl) (by rfl) (by trivial)) (@aI _ _ _ _ _ _ _ _ _ (@aQ _ _ _ _ _ _ _ _ _ _ _ _ 2 (@GE.sc _ _ _ _ _ _ _ (aB 3)) qY.nd (by rfl) (Or.inl (by rfl)) (by rfl) (by rfl) (by trivial)) (@aK _ _ _ _ _ _ _ (@aQ _ _ _ _ _ _ _ _ _ _ _ _ 3 (@GE.sc _ _ _ _ _ _ _ (aB 4)) qY.nd (by rfl) (Or.inl (by rfl)) (by rfl) (by rfl) (by trivial)))))) (@aK _ _ _ _ _ _ _ (@bA _ _ _ _ _ _ _ _ (@bC _ _ _ _ _ _ _ _ _ (@GE.sc _ _ _ _ _ _ _ (aB 2)) (by rfl))))))
theorem ZM {fd:FuncData}(aGy:mg "abs" = none) (Fu:Fun K "common_divisor" "common_divisor" nS f fd):
  FnOk P w K mg base CX0 1 f fd ["one","other"] (spT K kU false 3):=
 gfn Fu qY rfl (by decide) (fun ts t h=>bH h) (fun cdv A outer s H E hr=>@RN _ _ _ _ _ _ aGy cdv A outer s H E hr) (fun ts t h=>bI h)
abbrev nX:Stmt:=top 27
theorem CG:FnScope ["top","bottom","divisor"] ["top","bottom"] (defScope nX):=⟨rfl,rfl,rfl,by decide +kernel,rfl,by decide +kernel,by decide +kernel⟩
def uG:Rho->Option Out:=
 aH (aN 2 (f1 (aJ (aC (aA 0) (aC (aA 1) aF)) kU) aW))
  (aH (rIf (fB (f2 (aA 1) (fC (.int 0)) oLt)) (aN 2 (f1 (aA 2) dL)) bO)
  (aZ (eV (aC (f2 (aA 0) (aA 2) mV) (aC (f2 (aA 1) (aA 2) mV) aF)))))
def kX:List T->Option T:=Fof 2 1 uG
theorem NH (t0 t1:T):kX [t0,t1]=(uG [some t0,some t1,none]).bind bF:=rfl
theorem RS (aFi:Cal P w K mg base "common_divisor" 1 ["one","other"] kU false 3) (cdv:Value) (A:Around) (outer:List Env) (s:Shared) (H:Hp) (E:XK)
  (hr:Room 1 (A.deeper (envOfC "fraction" (defScope nX) s.heap.objs.size f cdv))):
  GSs (aV CX0 P w K mg base ["top","bottom","divisor"] "fraction" (defScope nX) f cdv A outer s H E).nox H [1,1,1] false 3 (defBody nX) uG:=by
 have hu:=hr.units;unfold uG;exact @aI _ _ _ _ _ _ _ _ _ (@aQ _ _ _ _ _ _ _ _ _ _ _ _ 2 (@GE.sc _ _ _ _ _ _ _ (aU aFi (hr.mono (by decide)) (by rfl) (aD (aB 0) (aD (aB 1) aG)))) CG.nd (by rfl) (Or.inl (by rfl)) (by rfl) (by rfl) (by trivial)) (@aI _ _ _ _ _ _ _ _ _ (@cI _ _ _ _ _ _ _ _ _ _ _ _ (@wC _ _ _ _ _ _ _ _ _ _ _ _ (aB 1) aE) (@aK _ _ _ _ _ _ _ (@aQ _ _ _ _ _ _ _ _ _ _ _ _ 2 (@jR _ _ _ _ _ _ _ _ (aB 2)) CG.nd (by rfl) (Or.inl (by rfl)) (by rfl) (by rfl) (by trivial))) cJ) (@aK _ _ _ _ _ _ _ (@bA _ _ _ _ _ _ _ _ (@AC _ _ _ _ _ _ _ _ _ (@mR _ _ _ _ _ _ _ _ (@bC _ _ _ _ _ _ _ _ _ (@FR _ _ _ _ _ _ _ _ _ _ _ _ (aB 0) (aB 2)) (by rfl)) (@mR _ _ _ _ _ _ _ _ (@bC _ _ _ _ _ _ _ _ _ (@FR _ _ _ _ _ _ _ _ _ _ _ _ (aB 1) (aB 2)) (by rfl)) AD (by rfl) (by rfl)) (by rfl) (by rfl)) (by rfl)))))
theorem ZQ {fd:FuncData}(aFi:Cal P w K mg base "common_divisor" 1 ["one","other"] kU false 3) (Fu:Fun K "fraction" "fraction" nX f fd):
  FnOk P w K mg base CX0 2 f fd ["top","bottom"] (spT K kX false 3):=
 gfn Fu CG rfl (by decide) (fun ts t h=>bH h) (fun cdv A outer s H E hr=>@RS _ _ _ _ _ _ aFi cdv A outer s H E hr) (fun ts t h=>bI h)
abbrev pH:Stmt:=top 38
theorem qZ:FnScope ["table","size","rest","shares","most","spares","spare","gap"] ["table","size","rest","shares"] (defScope pH):=⟨rfl,rfl,rfl,by decide +kernel,rfl,by decide +kernel,by decide +kernel⟩
def uP:Rho->Option Out:=
 rIf (sN (fB (f2 (aA 7) (fC (.int 0)) oGt)) (fT (aJ (aC (eV (aC (f1 (aA 6) aW) (aC (f1 (aA 7) aW) aF))) (aC (aA 4) aF)) kY))) (aN 4 (f1 (aJ (aC (aA 6) (aC (aA 7) aF)) kX) aW)) bO
def uO:Rho->Option Out:=
 aH (aN 4 (eV (aC (f1 (aA 1) aW) (aC (fC (.int 1)) aF))))
  (aH (aN 5 (aJ (aC (aJ (aC (aA 1) (aC (aA 0) aF)) gF) (aC (aA 2) aF)) eD))
  (aH (xF [6,7] (rN (fFL (aA 5)) (fFL (aJ (aC (aA 0) (aC (aA 3) aF)) eD)))
  uP)
  (aZ (f1 (aA 4) aW))))
def mD:List T->Option T:=Fof 4 4 uO
theorem OA (t0 t1 t2 t3:T):mD [t0,t1,t2,t3]=(uO [some t0,some t1,some t2,some t3,none,none,none,none]).bind bF:=rfl
theorem SC (aFk:Cal P w K mg base "scaled" 1 ["many","table"] gF true 3) (aF8:Cal P w K mg base "less_row" 3 ["table","row"] eD true 3) (aFj:Cal P w K mg base "fraction_less" 1 ["one","other"] kY false 3) (aGd:Cal P w K mg base "fraction" 2 ["top","bottom"] kX false 3) (aGi:mg "zip" = none) (cdv:Value) (A:Around) (outer:List Env) (s:Shared) (H:Hp) (E:XK)
  (hr:Room 3 (A.deeper (envOfC "most_of" (defScope pH) s.heap.objs.size f cdv))):
  GSs (aV CX0 P w K mg base ["table","size","rest","shares","most","spares","spare","gap"] "most_of" (defScope pH) f cdv A outer s H E).nox H [1,1,1,1,1,1,1,1] false 3 (defBody pH) uO:=by
 have hu:=hr.units;unfold uO uP;exact @aI _ _ _ _ _ _ _ _ _ (@aQ _ _ _ _ _ _ _ _ _ _ _ _ 4 (@rR _ _ _ _ _ _ _ _ (aD (@GE.sc _ _ _ _ _ _ _ (aB 1)) (aD aE aG))) qZ.nd (by rfl) (Or.inl (by rfl)) (by rfl) (by rfl) (by trivial)) (@aI _ _ _ _ _ _ _ _ _ (@aQ _ _ _ _ _ _ _ _ _ _ _ _ 5 (aU aF8 (hr.mono (by decide)) (by rfl) (aD (aU aFk (hr.mono (by decide)) (by rfl) (aD (aB 1) (aD (aB 0) aG))) (aD (aB 2) aG))) qZ.nd (by rfl) (Or.inl (by rfl)) (by rfl) (by rfl) (by trivial)) (@aI _ _ _ _ _ _ _ _ _ (@GJ _ _ _ _ _ _ _ _ _ _ _ [6 ,7] _ _ _ _ _ PassesOwn.never (by rfl) (@FY _ _ _ _ _ _ _ _ _ _ _ _ _ _ _ _ _ (by rfl) (by rfl) aGi (aB 5) (aU aF8 (hr.mono (by decide)) (by rfl) (aD (aB 0) (aD (aB 3) aG))) (by rfl) (by rfl)) (@eZ _ _ _ _ _ _ qZ.nd (by rfl) (Or.inl (by rfl)) (@eZ _ _ _ _ _ _ qZ.nd (by rfl) (Or.inl (by rfl)) (@qC _) (by trivial) (by rfl)) (by trivial) (by rfl)) (@aK _ _ _ _ _ _ _ (@cI _ _ _ _ _ _ _ _ _ _ _ _ (@GW.gt _ _ _ _ _ (@AI _ _ _ _ _ _ _ _ _ (@qE _ _ _ _ _ _ _ _ _ _ _ _ (aB 7) aE) (@AJ _ _ _ _ _ _ (@gP _ _ _ _ _ _ _ (aU aFj (hr.mono (by decide)) (by rfl) (aD (@rR _ _ _ _ _ _ _ _ (aD (@GE.sc _ _ _ _ _ _ _ (aB 6)) (aD (@GE.sc _ _ _ _ _ _ _ (aB 7)) aG))) (aD (aB 4) aG))) (by intro _;rfl))))) (@aK _ _ _ _ _ _ _ (@aQ _ _ _ _ _ _ _ _ _ _ _ _ 4 (@GE.sc _ _ _ _ _ _ _ (aU aGd (hr.mono (by decide)) (by rfl) (aD (aB 6) (aD (aB 7) aG)))) qZ.nd (by rfl) (Or.inl (by rfl)) (by rfl) (by rfl) (by trivial))) cJ)) (by rfl) (by rfl) (by rfl) (by rfl) (by rfl) (by intro _;rfl)) (@aK _ _ _ _ _ _ _ (@bA _ _ _ _ _ _ _ _ (@bC _ _ _ _ _ _ _ _ _ (@GE.sc _ _ _ _ _ _ _ (aB 4)) (by rfl))))))
theorem aA0 {fd:FuncData}(aFk:Cal P w K mg base "scaled" 1 ["many","table"] gF true 3) (aF8:Cal P w K mg base "less_row" 3 ["table","row"] eD true 3) (aFj:Cal P w K mg base "fraction_less" 1 ["one","other"] kY false 3) (aGd:Cal P w K mg base "fraction" 2 ["top","bottom"] kX false 3) (aGi:mg "zip" = none) (Fu:Fun K "most_of" "most_of" pH f fd):
  FnOk P w K mg base CX0 4 f fd ["table","size","rest","shares"] (spT K mD false 3):=
 gfn Fu qZ rfl (by decide) (fun ts t h=>bH h) (fun cdv A outer s H E hr=>@SC _ _ _ _ _ _ aFk aF8 aFj aGd aGi cdv A outer s H E hr) (fun ts t h=>bI h)
abbrev pG:Stmt:=top 39
theorem gY:FnScope ["table","shares","mix","size","rest","order","taken","most"] ["table","shares"] (defScope pG):=⟨rfl,rfl,rfl,by decide +kernel,rfl,by decide +kernel,by decide +kernel⟩
def xK:Rho->Option T:=
 f2 (f2 (f2 (aA 2) (fC (.int 1)) oIx) (aA 0) bN) (f2 (f2 (aA 2) (fC (.int 0)) oIx) (aA 1) bN) cR
def xL:Rho->Option T:=
 eV (aC (aA 0) (aC (f2 (f2 (aA 2) (fC (.int 1)) oIx) (aA 1) bN) aF))
def gW:Rho->Option Out:=
 aH (aN 5 (aJ (aC (aJ (aC (aA 3) (aC (aA 0) aF)) gF) (aC (aA 4) aF)) kW))
  (aH (aN 6 (aJ (aC (aA 0) (aC (aA 5) aF)) kT))
  (aH (aN 7 (f1 (aJ (aC (aA 0) (aC (aA 3) (aC (aA 4) (aC (aA 6) aF)))) mD) aW))
  (aH (aN 4 (hV [0,1] (rN (fFL (aA 4)) (fFL (aA 6))) [none,none,some 7] bJ xK))
  (aH (aN 3 (f2 (f2 (f2 (aA 7) (fC (.int 1)) oIx) (aA 3) bN) (f2 (aA 7) (fC (.int 0)) oIx) cR))
  (aN 2 (f2 (hV [0,1] (fL (aA 2)) [none,none,some 7] bJ xL) (dQ (aC (eV (aC (aA 5) (aC (f1 (f2 (aA 7) (fC (.int 0)) oIx) aW) aF))) aF)) sG))))))
def jJ:Rho->Option Bool:=
 fB (f2 (aA 3) (fC (.int 0)) oGt)
def mZ:Rho->Option (Out ⊕ Str):=
 yO (CQ (aC (aA 0) aF) hJ)
  (yO (xIf (jI (fT (aJ (aC (aA 0) (aC (aA 1) aF)) hO))) (vG "NotBase" (aC (fC (.str "the shares are no base of the table")) aF)) (xOf bO))
  (xOf (aH (aN 2 (dQ aF))
  (aH (aN 3 (fC (.int 1)))
  (aH (aN 4 (aA 1))
  (aH (mX jJ gW)
  (aZ (aA 2))))))))
def jM:List T->Option (T ⊕ Str):=pS 2 6 mZ
theorem yQ (t0 t1:T):jM [t0,t1]=(mZ [some t0,some t1,none,none,none,none,none,none]).bind sL:=rfl
theorem QU (aGk:Cal P w K mg base "is_base" 6 ["table","shares"] hO false 3) (aFk:Cal P w K mg base "scaled" 1 ["many","table"] gF true 3) (aFz:CalP P w K mg base Pt cV "core_order" 6 ["table","shares"] kW true 3) (aGc:Cal P w K mg base "by_order" 2 ["table","order"] kT true 3) (aGm:Cal P w K mg base "most_of" 4 ["table","size","rest","shares"] mD false 3) (aGa:CalX P w K mg base "must_fall" 5 ["table"] hJ false 3 []) (aGg:RaiseK K mg base "NotBase") (aGi:mg "zip" = none) (cdv:Value) (A:Around) (outer:List Env) (s:Shared) (H:Hp) (E:XK) (hP:H Pt=some cV)
  (hr:Room 6 (A.deeper (envOfC "mixed" (defScope pG) s.heap.objs.size f cdv))):
  fN (aV (CX1 P w) P w K mg base ["table","shares","mix","size","rest","order","taken","most"] "mixed" (defScope pG) f cdv A outer s H E) H [1,1,2,1,1,2,1,1] false 3 (defBody pG) mZ:=by
 have hu:=hr.units;unfold mZ jJ gW xL xK;exact @GL _ _ _ _ _ _ _ _ _ (@UY _ _ _ _ _ _ _ _ _ _ _ _ _ _ _ _ _ aGa (hr.mono (by decide)) (by rfl) (by rfl) _ (aD (aB 0) aG) (by rfl) (by decide) (by rfl) (by rfl)) (@GL _ _ _ _ _ _ _ _ _ (@GP _ _ _ _ _ _ _ _ _ _ _ _ (@qF _ _ _ _ _ _ (@gP _ _ _ _ _ _ _ (aU aGk (hr.mono (by decide)) (by rfl) (aD (aB 0) (aD (aB 1) aG))) (by intro _;rfl))) (@AF _ _ _ _ _ _ _ (@GQ _ _ _ _ _ _ _ _ _ _ _ _ _ aGg (by rfl) (by rfl) (by rfl) (aD gN aG) (by decide) (by rfl) (by rfl))) GM) (@UX _ _ _ _ _ _ _ (@aI _ _ _ _ _ _ _ _ _ (@aQ _ _ _ _ _ _ _ _ _ _ _ _ 2 (@eX _ _ _ _ _ _ _ aG) gY.nd (by rfl) (Or.inl (by rfl)) (by rfl) (by rfl) (by trivial)) (@aI _ _ _ _ _ _ _ _ _ (@aQ _ _ _ _ _ _ _ _ _ _ _ _ 3 aE gY.nd (by rfl) (Or.inl (by rfl)) (by rfl) (by rfl) (by trivial)) (@aI _ _ _ _ _ _ _ _ _ (@aQ _ _ _ _ _ _ _ _ _ _ _ _ 4 (aB 1) gY.nd (by rfl) (Or.inl (by rfl)) (by rfl) (by rfl) (by trivial)) (@aI _ _ _ _ _ _ _ _ _ (@AE _ _ _ _ _ _ _ _ _ _ PassesOwn.never (@qE _ _ _ _ _ _ _ _ _ _ _ _ (aB 3) aE) (@aI _ _ _ _ _ _ _ _ _ (@aQ _ _ _ _ _ _ _ _ _ _ _ _ 5 (FP aFz hP (hr.mono (by decide)) (by rfl) (aD (aU aFk (hr.mono (by decide)) (by rfl) (aD (aB 3) (aD (aB 0) aG))) (aD (aB 4) aG))) gY.nd (by rfl) (Or.inl (by rfl)) (by rfl) (by rfl) (by trivial)) (@aI _ _ _ _ _ _ _ _ _ (@aQ _ _ _ _ _ _ _ _ _ _ _ _ 6 (aU aGc (hr.mono (by decide)) (by rfl) (aD (aB 0) (aD (aB 5) aG))) gY.nd (by rfl) (Or.inl (by rfl)) (by rfl) (by rfl) (by trivial)) (@aI _ _ _ _ _ _ _ _ _ (@aQ _ _ _ _ _ _ _ _ _ _ _ _ 7 (@GE.sc _ _ _ _ _ _ _ (aU aGm (hr.mono (by decide)) (by rfl) (aD (aB 0) (aD (aB 3) (aD (aB 4) (aD (aB 6) aG)))))) gY.nd (by rfl) (Or.inr (by rfl)) (by rfl) (by rfl) (by trivial)) (@aI _ _ _ _ _ _ _ _ _ (@UV _ _ _ _ _ _ _ _ _ _ _ _ _ _ _ _ _ _ _ _ _ 4 _ _ _ _ _ _ _ (eF (by kernel_rfl) (N':=[ "left" ,"share" ,"most" ]) (src:=[ none ,none ,some 7 ])) (vP (by kernel_rfl) (fl':=[ 2 ,2 ,1 ]) (js:=[ 0 ,1 ])) (by rfl) (@FY _ _ _ _ _ _ _ _ _ _ _ _ _ _ _ _ _ (by rfl) (by rfl) aGi (aB 4) (aB 6) (by rfl) (by rfl)) (fun cl C s H ex=>@pgT _ _ _ (2) _ _ (by rfl) (@eZ _ _ _ _ _ _ (fU (by kernel_rfl)) (by rfl) (Or.inl (by rfl)) (@eZ _ _ _ _ _ _ (fU (by kernel_rfl)) (by rfl) (Or.inl (by rfl)) (@qC _) (by trivial) (by rfl)) (by trivial) (by rfl)) (by rfl) (by rfl)) (by rfl) (fun cl C s H ex=>⟨gO,@dS _ _ _ _ _ _ _ _ _ _ _ _ (@dI _ _ _ _ _ _ _ _ _ _ _ _ (@aY _ _ _ _ _ _ _ _ _ _ _ _ (aB 2) aE (by exact fun _ _=>rfl)) (aB 0)) (@dI _ _ _ _ _ _ _ _ _ _ _ _ (@aY _ _ _ _ _ _ _ _ _ _ _ _ (aB 2) aE (by exact fun _ _=>rfl)) (aB 1))⟩) gY.nd (by rfl) (Or.inl (by rfl)) (by rfl) (by rfl) (by intro _;rfl) (by trivial)) (@aI _ _ _ _ _ _ _ _ _ (@aQ _ _ _ _ _ _ _ _ _ _ _ _ 3 (@dS _ _ _ _ _ _ _ _ _ _ _ _ (@dI _ _ _ _ _ _ _ _ _ _ _ _ (@aY _ _ _ _ _ _ _ _ _ _ _ _ (aB 7) aE (by exact fun _ _=>rfl)) (aB 3)) (@aY _ _ _ _ _ _ _ _ _ _ _ _ (aB 7) aE (by exact fun _ _=>rfl))) gY.nd (by rfl) (Or.inl (by rfl)) (by rfl) (by rfl) (by trivial)) (@aK _ _ _ _ _ _ _ (@aQ _ _ _ _ _ _ _ _ _ _ _ _ 2 (@TL _ _ _ _ _ _ _ _ _ _ _ _ (@zW _ _ _ _ _ _ _ _ _ _ _ _ _ _ _ _ _ _ _ _ _ _ _ (eF (by kernel_rfl) (N':=[ "ahead" ,"many" ,"most" ]) (src:=[ none ,none ,some 7 ])) (vP (by kernel_rfl) (fl':=[ 2 ,2 ,1 ]) (js:=[ 0 ,1 ])) (by decide) (by rfl) (@UM _ _ _ _ _ _ _ _ (aB 2)) (fun cl C s H ex=>@pgT _ _ _ (2) _ _ (by rfl) (@eZ _ _ _ _ _ _ (fU (by kernel_rfl)) (by rfl) (Or.inl (by rfl)) (@eZ _ _ _ _ _ _ (fU (by kernel_rfl)) (by rfl) (Or.inl (by rfl)) (@qC _) (by trivial) (by rfl)) (by trivial) (by rfl)) (by rfl) (by rfl)) (by rfl) (fun cl C s H ex=>⟨gO,@rR _ _ _ _ _ _ _ _ (aD (aB 0) (aD (@dI _ _ _ _ _ _ _ _ _ _ _ _ (@aY _ _ _ _ _ _ _ _ _ _ _ _ (aB 2) aE (by exact fun _ _=>rfl)) (aB 1)) aG))⟩) (by intro _;rfl)) (@eX _ _ _ _ _ _ _ (aD (@rR _ _ _ _ _ _ _ _ (aD (aB 5) (aD (@GE.sc _ _ _ _ _ _ _ (@aY _ _ _ _ _ _ _ _ _ _ _ _ (aB 7) aE (by exact fun _ _=>rfl))) aG))) aG))) gY.nd (by rfl) (Or.inl (by rfl)) (by rfl) (by rfl) (by trivial))))))))) (@aK _ _ _ _ _ _ _ (@bA _ _ _ _ _ _ _ _ (@bC _ _ _ _ _ _ _ _ _ (aB 2) (by rfl))))))))))
theorem YS {fd:FuncData}(aGk:Cal P w K mg base "is_base" 6 ["table","shares"] hO false 3) (aFk:Cal P w K mg base "scaled" 1 ["many","table"] gF true 3) (aFz:CalP P w K mg base Pt cV "core_order" 6 ["table","shares"] kW true 3) (aGc:Cal P w K mg base "by_order" 2 ["table","order"] kT true 3) (aGm:Cal P w K mg base "most_of" 4 ["table","size","rest","shares"] mD false 3) (aGa:CalX P w K mg base "must_fall" 5 ["table"] hJ false 3 []) (aGg:RaiseK K mg base "NotBase") (aGi:mg "zip" = none) (Fu:Fun K "mixed" "mixed" pG f fd):
  FnOk P w K mg base (CX1 P w) 7 f fd ["table","shares"] (spP Pt cV (spX K jM false 3)):=
 UK Fu gY rfl (by decide) (fun ts t h=>DE h) (fun cdv A outer s H E hP hr=>QU aGk aFk aFz aGc aGm aGa aGg aGi cdv A outer s H E hP hr) (fun ts t h=>DF h)
abbrev nO:Stmt:=top 55
theorem jK:FnScope ["table","shares","word","found","e","flags","odd"] ["table","shares"] (defScope nO):=⟨rfl,rfl,rfl,by decide +kernel,rfl,by decide +kernel,by decide +kernel⟩
def tY:Rho->Option Out:=
 aH (aN 2 (fC (.str "none")))
  (aH (BP 3 4 (aC (aA 0) (aC (aA 1) aF)) jM ["NotFalling","NotBase"] (aH (aN 2 (fC (.str "odd")))
  (aH (aN 5 (dQ (aC (f1 (aA 4) (dW [("NotFalling",true),("NotBase",false)])) (aC (f1 (aA 4) (dW [("NotFalling",false),("NotBase",true)])) aF))))
  (aH (aN 6 (f1 (vOr (f1 (aA 4) (dW [("NotFalling",false),("NotBase",false)])) (yM (f1 (aA 4) (dW [("NotFalling",true),("NotBase",true)])))) aW))
  (rIf (sN (fB (f2 (f2 (aA 5) (fC (.bl true)) wM) (fC (.int 1)) oEq)) (jI (fT (aA 6)))) (aN 2 (f1 (f2 (dQ (aC (fC (.str "falling")) (aC (fC (.str "base")) aF))) (f2 (aA 5) (fC (.bl true)) wO) oIx) aW)) bO)))) (rIf (jI (fT (f1 (aA 3) (wP "list")))) (aN 2 (fC (.str "odd"))) bO))
  (aZ (f1 (aA 2) aW)))
def kP:List T->Option T:=Fof 2 5 tY
theorem MQ (t0 t1:T):kP [t0,t1]=(tY [some t0,some t1,none,none,none,none,none]).bind bF:=rfl
theorem RJ (aGs:CalXP P w K mg base Pt cV "mixed" 7 ["table","shares"] jM false 3 []) (aFq:dO K mg "NotFalling" [("NotFalling",true),("NotBase",false)]) (aGf:dO K mg "NotBase" [("NotFalling",false),("NotBase",true)]) (aGn:dO K mg "Unlike" [("NotFalling",false),("NotBase",false)]) (aG9:dO K mg "NotUnder" [("NotFalling",false),("NotBase",false)]) (aG0:dO K mg "NotRising" [("NotFalling",false),("NotBase",false)]) (aG8:dO K mg "BadTable" [("NotFalling",false),("NotBase",false)]) (aFr:rB K "ValueError" [("NotFalling",true),("NotBase",true)]) (aG1:TryK K mg "CostError" ["NotFalling","NotBase"]) (aFg:mg "isinstance" = none) (aG3:mg "list" = none) (aG2:mg "ValueError" = none) (cdv:Value) (A:Around) (outer:List Env) (s:Shared) (H:Hp) (E:XK) (hP:H Pt=some cV)
  (hr:Room 7 (A.deeper (envOfC "_law_word" (defScope nO) s.heap.objs.size f cdv))):
  GSs (aV CX0 P w K mg base ["table","shares","word","found","e","flags","odd"] "_law_word" (defScope nO) f cdv A outer s H E).nox H [1,1,1,1,1,1,1] false 3 (defBody nO) tY:=by
 have hu:=hr.units;unfold tY;exact @aI _ _ _ _ _ _ _ _ _ (@aQ _ _ _ _ _ _ _ _ _ _ _ _ 2 gN jK.nd (by rfl) (Or.inl (by rfl)) (by rfl) (by rfl) (by trivial)) (@aI _ _ _ _ _ _ _ _ _ (UW aG1 (by rfl) (by rfl) (by rfl) jK.nd (by rfl) (by rfl) (aEb aGs hP (hr.mono (by decide)) (by rfl) (by rfl) (aD (aB 0) (aD (aB 1) aG)) (by rfl) jK.nd (by rfl) (by rfl) (by rfl) (@aK _ _ _ _ _ _ _ (@cI _ _ _ _ _ _ _ _ _ _ _ _ (@qF _ _ _ _ _ _ (@gP _ _ _ _ _ _ _ (@TV _ _ _ _ _ _ _ _ _ _ _ _ _ (by rfl) VT (by rfl) aFg (by rfl) aG3 PyProof.Rows.boot_list (aB 3) (by decide) (by decide) (by rfl) (by rfl) (by rfl)) (by intro _;rfl))) (@aK _ _ _ _ _ _ _ (@aQ _ _ _ _ _ _ _ _ _ _ _ _ 2 gN jK.nd (by rfl) (Or.inl (by rfl)) (by rfl) (by rfl) (by trivial))) cJ))) (fun a=>@aI _ _ _ _ _ _ _ _ _ (@aQ _ _ _ _ _ _ _ _ _ _ _ _ 2 gN jK.nd (by rfl) (Or.inl (by rfl)) (by rfl) (by rfl) (by trivial)) (@aI _ _ _ _ _ _ _ _ _ (@aQ _ _ _ _ _ _ _ _ _ _ _ _ 5 (@eX _ _ _ _ _ _ _ (aD (@FS _ _ _ _ _ _ _ _ _ _ _ _ _ (by rfl) (by rfl) aFg (by rfl) aFq (aB 4) (by decide) (by rfl) (by rfl) (by rfl)) (aD (@FS _ _ _ _ _ _ _ _ _ _ _ _ _ (by rfl) (by rfl) aFg (by rfl) aGf (aB 4) (by decide) (by rfl) (by rfl) (by rfl)) aG))) jK.nd (by rfl) (Or.inl (by rfl)) (by rfl) (by rfl) (by trivial)) (@aI _ _ _ _ _ _ _ _ _ (@aQ _ _ _ _ _ _ _ _ _ _ _ _ 6 (@GE.sc _ _ _ _ _ _ _ (@UC _ _ _ _ _ _ _ _ _ _ _ _ _ (TW (by rfl) (by rfl) aFg (vK (by rfl) aG8 (vK (by rfl) aG0 (vK (by rfl) aG9 (vK (by rfl) aGn QE)))) (by rfl) (by decide) (aB 4)) (@vW _ _ _ _ _ _ _ _ _ (@UB _ _ _ _ _ _ _ _ (@TX _ _ _ _ _ _ _ _ _ _ _ _ _ _ (by rfl) (by rfl) aFg (by rfl) aG2 (by kernel_rfl) aFr (aB 4) (by decide) (by decide) (by rfl) (by rfl) (by rfl)))))) jK.nd (by rfl) (Or.inl (by rfl)) (by rfl) (by rfl) (by trivial)) (@aK _ _ _ _ _ _ _ (@cI _ _ _ _ _ _ _ _ _ _ _ _ (@GW.gt _ _ _ _ _ (@AI _ _ _ _ _ _ _ _ _ (@fQ _ _ _ _ _ _ _ _ _ _ _ _ hu (TN (aB 5) pZ) aE) (@AJ _ _ _ _ _ _ (@qF _ _ _ _ _ _ (@gP _ _ _ _ _ _ _ (aB 6) (by intro _;rfl)))))) (@aK _ _ _ _ _ _ _ (@aQ _ _ _ _ _ _ _ _ _ _ _ _ 2 (@GE.sc _ _ _ _ _ _ _ (@aY _ _ _ _ _ _ _ _ _ _ _ _ (@eX _ _ _ _ _ _ _ (aD gN (aD gN aG))) (@TU _ _ _ _ _ _ _ _ _ _ _ _ _ (aB 5) pZ (by rfl) (by rfl) (by rfl) (by rfl)) (by exact fun _ _=>rfl))) jK.nd (by rfl) (Or.inl (by rfl)) (by rfl) (by rfl) (by trivial))) cJ)))))) (@aK _ _ _ _ _ _ _ (@bA _ _ _ _ _ _ _ _ (@bC _ _ _ _ _ _ _ _ _ (@GE.sc _ _ _ _ _ _ _ (aB 2)) (by rfl)))))
theorem ZI {fd:FuncData}(aGs:CalXP P w K mg base Pt cV "mixed" 7 ["table","shares"] jM false 3 []) (aFq:dO K mg "NotFalling" [("NotFalling",true),("NotBase",false)]) (aGf:dO K mg "NotBase" [("NotFalling",false),("NotBase",true)]) (aGn:dO K mg "Unlike" [("NotFalling",false),("NotBase",false)]) (aG9:dO K mg "NotUnder" [("NotFalling",false),("NotBase",false)]) (aG0:dO K mg "NotRising" [("NotFalling",false),("NotBase",false)]) (aG8:dO K mg "BadTable" [("NotFalling",false),("NotBase",false)]) (aFr:rB K "ValueError" [("NotFalling",true),("NotBase",true)]) (aG1:TryK K mg "CostError" ["NotFalling","NotBase"]) (aFg:mg "isinstance" = none) (aG3:mg "list" = none) (aG2:mg "ValueError" = none) (Fu:Fun K "_law_word" "_law_word" nO f fd):
  FnOk P w K mg base CX0 8 f fd ["table","shares"] (spP Pt cV (spT K kP false 3)):=
 FV Fu jK rfl (by decide) (fun ts t h=>bH h) (fun cdv A outer s H E hP hr=>RJ aGs aFq aGf aGn aG9 aG0 aG8 aFr aG1 aFg aG3 aG2 cdv A outer s H E hP hr) (fun ts t h=>bI h)
abbrev gX:Stmt:=top 56
theorem fZ:FnScope ["script","hands","table","at","shares","cell","step","due","lent"] ["script"] (defScope gX):=⟨rfl,rfl,rfl,by decide +kernel,rfl,by decide +kernel,by decide +kernel⟩
def uM:Rho->Option Out:=
 aH (aN 1 (f1 (aJ (aC (aA 0) aF) kL) aW))
  (aH (dX 2 (aJ (aC (aA 0) (aC (aA 1) aF)) kJ))
  (aH (rIf (fB (f2 (f2 (aJ (aC (aA 0) (aC (fC (.int 1)) aF)) bW) (fC (.int 3)) aS) (fC (.int 1)) oEq)) (aH (aN 3 (f2 (fC (.int 1)) (f2 (aJ (aC (aA 0) (aC (fC (.int 2)) aF)) bW) (f2 (aJ (aC (aA 2) aF) dE) (fC (.int 1)) cR) aS) bS))
  (eC 2 (aA 3) (f2 (f2 (aA 2) (aA 3) oIx) (f2 (dQ (aC (f1 (fC (.int 1)) dL) (aC (fC (.int 1)) (aC (f1 (f2 (fC (.int 10)) (fC (.int 60)) cN) dL) (aC (f2 (fC (.int 10)) (fC (.int 60)) cN) aF))))) (f2 (f2 (aJ (aC (aA 0) (aC (fC (.int 1)) aF)) bW) (fC (.int 3)) bK) (fC (.int 4)) aS) oIx) bS))) bO)
  (aH (dX 4 (aJ (aC (aA 2) (aC (aJ (aC (aJ (aC (aA 0) (aC (fC (.int 3)) aF)) bW) (aC (aA 1) aF)) kI) aF)) kH))
  (aH (aN 5 (f1 (aJ (aC (aA 0) (aC (fC (.int 4)) aF)) bW) aW))
  (aH (rIf (fB (f2 (f2 (aA 5) (fC (.int 3)) aS) (fC (.int 1)) oEq)) (eC 4 (f2 (f2 (aA 5) (fC (.int 3)) bK) (aA 1) aS) (f2 (f2 (aA 4) (f2 (f2 (aA 5) (fC (.int 3)) bK) (aA 1) aS) oIx) (f2 (dQ (aC (fC (.int 1)) (aC (f1 (fC (.int 1)) dL) aF))) (f2 (f2 (aA 5) (fC (.int 18)) bK) (fC (.int 2)) aS) oIx) bS)) bO)
  (aH (rIf (fB (f2 (f2 (aA 5) (fC (.int 3)) aS) (fC (.int 2)) oEq)) (aH (aN 6 (f1 (f2 (dQ (aC (fC (.int 1)) (aC (f2 (fC (.int 10)) (fC (.int 60)) cN) aF))) (f2 (f2 (aA 5) (fC (.int 3)) bK) (fC (.int 2)) aS) oIx) aW))
  (aH (eC 4 (fC (.int 0)) (f2 (f2 (aA 4) (fC (.int 0)) oIx) (aA 6) bS))
  (eC 4 (f1 (fC (.int 1)) dL) (f2 (f2 (aA 4) (f1 (fC (.int 1)) dL) oIx) (aA 6) cR)))) bO)
  (aH (aN 7 (fC (.str "none")))
  (aH (rIf (jI (fT (aJ (aC (aA 2) (aC (aA 4) aF)) kG))) (aN 7 (fC (.str "base"))) bO)
  (aH (rIf (jI (fT (aJ (aC (aA 2) (aC (aA 1) aF)) kK))) (aN 7 (fC (.str "falling"))) bO)
  (aH (aN 8 (dQ (aC (f1 (aJ (aC (aA 2) aF) sH) pY) (aC (f1 (aJ (aC (aA 4) aF) sH) pY) aF))))
  (aZ (f1 (vE (f2 (aJ (aC (f2 (aA 8) (fC (.int 0)) oIx) (aC (f2 (aA 8) (fC (.int 1)) oIx) aF)) kP) (aA 7) oEq) (f2 (aA 8) (dQ (aC (aA 2) (aC (aA 4) aF))) oEq)) aW))))))))))))
def pR:List T->Option T:=Fof 1 8 uM
theorem NR (t0:T):pR [t0]=(uM [some t0,none,none,none,none,none,none,none,none]).bind bF:=rfl
theorem RZ (aFw:Cal P w K mg base "_law_hands" 2 ["script"] kL false 3) (aFl:Cal P w K mg base "_law_falling" 3 ["script","hands"] kJ true 3) (aF6:Cal P w K mg base "_law_cell" 1 ["script","k"] bW false 3) (aFu:Cal P w K mg base "_law_drawn" 1 ["cell","hands"] kI true 3) (aGj:Cal P w K mg base "_law_by" 1 ["table","order"] kH true 3) (aG4:Cal P w K mg base "_law_base" 3 ["table","shares"] kG false 3) (aFv:Cal P w K mg base "_law_falls" 1 ["table","hands"] kK false 3) (aG6:CalP P w K mg base Pt cV "_law_word" 8 ["table","shares"] kP false 3) (aF5:mg "len" = none) (aG3:mg "list" = none) (cdv:Value) (A:Around) (outer:List Env) (s:Shared) (H:Hp) (E:XK) (hP:H Pt=some cV)
  (hr:Room 8 (A.deeper (envOfC "law" (defScope gX) s.heap.objs.size f cdv))):
  GSs (aV CX0 P w K mg base ["script","hands","table","at","shares","cell","step","due","lent"] "law" (defScope gX) f cdv A outer s H E).nox H [1,1,0,1,0,1,1,1,1] false 3 (defBody gX) uM:=by
 have hu:=hr.units;unfold uM;exact @aI _ _ _ _ _ _ _ _ _ (@aQ _ _ _ _ _ _ _ _ _ _ _ _ 1 (@GE.sc _ _ _ _ _ _ _ (aU aFw (hr.mono (by decide)) (by rfl) (aD (aB 0) aG))) fZ.nd (by rfl) (Or.inl (by rfl)) (by rfl) (by rfl) (by trivial)) (@aI _ _ _ _ _ _ _ _ _ (@jS _ _ _ _ _ _ _ _ _ _ _ 2 (aU aFl (hr.mono (by decide)) (by rfl) (aD (aB 0) (aD (aB 1) aG))) fZ.nd (by rfl) (Or.inl (by rfl)) (by rfl) (by rfl) (by trivial)) (@aI _ _ _ _ _ _ _ _ _ (@cI _ _ _ _ _ _ _ _ _ _ _ _ (@fQ _ _ _ _ _ _ _ _ _ _ _ _ hu (@bY _ _ _ _ _ _ _ _ _ _ _ _ (aU aF6 (hr.mono (by decide)) (by rfl) (aD (aB 0) (aD aE aG))) aE) aE) (@aI _ _ _ _ _ _ _ _ _ (@aQ _ _ _ _ _ _ _ _ _ _ _ _ 3 (@cB _ _ _ _ _ _ _ _ _ _ _ _ aE (@bY _ _ _ _ _ _ _ _ _ _ _ _ (aU aF6 (hr.mono (by decide)) (by rfl) (aD (aB 0) (aD aE aG))) (@dS _ _ _ _ _ _ _ _ _ _ _ _ (eH (by rfl) (by rfl) aF5 (aD (aB 2) aG)) aE))) fZ.nd (by rfl) (Or.inl (by rfl)) (by rfl) (by rfl) (by trivial)) (@aK _ _ _ _ _ _ _ (@hZ _ _ _ _ _ _ _ _ _ _ _ 2 _ _ _ _ _ _ (@cB _ _ _ _ _ _ _ _ _ _ _ _ (@aY _ _ _ _ _ _ _ _ _ _ _ _ (aB 2) (aB 3) (by exact fun _ _=>rfl)) (@aY _ _ _ _ _ _ _ _ _ _ _ _ (@eX _ _ _ _ _ _ _ (aD (@jR _ _ _ _ _ _ _ _ aE) (aD aE (aD (@jR _ _ _ _ _ _ _ _ (@hX _ _ _ _ _ _ _ _ _ _ _ _ aE aE)) (aD (@hX _ _ _ _ _ _ _ _ _ _ _ _ aE aE) aG))))) (@bY _ _ _ _ _ _ _ _ _ _ _ _ (@eG _ _ _ _ _ _ _ _ _ _ _ _ (aU aF6 (hr.mono (by decide)) (by rfl) (aD (aB 0) (aD aE aG))) aE) aE) (by exact fun _ _=>rfl))) (aB 3) (by rfl) (by rfl) (by trivial) (by decide) (by decide) (by intro _;rfl) (by rfl) (by rfl) (by rfl)))) cJ) (@aI _ _ _ _ _ _ _ _ _ (@jS _ _ _ _ _ _ _ _ _ _ _ 4 (aU aGj (hr.mono (by decide)) (by rfl) (aD (aB 2) (aD (aU aFu (hr.mono (by decide)) (by rfl) (aD (aU aF6 (hr.mono (by decide)) (by rfl) (aD (aB 0) (aD aE aG))) (aD (aB 1) aG))) aG))) fZ.nd (by rfl) (Or.inl (by rfl)) (by rfl) (by rfl) (by trivial)) (@aI _ _ _ _ _ _ _ _ _ (@aQ _ _ _ _ _ _ _ _ _ _ _ _ 5 (@GE.sc _ _ _ _ _ _ _ (aU aF6 (hr.mono (by decide)) (by rfl) (aD (aB 0) (aD aE aG)))) fZ.nd (by rfl) (Or.inl (by rfl)) (by rfl) (by rfl) (by trivial)) (@aI _ _ _ _ _ _ _ _ _ (@cI _ _ _ _ _ _ _ _ _ _ _ _ (@fQ _ _ _ _ _ _ _ _ _ _ _ _ hu (@bY _ _ _ _ _ _ _ _ _ _ _ _ (aB 5) aE) aE) (@aK _ _ _ _ _ _ _ (@hZ _ _ _ _ _ _ _ _ _ _ _ 4 _ _ _ _ _ _ (@cB _ _ _ _ _ _ _ _ _ _ _ _ (@aY _ _ _ _ _ _ _ _ _ _ _ _ (aB 4) (@bY _ _ _ _ _ _ _ _ _ _ _ _ (@eG _ _ _ _ _ _ _ _ _ _ _ _ (aB 5) aE) (aB 1)) (by exact fun _ _=>rfl)) (@aY _ _ _ _ _ _ _ _ _ _ _ _ (@eX _ _ _ _ _ _ _ (aD aE (aD (@jR _ _ _ _ _ _ _ _ aE) aG))) (@bY _ _ _ _ _ _ _ _ _ _ _ _ (@eG _ _ _ _ _ _ _ _ _ _ _ _ (aB 5) aE) aE) (by exact fun _ _=>rfl))) (@bY _ _ _ _ _ _ _ _ _ _ _ _ (@eG _ _ _ _ _ _ _ _ _ _ _ _ (aB 5) aE) (aB 1)) (by rfl) (by rfl) (by trivial) (by decide) (by decide) (by intro _;rfl) (by rfl) (by rfl) (by rfl))) cJ) (@aI _ _ _ _ _ _ _ _ _ (@cI _ _ _ _ _ _ _ _ _ _ _ _ (@fQ _ _ _ _ _ _ _ _ _ _ _ _ hu (@bY _ _ _ _ _ _ _ _ _ _ _ _ (aB 5) aE) aE) (@aI _ _ _ _ _ _ _ _ _ (@aQ _ _ _ _ _ _ _ _ _ _ _ _ 6 (@GE.sc _ _ _ _ _ _ _ (@aY _ _ _ _ _ _ _ _ _ _ _ _ (@eX _ _ _ _ _ _ _ (aD aE (aD (@hX _ _ _ _ _ _ _ _ _ _ _ _ aE aE) aG))) (@bY _ _ _ _ _ _ _ _ _ _ _ _ (@eG _ _ _ _ _ _ _ _ _ _ _ _ (aB 5) aE) aE) (by exact fun _ _=>rfl))) fZ.nd (by rfl) (Or.inl (by rfl)) (by rfl) (by rfl) (by trivial)) (@aI _ _ _ _ _ _ _ _ _ (@hZ _ _ _ _ _ _ _ _ _ _ _ 4 _ _ _ _ _ _ (@cB _ _ _ _ _ _ _ _ _ _ _ _ (@aY _ _ _ _ _ _ _ _ _ _ _ _ (aB 4) aE (by exact fun _ _=>rfl)) (aB 6)) aE (by rfl) (by rfl) (by trivial) (by decide) (by decide) (by intro _;rfl) (by rfl) (by rfl) (by rfl)) (@aK _ _ _ _ _ _ _ (@hZ _ _ _ _ _ _ _ _ _ _ _ 4 _ _ _ _ _ _ (@dS _ _ _ _ _ _ _ _ _ _ _ _ (@aY _ _ _ _ _ _ _ _ _ _ _ _ (aB 4) (@jR _ _ _ _ _ _ _ _ aE) (by exact fun _ _=>rfl)) (aB 6)) (@jR _ _ _ _ _ _ _ _ aE) (by rfl) (by rfl) (by trivial) (by decide) (by decide) (by intro _;rfl) (by rfl) (by rfl) (by rfl))))) cJ) (@aI _ _ _ _ _ _ _ _ _ (@aQ _ _ _ _ _ _ _ _ _ _ _ _ 7 gN fZ.nd (by rfl) (Or.inl (by rfl)) (by rfl) (by rfl) (by trivial)) (@aI _ _ _ _ _ _ _ _ _ (@cI _ _ _ _ _ _ _ _ _ _ _ _ (@qF _ _ _ _ _ _ (@gP _ _ _ _ _ _ _ (aU aG4 (hr.mono (by decide)) (by rfl) (aD (aB 2) (aD (aB 4) aG))) (by intro _;rfl))) (@aK _ _ _ _ _ _ _ (@aQ _ _ _ _ _ _ _ _ _ _ _ _ 7 gN fZ.nd (by rfl) (Or.inl (by rfl)) (by rfl) (by rfl) (by trivial))) cJ) (@aI _ _ _ _ _ _ _ _ _ (@cI _ _ _ _ _ _ _ _ _ _ _ _ (@qF _ _ _ _ _ _ (@gP _ _ _ _ _ _ _ (aU aFv (hr.mono (by decide)) (by rfl) (aD (aB 2) (aD (aB 1) aG))) (by intro _;rfl))) (@aK _ _ _ _ _ _ _ (@aQ _ _ _ _ _ _ _ _ _ _ _ _ 7 gN fZ.nd (by rfl) (Or.inl (by rfl)) (by rfl) (by rfl) (by trivial))) cJ) (@aI _ _ _ _ _ _ _ _ _ (@aQ _ _ _ _ _ _ _ _ _ _ _ _ 8 (@eX _ _ _ _ _ _ _ (aD (@GE.flt _ _ _ _ _ _ (FT (by rfl) (by rfl) aG3 (aD (aB 2) aG))) (aD (@GE.flt _ _ _ _ _ _ (FT (by rfl) (by rfl) aG3 (aD (aB 4) aG))) aG))) fZ.nd (by rfl) (Or.inl (by rfl)) (by rfl) (by rfl) (by trivial)) (@aK _ _ _ _ _ _ _ (@bA _ _ _ _ _ _ _ _ (@bC _ _ _ _ _ _ _ _ _ (@GE.sc _ _ _ _ _ _ _ (@zV _ _ _ _ _ _ _ _ _ _ _ _ _ (@qA _ _ _ _ _ _ _ _ _ _ _ _ hu (FP aG6 hP (hr.mono (by decide)) (by rfl) (aD (@aY _ _ _ _ _ _ _ _ _ _ _ _ (aB 8) aE (by exact fun _ _=>rfl)) (aD (@aY _ _ _ _ _ _ _ _ _ _ _ _ (aB 8) aE (by exact fun _ _=>rfl)) aG))) (aB 7)) (@vW _ _ _ _ _ _ _ _ _ (@qA _ _ _ _ _ _ _ _ _ _ _ _ hu (aB 8) (@eX _ _ _ _ _ _ _ (aD (aB 2) (aD (aB 4) aG))))))) (by rfl))))))))))))))
theorem ZX {fd:FuncData}(aFw:Cal P w K mg base "_law_hands" 2 ["script"] kL false 3) (aFl:Cal P w K mg base "_law_falling" 3 ["script","hands"] kJ true 3) (aF6:Cal P w K mg base "_law_cell" 1 ["script","k"] bW false 3) (aFu:Cal P w K mg base "_law_drawn" 1 ["cell","hands"] kI true 3) (aGj:Cal P w K mg base "_law_by" 1 ["table","order"] kH true 3) (aG4:Cal P w K mg base "_law_base" 3 ["table","shares"] kG false 3) (aFv:Cal P w K mg base "_law_falls" 1 ["table","hands"] kK false 3) (aG6:CalP P w K mg base Pt cV "_law_word" 8 ["table","shares"] kP false 3) (aF5:mg "len" = none) (aG3:mg "list" = none) (Fu:Fun K "law" "law" gX f fd):
  FnOk P w K mg base CX0 9 f fd ["script"] (spP Pt cV (spT K pR false 3)):=
 FV Fu fZ rfl (by decide) (fun ts t h=>bH h) (fun cdv A outer s H E hP hr=>RZ aFw aFl aF6 aFu aGj aG4 aFv aG6 aF5 aG3 cdv A outer s H E hP hr) (fun ts t h=>bI h)
end My
namespace My
open PySem PySem.Spec PyProof.Rows L2 G
def rT (row:List Int) (g:Nat):Int:=(((List.range row.length).filter fun k=>g / 2^k%2 == 1).map fun k=>row.getD k 0).sum
def dA (ns:List Int) (k:Nat):Int:=ns.getD k 0
theorem rA (ns:List Int) (k:Nat):bW [.lst (tI ns),.int (k:Int)]=some (.int (dA ns k)):=by
 rw[MG];unfold sY dA
 by_cases h:k<ns.length
 ·simp[h,cA h]
 ·simp[h,aHb,List.getElem?_eq_none (Nat.le_of_not_lt h)]
theorem CV (ns:List Int):bW [.lst (tI ns),.int 0]=some (.int (dA ns 0)):=rA ns 0
theorem AB (row:List Int) (g:Nat):rT row g=gv row g:=GV row g _
theorem cC {n:Nat}(h:n<=6):2^n<=64:=aJg (aJq (by decide) h) (by decide:2^6<=64)
theorem mJ {a b n:Nat}(h:a<2^n):a&&&b<2^n:=aJi Nat.and_le_left h
def Bd (b:Nat) (t:List Int):Prop:=∀ x∈t,x.natAbs<=b
theorem Bd.le {b c:Nat}{t:List Int}(h:Bd b t) (hc:b<=c):Bd c t:=fun x hx=>aJg (h x hx) hc
theorem vZ {l:List Int}{i:Nat}(h:i<l.length):l.getD i 0∈l:=by
 rw[aHb,aHc h];exact List.getElem_mem h
theorem Bd.get {b:Nat}{t:List Int}(h:Bd b t) (i:Nat):(t.getD i 0).natAbs<=b:=by
 by_cases hi:i<t.length
 ·exact h _ (vZ hi)
 ·rw[aHb,List.getElem?_eq_none (Nat.le_of_not_lt hi)];exact aJx _
theorem Bd.of {b:Nat}{t:List Int}(h:∀ i,i<t.length->(t.getD i 0).natAbs<=b):Bd b t:=fun x hx=>by
 obtain⟨i,hi,rfl⟩:=List.mem_iff_getElem.mp hx;have:=h i hi
 rwa [aHb,aHc hi] at this
theorem FZ {row:List Int}{b:Nat}(hb:Bd b row) (h6:row.length<=6) (g:Nat):(rT row g).natAbs<=6*b:=by
 unfold rT;have key:∀ l:List Nat,((l.map fun k=>row.getD k 0).sum).natAbs<=l.length*b:=by
  intro l
  induction l with
  | nil=>simp
  | cons a r ih=>
   rw[aIy,List.sum_cons,aIp,Nat.add_mul,Nat.one_mul];have:=hb.get a;generalize (r.map fun k=>row.getD k 0).sum=s at ih;lia
 have h:=key ((List.range row.length).filter fun k=>g / 2^k%2 == 1);have hl:=aIq (fun k=>g / 2^k%2 == 1) (List.range row.length);rw[aIt] at hl;exact aJg h (Nat.mul_le_mul_right _ (aJg hl h6))
structure Fal (n b:Nat) (t:List Int):Prop where
 len:t.length=2^n
 zero:t.getD 0 0=0
 bd:Bd b t
 sub:Sub n t
theorem Fal.le {n b c:Nat}{t:List Int}(h:Fal n b t) (k:b<=c):Fal n c t:=⟨h.len,h.zero,h.bd.le k,h.sub⟩
theorem sB (t:List Int) (q:Int) (i:Nat):(t.map (· * q)).getD i 0=t.getD i 0*q:=by
 rw[aHb,aHb,aIl];cases t[i]?<;>simp
theorem aDd {n:Nat}{q:Int}(hq:0<=q) {t:List Int}(h:Sub n t):Sub n (t.map (· * q)):=fun a b ha hb=>by
 rw[sB,sB,sB,sB,<- Int.add_mul,<- Int.add_mul];exact aI3 (h a b ha hb) hq
theorem pW (g:Nat):aM g<=6:=by unfold aM;lia
theorem XG:(List.range 64).all (fun k=>yE (fJ [.int (k:Int)]) (some (.int (aM k:Int))))=true:=by decide +kernel
theorem yR {g:Nat}(h:g<64):fJ [.int (g:Int)]=some (.int (aM g:Int)):=CC (aHg.mp XG g (aHh.mpr h))
theorem aD6 (k:Nat):sq k<=36:=by
 have:=pW k;unfold sq;exact Nat.mul_le_mul this this
theorem cY {t:List Int}{j:Nat}(hj:j<t.length) (v:Int) (i:Nat):(t.set j v).getD i 0=if i=j then v else t.getD i 0:=by
 by_cases h:i=j
 ·subst h
  rw[aHb,aIn hj,if_pos rfl];rfl
 ·rw[aHb,aHk (Ne.symm h),<- List.getD_eq_getElem?_getD,if_neg h]
theorem aDp (t:List Int) (x:Int):tI t++[T.int x]=tI (t++[x]):=by rw[aDo];rfl
theorem aEc:(List.range 10).all (fun k=>match atI (tI [1,2,3,4,3,2,4,5,3,6]) (k:Int) with | some (.int i)=>decide (1<=i)&&decide (i<=6) | _=>false)=true:=by decide +kernel
theorem NN (ns:List Int):∃ n:Nat,1<=n/\n<=6/\kL [.lst (tI ns)]=some (.int (n:Int)):=by
 have c0:0<=dA ns 0%10:=aHy _ (by decide);have c1:dA ns 0%10<10:=aHx _ (by decide);have m:aS (.int (dA ns 0)) (.int 10)=some (.int ((dA ns 0%10).toNat:Int)):=by rw[cK (by decide),Int.toNat_of_nonneg c0]
 have hk:(dA ns 0%10).toNat<10:=by lia
 generalize (dA ns 0%10).toNat=k at m hk;have a:=aHg.mp aEc k (aHh.mpr hk);cases h:atI (tI [1,2,3,4,3,2,4,5,3,6]) (k:Int) with
 | none=>rw[h] at a;cases a
 | some t=>
  rw[h] at a;cases t<;>first | (cases a;done) | skip
  rename_i i;simp only[aHn,decide_eq_true_eq] at a;refine⟨i.toNat,by lia,by lia,?_⟩;rw[ML];unfold tO;simp only[rRet_at,f1_at,f2_at,fC_at,fVar_at,fCall_at,aCons_at,aNil_at,zz0,jn,zz2,CV,m,oIx_lst,h,gScal_int,zz3,outT_rt]
  congr 2
  lia
theorem OI (ns:List Int) (hn:ns.length<=63) {n:Nat}(h1:1<=n) (h6:n<=6):∃ sl,kM [.lst (tI ns),.int (n:Int)]=some (.lst (tI sl))/\sl.length=2^n-1:=by
 have h64:=cC h6;have hs2:2<=2^n:=aJg (by decide:2<=2^1) (aJq (by decide) h1);have sh:=jH (b:=n) (by lia);have es:((2^n:Nat):Int)-1=((2^n-1:Nat):Int):=by lia
 have hr:=gR (2^n-1) (by lia);have r2:gT [.int 1,.int (ns.length:Int)]=some (G.rangeT 1 (ns.length-1)):=by
  rw[BA (by decide) (by lia)]
  congr 2
  lia
 obtain⟨P0,hP0⟩:∃ P0:Int,P0=10^59:=⟨_,rfl⟩;have p59:cN (.int 10) (.int 59)=some (.int P0):=by rw[hP0];exact qP 10 59 (by decide +kernel)
 have mP:∀ i:Int,aS (.int i) (.int P0)=some (.int (i%P0)):=fun i=>cK (by rw[hP0];decide);have mS:∀ i:Int,aS (.int i) (.int ((2^n-1:Nat):Int))=some (.int (i%((2^n-1:Nat):Int))):=fun i=>cK (by lia);have m9:∀ i:Int,aS (.int i) (.int 1009)=some (.int (i%1009)):=fun i=>cK (by decide);have k3:∀ i:Int,bN (.int i) (.int 1000003)=some (.int (i*1000003)):=fun i=>sI (by decide);have k4:∀ i:Int,bN (.int i) (.int 48271)=some (.int (i*48271)):=fun i=>sI (by decide);have k7:∀ i:Int,bN (.int 7) (.int i)=some (.int (7*i)):=fun i=>AZ (by decide);have e1:bQ bJ xR [none] (G.rangeT 0 (2^n-1))=some (tI ((List.range (2^n-1)).map fun (k:Nat)=>((k:Int)*(k:Int)*48271+7*(k:Int))%1009)):=EE _ fun k hk=>by
  have kk:bN (.int (k:Int)) (.int (k:Int))=some (.int ((k:Int)*(k:Int))):=AZ (by lia);unfold xR;simp only[f2_at,fVar_at,fC_at,List.set,zz0,jn,zz2,kk,k4,k7,oAdd_int,m9]
 have hl0:((List.range (2^n-1)).map fun (k:Nat)=>((k:Int)*(k:Int)*48271+7*(k:Int))%1009).length=2^n-1:=by simp
 generalize ((List.range (2^n-1)).map fun (k:Nat)=>((k:Int)*(k:Int)*48271+7*(k:Int))%1009)=s0 at e1 hl0;obtain⟨ρ',hloop,sl,x4,x5,rfl,q⟩:=vT (j:=4) (body:=xQ) (fun i ρ=>∃ sl x4 x5,ρ=[some (.lst (tI ns)),some (.int (n:Int)),some (.int ((2^n-1:Nat):Int)),some (.lst (tI sl)),x4,x5]/\sl.length=2^n-1) (G.rangeT 1 (ns.length-1)) (fun i hi ρ hρ=>by
   obtain⟨sl,x4,x5,rfl,q⟩:=hρ;have hi':i<ns.length-1:=by rw[mY] at hi;exact hi
   rw[BQ];have a1:atI (tI ns) (1+(i:Int))=some (.int (ns.getD (1+(i:Int)).toNat 0)):=rG (by lia) (by lia);generalize ns.getD (1+(i:Int)).toNat 0=c at a1;have p0:0<=(1+(i:Int)-1)%((2^n-1:Nat):Int):=aHy _ (by lia);have p1:(1+(i:Int)-1)%((2^n-1:Nat):Int)<((2^n-1:Nat):Int):=aHx _ (by lia);have mo:=mS (1+(i:Int)-1);generalize (1+(i:Int)-1)%((2^n-1:Nat):Int)=at' at p0 p1 mo;have a2:atI (tI sl) at'=some (.int (sl.getD at'.toNat 0)):=rG (by lia) (by lia);have ix:ixN sl.length at'=some at'.toNat:=jV (by lia) (by lia);generalize sl.getD at'.toNat 0=g at a2;refine⟨[some (.lst (tI ns)),some (.int (n:Int)),some (.int ((2^n-1:Nat):Int)),some (.lst (tI (sl.set at'.toNat ((g*1000003+c)%P0)))),some (.int (1+(i:Int))),some (.int at')],.inl ?_,_,_,_,rfl,by simpa using q⟩;unfold xQ;simp only[rSeq_at,rSet_at,rPut_at,f2_at,fVar_at,fC_at,List.set,zz0,zz1,jn,zz2,zz3,oSub_int,mo,oIx_lst,a2,k3,a1,oAdd_int,p59,mP,tI_length,ix,jL])
  [some (.lst (tI ns)),some (.int (n:Int)),some (.int ((2^n-1:Nat):Int)),some (.lst (tI s0)),none,none] ⟨_,_,_,rfl,hl0⟩
 refine⟨sl,?_,q⟩;have hc:s0.length<=cap:=by rw[hl0];unfold cap;lia
 rw[MN];unfold tR;simp only[rSeq_at,rSet_at,rSetM_at,rFor_at,rRet_at,fMut_at,f2_at,fVar_at,fC_at,fCall_at,fComp_at,fRange_at,aCons_at,aNil_at,List.set,zz0,zz1,jn,zz2,zz3,sh,oSub_int,es,hr,bV,aJ0,aIy,aJz,e1,tI_length,hc,if_true,okM_lst,oLen_lst,r2,hloop,flat_tI',outT_rt]
theorem DC {n:Nat}(h1:1<=n) (h6:n<=6) {sl:List Int}(hsl:sl.length=2^n-1) {P:Int}(hP1:0<P) (hP2:P<=10^58):∃ t,jN [.lst (tI sl),.int (n:Int),.int P]=some (.lst (tI t))/\Fal n (10^62) t:=by
 have h64:=cC h6;have hs2:2<=2^n:=aJg (by decide:2<=2^1) (aJq (by decide) h1);have sh:=jH (b:=n) (by lia);have r2:gT [.int 1,.int ((2^n:Nat):Int)]=some (G.rangeT 1 (2^n-1)):=by
  rw[BA (by decide) (by lia)]
  congr 2
  lia
 have d7:∀ i:Int,bK (.int i) (.int 7)=some (.int (i / 7)):=fun i=>fV (by decide) (by decide);have mP:∀ i:Int,aS (.int i) (.int P)=some (.int (i%P)):=fun i=>cK hP1;obtain⟨ρ',hloop,t,x4,x5,x6,rfl,w1,w2,w3⟩:=vT (j:=4) (body:=xP) (fun i ρ=>∃ t x4 x5 x6,ρ=[some (.lst (tI sl)),some (.int (n:Int)),some (.int P),some (.lst (tI t)),x4,x5,x6]/\t.length=1+i/\t.getD 0 0=0/\∀ k,k<1+i->∃ e:Int,0<=e/\e<P/\t.getD k 0=e-P*((sq k:Nat):Int)) (G.rangeT 1 (2^n-1)) (fun i hi ρ hρ=>by
   obtain⟨t,x4,x5,x6,rfl,w1,w2,w3⟩:=hρ;have hi':i<2^n-1:=by rw[mY] at hi;exact hi
   rw[BQ];have a1:atI (tI sl) (1+(i:Int)-1)=some (.int (sl.getD (1+(i:Int)-1).toNat 0)):=rG (by lia) (by lia);rw[show 1+(i:Int)=((1+i:Nat):Int) by lia] at a1 ⊢;rw[show 1+(i+1)=(1+i)+1 by lia];have hq:1+i<2^n:=by lia
   have hq0:1<=1+i:=by lia
   generalize 1+i=q at *;have fm:=yR (g:=q) (by lia);have hc6:=pW q;have k1:bN (.int P) (.int (aM q:Int))=some (.int (P*(aM q:Int))):=sI (by lia);have k2:bN (.int (P*(aM q:Int))) (.int (aM q:Int))=some (.int (P*(aM q:Int)*(aM q:Int))):=sI (by lia);have hzz:P*(aM q:Int)*(aM q:Int)=P*((sq q:Nat):Int):=by
    unfold sq;rw[Int.natCast_mul,Int.mul_assoc]
   generalize sl.getD ((q:Int)-1).toNat 0=g at a1;have c0:0<=g / 7%P:=aHy _ (by lia);have c1:g / 7%P<P:=aHx _ hP1;have mg:=mP (g / 7);generalize g / 7%P=e at c0 c1 mg;have hcap:t.length<cap:=by unfold cap;lia
   refine⟨[some (.lst (tI sl)),some (.int (n:Int)),some (.int P),some (.lst (tI (t++[e-P*(aM q:Int)*(aM q:Int)]))),some (.int (q:Int)),some (.int (aM q:Int)),some (.int e)],.inl ?_,_,_,_,_,rfl,by simp[w1],?_,fun k hk=>?_⟩
   ·unfold xP
    simp only[rSeq_at,rSet_at,rApp_at,f1_at,f2_at,fVar_at,fC_at,fCall_at,aCons_at,aNil_at,List.set,zz0,zz1,jn,zz2,zz3,fm,gScal_int,oSub_int,oIx_lst,a1,d7,mg,k1,k2,tI_length,hcap,if_true,aDp]
   ·rw[aHb,List.getElem?_append_left (by lia),<- List.getD_eq_getElem?_getD];exact w2
   ·by_cases hkq:k=q
    ·subst hkq
     rw[aHb,List.getElem?_append_right (by lia),w1];exact⟨e,c0,c1,by simp[hzz]⟩
    ·rw[aHb,List.getElem?_append_left (by lia),<- List.getD_eq_getElem?_getD]
     exact w3 k (by lia))
  [some (.lst (tI sl)),some (.int (n:Int)),some (.int P),some (.lst (tI [0])),none,none,none] ⟨[0],_,_,_,rfl,rfl,rfl,fun k hk=>by
   have:k=0:=by lia
   subst this;exact⟨0,Int.le_refl _,hP1,by simp[sq,aM]⟩⟩
 rw[mY] at w1 w3;refine⟨t,?_,by lia,w2,Bd.of fun i hi=>?_,YB h6 hP1 fun k hk=>w3 k (by lia)⟩
 ·rw[MM]
  unfold tQ;simp only[rSeq_at,rSetM_at,rFor_at,rRet_at,fMut_at,f2_at,fVar_at,fC_at,fRange_at,aCons_at,aNil_at,List.set,zz0,zz1,jn,zz2,zz3,okM_lst,if_true,sh,r2,hloop,flat_tI',outT_rt]
 ·obtain⟨e,z0,z1,z2⟩:=w3 i (by lia)
  rw[z2];have h36:=aD6 i;have hb:(P*((sq i:Nat):Int)).natAbs<=10^58*36:=by
   rw[Int.natAbs_mul];exact Nat.mul_le_mul (by lia) (by lia)
  generalize P*((sq i:Nat):Int)=z at hb;lia
theorem aEe {n:Nat}(h6:n<=6) {tab:List Int}(hl:tab.length=2^n) (r0 r1 r2 r5 r8 r9 r10 r11:Option T) {part:Nat}{most weight:Int}(hm0:1<=most):
  ∃ tab' x8 x9,bR 8 tU (G.rangeT 0 (2^n)) [r0,r1,r2,some (.lst (tI tab)),some (.int (part:Int)),r5,some (.int most),some (.int weight),r8,r9,r10,r11]=some (.nx [r0,r1,r2,some (.lst (tI tab')),some (.int (part:Int)),r5,some (.int most),some (.int weight),x8,x9,r10,r11])/\tab'.length=2^n/\∀ i,i<2^n->tab'.getD i 0=tab.getD i 0+weight*mn (aM (i&&&part)) most:=by
 have h64:=cC h6;obtain⟨ρ',hloop,tab',x8,x9,rfl,q1,q2⟩:=rO (j:=8) (n:=2^n) (body:=tU) (fun j ρ=>∃ tab' x8 x9,ρ=[r0,r1,r2,some (.lst (tI tab')),some (.int (part:Int)),r5,some (.int most),some (.int weight),x8,x9,r10,r11]/\tab'.length=2^n/\∀ i:Nat,tab'.getD i 0=if i<j then tab.getD i 0+weight*mn (aM (i&&&part)) most else tab.getD i 0) (fun j hj ρ hρ=>by
   obtain⟨tab',x8,x9,rfl,q1,q2⟩:=hρ;have hand:j&&&part<64:=aHi (mJ hj) h64;have fh:=yR hand;have hc6:=pW (j&&&part);have ep:atI (tI tab') (j:Int)=some (.int (tab'.getD j 0)):=cA (by lia);have hx:=q2 j;rw[if_neg (aJh j)] at hx;rw[hx] at ep;have ix:ixN tab'.length (j:Int)=some j:=by rw[jV (by lia) (by lia)];simp
   have hmu:AY [.int most,.int (aM (j&&&part):Int)]=some (.int (mn (aM (j&&&part)) most)):=by
    show some (T.int (if ((aM (j&&&part):Nat):Int)<most then ((aM (j&&&part):Nat):Int) else most))=_;unfold mn
    congr 2
    split<;>split<;>lia
   have hb:0<=mn (aM (j&&&part)) most/\mn (aM (j&&&part)) most<=6:=by
    unfold mn
    split<;>lia
   have mu:bN (.int weight) (.int (mn (aM (j&&&part)) most))=some (.int (weight*mn (aM (j&&&part)) most)):=sI (by lia);refine⟨[r0,r1,r2,some (.lst (tI (tab'.set j (tab.getD j 0+weight*mn (aM (j&&&part)) most)))),some (.int (part:Int)),r5,some (.int most),some (.int weight),some (.int (j:Int)),some (.int (mn (aM (j&&&part)) most)),r10,r11],?_,_,_,_,rfl,by simpa using q1,fun i=>?_⟩
   ·generalize mn (aM (j&&&part)) most=much at hmu mu
    generalize tab.getD j 0=g at ep;unfold tU;simp only[rSeq_at,rSet_at,rPut_at,f2_at,fVar_at,fCall_at,aCons_at,aNil_at,List.set,zz0,zz1,jn,zz2,zz3,oAnd_int,rJ,fh,tI_length,hmu,oIx_lst,ep,mu,oAdd_int,ix,jL]
   ·rw[cY (by lia),q2 i]
    by_cases hij:i=j
    ·subst hij
     rw[if_pos rfl,if_pos (aJk _)]
    ·rw[if_neg hij]
     by_cases h:i<j
     ·rw[if_pos h,if_pos (by lia)]
     ·rw[if_neg h,if_neg (by lia)])
  [r0,r1,r2,some (.lst (tI tab)),some (.int (part:Int)),r5,some (.int most),some (.int weight),r8,r9,r10,r11] ⟨tab,r8,r9,rfl,hl,fun i=>by rw[if_neg (Nat.not_lt_zero _)]⟩
 refine⟨tab',x8,x9,hloop,q1,fun i hi=>?_⟩;rw[q2 i,if_pos hi]
theorem aEd {n:Nat}(h6:n<=6) {b:Nat}{tab tab':List Int}{part:Nat}{most weight:Int}(hm0:1<=most) (hw0:0<=weight) (hw:weight<10^50) (h:Fal n b tab) (hl':tab'.length=2^n)
  (he:∀ i,i<2^n->tab'.getD i 0=tab.getD i 0+weight*mn (aM (i&&&part)) most):Fal n (b+6*10^50) tab':=by
 have h64:=cC h6;have hp:0<2^n:=aJs (by decide);refine⟨hl',?_,Bd.of fun i hi=>?_,fun x y hx hy=>?_⟩
 ·rw[he 0 hp,h.zero,Nat.zero_and]
  have:mn (aM 0) most=0:=by unfold mn;rw[if_neg (by simp[aM];lia)];rfl
  rw[this];simp
 ·rw[he i (by lia)]
  have h1:=h.bd.get i;have hc6:=pW (i&&&part);have hb:0<=mn (aM (i&&&part)) most/\mn (aM (i&&&part)) most<=6:=by
   unfold mn
   split<;>lia
  generalize mn (aM (i&&&part)) most=much at hb;have hwm:(weight*much).natAbs<=6*10^50:=by
   rw[Int.natAbs_mul,Nat.mul_comm];exact Nat.mul_le_mul (by lia) (by lia)
  generalize weight*much=z at hwm;lia
 ·rw[he _ (aJp hx hy),he _ (mJ hx),he _ hx,he _ hy]
  have s:=h.sub x y hx hy;have m:=XQ (a:=x) (b:=y) (p:=part) (m:=most) (by lia) (by lia);have m':=aI2 m hw0;rw[aI1,aI1] at m';lia
theorem PY:(List.range 64).all (fun g=>g == 0||decide (1<=aM g))=true:=by decide +kernel
theorem aEf {n:Nat}(h6:n<=6) {sl row:List Int}(hsl:n<=sl.length) (hrow:row.length=n) {P:Int}(hP:P.natAbs<=10^50) (hr:∀ k,k<n->row.getD k 0=(sl.getD k 0 / 3%7-3)*P / 2) {tab:List Int}(hl:tab.length=2^n) (r4 r5 r6 r7 r8 r9 r10 r11:Option T):
  ∃ tab' x8 x10 x11,bR 8 tW (G.rangeT 0 (2^n)) [some (.lst (tI sl)),some (.int (n:Int)),some (.int P),some (.lst (tI tab)),r4,r5,r6,r7,r8,r9,r10,r11]=some (.nx [some (.lst (tI sl)),some (.int (n:Int)),some (.int P),some (.lst (tI tab')),r4,r5,r6,r7,x8,r9,x10,x11])/\tab'.length=2^n/\∀ i,i<2^n->tab'.getD i 0=tab.getD i 0+gv row i:=by
 have h64:=cC h6;have hrn:=gR n (by lia);have d3:∀ i:Int,bK (.int i) (.int 3)=some (.int (i / 3)):=fun i=>fV (by decide) (by decide);have d2:∀ i:Int,bK (.int i) (.int 2)=some (.int (i / 2)):=fun i=>fV (by decide) (by decide);have m7:∀ i:Int,aS (.int i) (.int 7)=some (.int (i%7)):=fun i=>cK (by decide);obtain⟨ρ',hloop,tab',x8,x10,x11,rfl,q1,q2⟩:=rO (j:=8) (n:=2^n) (body:=tW) (fun j ρ=>∃ tab' x8 x10 x11,ρ=[some (.lst (tI sl)),some (.int (n:Int)),some (.int P),some (.lst (tI tab')),r4,r5,r6,r7,x8,r9,x10,x11]/\tab'.length=2^n/\∀ i:Nat,tab'.getD i 0=if i<j then tab.getD i 0+gv row i else tab.getD i 0) (fun j hj ρ hρ=>by
   obtain⟨tab',x8,x10,x11,rfl,q1,q2⟩:=hρ;obtain⟨ρ2,hin,tab2,y10,y11,rfl,p1,p2⟩:=rO (j:=10) (n:=n) (body:=tV) (fun k ρ=>∃ tab2 y10 y11,ρ=[some (.lst (tI sl)),some (.int (n:Int)),some (.int P),some (.lst (tI tab2)),r4,r5,r6,r7,some (.int (j:Int)),r9,y10,y11]/\tab2.length=2^n/\∀ i:Nat,tab2.getD i 0=if i=j then tab'.getD i 0+gvS row (List.range k) j else tab'.getD i 0) (fun k hk ρ hρ=>by
     obtain⟨tab2,y10,y11,rfl,p1,p2⟩:=hρ;rw[List.range_succ,AG];have hb:=zB j k;have a1:atI (tI sl) (k:Int)=some (.int (sl.getD k 0)):=cA (by lia);have ep:atI (tI tab2) (j:Int)=some (.int (tab2.getD j 0)):=cA (by lia);have ix:ixN tab2.length (j:Int)=some j:=by rw[jV (by lia) (by lia)];simp
     cases hc:j.testBit k with
     | true=>
      rw[hc] at hb;have hrk:=hr k hk;have z0:=aHy (sl.getD k 0 / 3) (show (7:Int)≠0 by decide);have z1:=aHx (sl.getD k 0 / 3) (show (0:Int)<7 by decide);have mo:=m7 (sl.getD k 0 / 3);generalize sl.getD k 0 / 3%7=w at z0 z1 hrk mo;have mu:bN (.int (w-3)) (.int P)=some (.int ((w-3)*P)):=AZ (by lia);refine⟨[some (.lst (tI sl)),some (.int (n:Int)),some (.int P),some (.lst (tI (tab2.set j (tab2.getD j 0+(w-3)*P / 2)))),r4,r5,r6,r7,some (.int (j:Int)),r9,some (.int (k:Int)),some (.int (w-3))],?_,_,_,_,rfl,by simpa using p1,fun i=>?_⟩
      ·generalize tab2.getD j 0=g at ep
       unfold tV;simp only[rIf_at,rSeq_at,rSet_at,rPut_at,fB_at,f2_at,fVar_at,fC_at,List.set,zz0,zz1,jn,zz2,zz3,sJ,oAnd_int,rK,oEq_int,hb,isB_bl,if_true,oIx_lst,a1,d3,mo,oSub_int,ep,mu,d2,oAdd_int,tI_length,ix,jL]
      ·rw[cY (by lia),p2 j,if_pos rfl,p2 i]
       by_cases hij:i=j
       ·subst hij;rw[if_pos rfl,if_pos rfl,if_pos rfl,hrk];lia
       ·rw[if_neg hij,if_neg hij,if_neg hij]
     | false=>
      rw[hc] at hb;refine⟨[some (.lst (tI sl)),some (.int (n:Int)),some (.int P),some (.lst (tI tab2)),r4,r5,r6,r7,some (.int (j:Int)),r9,some (.int (k:Int)),y11],?_,_,_,_,rfl,p1,fun i=>?_⟩
      ·unfold tV
       simp only[rIf_at,rNext_at,fB_at,f2_at,fVar_at,fC_at,List.set,zz0,zz1,jn,zz2,zz3,sJ,oAnd_int,rK,oEq_int,hb,isB_bl,aHq,if_false]
      ·rw[p2 i];simp only[aHq,if_false,Int.add_zero])
    [some (.lst (tI sl)),some (.int (n:Int)),some (.int P),some (.lst (tI tab')),r4,r5,r6,r7,some (.int (j:Int)),r9,x10,x11] ⟨tab',x10,x11,rfl,q1,fun i=>by split<;>simp[gvS]⟩
   refine⟨_,?_,tab2,some (.int (j:Int)),y10,y11,rfl,p1,fun i=>?_⟩
   ·unfold tW
    simp only[rFor_at,fRange_at,fVar_at,aCons_at,aNil_at,List.set,zz0,zz1,jn,zz2,zz3,hrn,hin]
   ·rw[p2 i,q2 i,<- hrow]
    by_cases hij:i=j
    ·subst hij
     rw[if_pos rfl,if_neg (aJh _),if_pos (aJk _)];rfl
    ·rw[if_neg hij]
     by_cases h:i<j
     ·rw[if_pos h,if_pos (by lia)]
     ·rw[if_neg h,if_neg (by lia)])
  [some (.lst (tI sl)),some (.int (n:Int)),some (.int P),some (.lst (tI tab)),r4,r5,r6,r7,r8,r9,r10,r11] ⟨tab,r8,r10,r11,rfl,hl,fun i=>by rw[if_neg (Nat.not_lt_zero _)]⟩
 refine⟨tab',x8,x10,x11,hloop,q1,fun i hi=>?_⟩;rw[q2 i,if_pos hi]
theorem OJ {n:Nat}(h1:1<=n) (h6:n<=6) {sl:List Int}(hsl:sl.length=2^n-1) {P:Int}(hP1:0<P) (hP2:P<=10^50):∃ t,kN [.lst (tI sl),.int (n:Int),.int P]=some (.lst (tI t))/\Fal n (10^62) t:=by
 have h64:=cC h6;have hs2:2<=2^n:=aJg (by decide:2<=2^1) (aJq (by decide) h1);have hns:n<=2^n-1:=by
  have:n<2^n:=Nat.lt_two_pow_self;lia
 have sh:=jH (b:=n) (by lia);have hr:=gR (2^n) (by lia);have r2:gT [.int 1,.int ((2^n:Nat):Int)]=some (G.rangeT 1 (2^n-1)):=by
  rw[BA (by decide) (by lia)]
  congr 2
  lia
 have d5:∀ i:Int,bK (.int i) (.int 5)=some (.int (i / 5)):=fun i=>fV (by decide) (by decide);have d55:∀ i:Int,bK (.int i) (.int 55)=some (.int (i / 55)):=fun i=>fV (by decide) (by decide);have m11:∀ i:Int,aS (.int i) (.int 11)=some (.int (i%11)):=fun i=>cK (by decide);have m5:∀ i:Int,aS (.int i) (.int 5)=some (.int (i%5)):=fun i=>cK (by decide);have mP:∀ i:Int,aS (.int i) (.int P)=some (.int (i%P)):=fun i=>cK hP1;have e1:bQ bJ BZ [none] (G.rangeT 0 (2^n))=some (tI ((List.range (2^n)).map fun _=>0)):=EE _ fun i _=>rfl;have hl0:((List.range (2^n)).map fun _=>(0:Int)).length=2^n:=by simp
 have hg0:∀ i,((List.range (2^n)).map fun _=>(0:Int)).getD i 0=0:=fun i=>by
  rw[aHb,aIl];cases (List.range (2^n))[i]?<;>rfl
 have hf0:Fal n 0 ((List.range (2^n)).map fun _=>(0:Int)):=⟨hl0,hg0 0,fun x hx=>by obtain⟨_,_,rfl⟩:=aJ7.mp hx;decide,fun a b _ _=>by rw[hg0,hg0,hg0,hg0];decide⟩;generalize ((List.range (2^n)).map fun _=>(0:Int))=t0 at e1 hl0 hf0;obtain⟨ρ',hloop,tab,x4,x5,x6,x7,x8,x9,rfl,qf⟩:=vT (j:=4) (body:=qT) (fun i ρ=>∃ tab x4 x5 x6 x7 x8 x9,ρ=[some (.lst (tI sl)),some (.int (n:Int)),some (.int P),some (.lst (tI tab)),x4,x5,x6,x7,x8,x9,none,none]/\Fal n (i*(6*10^50)) tab) (G.rangeT 1 (2^n-1)) (fun i hi ρ hρ=>by
   obtain⟨tab,x4,x5,x6,x7,x8,x9,rfl,qf⟩:=hρ;have hi':i<2^n-1:=by rw[mY] at hi;exact hi
   rw[BQ];have a1:atI (tI sl) (1+(i:Int)-1)=some (.int (sl.getD (1+(i:Int)-1).toNat 0)):=rG (by lia) (by lia);rw[show 1+(i:Int)=((1+i:Nat):Int) by lia] at a1 ⊢;have hq:1+i<2^n:=by lia
   have hq0:1<=1+i:=by lia
   generalize 1+i=q at a1 hq hq0;have fm:=yR (g:=q) (by lia);have hc6:=pW q;have hc1:1<=aM q:=by
    have:=aHg.mp PY q (aHh.mpr (by lia));simp at this;lia
   generalize sl.getD ((q:Int)-1).toNat 0=slot at a1;have mc:aS (.int (slot / 5%11)) (.int (aM q:Int))=some (.int (slot / 5%11%(aM q:Int))):=cK (by lia);have c0:0<=slot / 5%11%(aM q:Int):=aHy _ (by lia);have w0:0<=slot / 55%P:=aHy _ (by lia);have w1:slot / 55%P<P:=aHx _ hP1;have mw:=mP (slot / 55);generalize slot / 5%11%(aM q:Int)=cp at mc c0;generalize slot / 55%P=weight at mw w0 w1;have hle:i*(6*10^50)<=(i+1)*(6*10^50):=Nat.mul_le_mul_right _ (by lia)
   by_cases hw:weight > 0
   ·by_cases hs:slot%5<3
    ·obtain⟨tab',y8,y9,hin,p1,p2⟩:=aEe h6 qf.len (some (.lst (tI sl))) (some (.int (n:Int))) (some (.int P)) (some (.int slot)) x8 x9 none none (part:=q) (most:=1+cp) (weight:=weight) (by lia)
     refine⟨_,.inl ?_,tab',some (.int (q:Int)),some (.int slot),some (.int (1+cp)),some (.int weight),y8,y9,rfl,by
      have:=aEd h6 (most:=1+cp) (by lia) w0 (by lia) qf p1 p2;rw[Nat.add_mul,Nat.one_mul];exact this⟩
     unfold qT;simp only[rSeq_at,rSet_at,rIf_at,rFor_at,pAnd_at,fB_at,f1_at,f2_at,fVar_at,fC_at,fCall_at,fRange_at,aCons_at,aNil_at,List.set,zz0,zz1,jn,zz2,zz3,oSub_int,oIx_lst,a1,gScal_int,d5,m11,fm,mc,oAdd_int,d55,mw,oGt_int,hw,decide_true,isB_bl,if_true,m5,oLt_int,hs,sh,hr,hin]
    ·refine⟨_,.inl ?_,tab,some (.int (q:Int)),some (.int slot),some (.int (1+cp)),some (.int weight),x8,x9,rfl,qf.le hle⟩
     unfold qT;simp only[rSeq_at,rSet_at,rIf_at,rNext_at,pAnd_at,fB_at,f1_at,f2_at,fVar_at,fC_at,fCall_at,aCons_at,aNil_at,List.set,zz0,zz1,jn,zz2,zz3,oSub_int,oIx_lst,a1,gScal_int,d5,m11,fm,mc,oAdd_int,d55,mw,oGt_int,hw,decide_true,isB_bl,if_true,m5,oLt_int,hs,decide_false,aHq,if_false]
   ·refine⟨_,.inl ?_,tab,some (.int (q:Int)),some (.int slot),some (.int (1+cp)),some (.int weight),x8,x9,rfl,qf.le hle⟩
    unfold qT;simp only[rSeq_at,rSet_at,rIf_at,rNext_at,pAnd_at,fB_at,f1_at,f2_at,fVar_at,fC_at,fCall_at,aCons_at,aNil_at,List.set,zz0,zz1,jn,zz2,zz3,oSub_int,oIx_lst,a1,gScal_int,d5,m11,fm,mc,oAdd_int,d55,mw,oGt_int,hw,decide_false,isB_bl,aHq,if_false])
  [some (.lst (tI sl)),some (.int (n:Int)),some (.int P),some (.lst (tI t0)),none,none,none,none,none,none,none,none] ⟨t0,none,none,none,none,none,none,rfl,hf0.le (by lia)⟩
 rw[mY] at qf;have hrow:((List.range n).map fun k=>(sl.getD k 0 / 3%7-3)*P / 2).length=n:=by simp
 have hrg:∀ k,k<n->((List.range n).map fun k=>(sl.getD k 0 / 3%7-3)*P / 2).getD k 0=(sl.getD k 0 / 3%7-3)*P / 2:=fun k hk=>by
  rw[aHb,aIl,List.getElem?_range hk];rfl
 have hrb:Bd (10^52) ((List.range n).map fun k=>(sl.getD k 0 / 3%7-3)*P / 2):=fun x hx=>by
  obtain⟨k,_,rfl⟩:=aJ7.mp hx;have z0:=aHy (sl.getD k 0 / 3) (show (7:Int)≠0 by decide);have z1:=aHx (sl.getD k 0 / 3) (show (0:Int)<7 by decide);generalize sl.getD k 0 / 3%7=w at z0 z1;have hb:((w-3)*P).natAbs<=3*10^50:=by
   rw[Int.natAbs_mul];exact Nat.mul_le_mul (by lia) (by lia)
  generalize (w-3)*P=z at hb;lia
 generalize ((List.range n).map fun k=>(sl.getD k 0 / 3%7-3)*P / 2)=row at hrow hrg hrb;obtain⟨tab',y8,y10,y11,hloop2,p1,p2⟩:=aEf h6 (sl:=sl) (row:=row) (by lia) hrow (P:=P) (by lia) hrg qf.len x4 x5 x6 x7 x8 x9 none none;have hc:t0.length<=cap:=by rw[hl0];unfold cap;lia
 refine⟨tab',?_,p1,?_,Bd.of fun i hi=>?_,fun a b ha hb=>?_⟩
 ·rw[MO]
  unfold tT;simp only[rSeq_at,rSetM_at,rFor_at,rRet_at,fMut_at,f2_at,fVar_at,fC_at,fComp_at,fRange_at,aCons_at,aNil_at,List.set,zz0,zz1,jn,zz2,zz3,sh,hr,bV,aJ0,aIy,aJz,e1,tI_length,hc,if_true,okM_lst,r2,hloop,hloop2,flat_tI',outT_rt]
 ·rw[p2 0 (by lia),qf.zero,jT];rfl
 ·rw[p2 i (by lia)]
  have q1:=qf.bd.get i;have q2:=FZ hrb (by lia) i;rw[AB] at q2;have q4:∀ B:Nat,(2^n-1)*B<=64*B:=fun B=>Nat.mul_le_mul_right _ (by lia);have q3:=aJg q1 (q4 _)
  clear q1 q4 qf
  lia
 ·rw[p2 _ (aJp ha hb),p2 _ (mJ ha),p2 _ ha,p2 _ hb]
  have s:=qf.sub a b ha hb;have m:=rV row a b;lia
theorem ND (ns:List Int) (hn:ns.length<=63) {n:Nat}(h1:1<=n) (h6:n<=6):∃ t,kJ [.lst (tI ns),.int (n:Int)]=some (.lst (tI t))/\Fal n (10^199) t:=by
 have h64:=cC h6;obtain⟨sl,esl,hsl⟩:=OI ns hn h1 h6;have fc:=CV ns;generalize dA ns 0=c at fc;have d10:∀ i:Int,bK (.int i) (.int 10)=some (.int (i / 10)):=fun i=>fV (by decide) (by decide);have d40:∀ i:Int,bK (.int i) (.int 40)=some (.int (i / 40)):=fun i=>fV (by decide) (by decide);have m4:∀ i:Int,aS (.int i) (.int 4)=some (.int (i%4)):=fun i=>cK (by decide);have m2:∀ i:Int,aS (.int i) (.int 2)=some (.int (i%2)):=fun i=>cK (by decide);have m8:∀ i:Int,aS (.int i) (.int 8)=some (.int (i%8)):=fun i=>cK (by decide);have cc2:(2:Nat)<=cap:=by decide
 obtain⟨A,hA⟩:∃ A:Int,A=10^50:=⟨_,rfl⟩;obtain⟨W,hW⟩:∃ W:Int,W=10^58:=⟨_,rfl⟩;have p50:cN (.int 10) (.int 50)=some (.int A):=by rw[hA];exact qP 10 50 (by decide +kernel)
 have p58:cN (.int 10) (.int 58)=some (.int W):=by rw[hW];exact qP 10 58 (by decide +kernel)
 obtain⟨P,eP,hP1,hP2⟩:∃ P:Int,atI [T.int 4,T.int A] (c / 10%4%2)=some (.int P)/\0<P/\P<=10^50:=by
  rcases (show c / 10%4%2=0\/c / 10%4%2=1 by lia) with h | h
  ·exact⟨4,by rw[h];rfl,by decide,by decide⟩
  ·exact⟨A,by rw[h];rfl,by rw[hA];decide,by rw[hA];exact Int.le_refl _⟩
 obtain⟨ta,ea,fa⟩:=OJ h1 h6 hsl hP1 hP2;obtain⟨tb,eb,fb⟩:=DC h1 h6 hsl (P:=W) (by rw[hW];decide) (by rw[hW];exact Int.le_refl _);obtain⟨td,ed,fd⟩:=DC h1 h6 hsl (P:=3) (by decide) (by decide);have fin:∀ t1:List Int,Fal n (10^62) t1->∃ t,(aH (rIf (fB (f2 (f2 (f2 (aJ (aC (aA 0) (aC (fC (.int 0)) aF)) bW) (fC (.int 40)) bK) (fC (.int 8)) aS) (fC (.int 3)) oEq)) (dX 4 (dH (fFL (aA 4)) [none] bJ tE)) bO) (aZ (gL 4))) [some (.lst (tI ns)),some (.int (n:Int)),some (.lst (tI sl)),some (.int (c / 10%4)),some (.lst (tI t1))]=some (.rt (.lst (tI t)))/\Fal n (10^199) t:=by
  intro t1 hf1;have hl1:=hf1.len;have hb1:=hf1.bd;have hcap:t1.length<=cap:=by rw[hl1];unfold cap;lia
  by_cases hc:c / 40%8=3
  ·obtain⟨Q1,hQ1⟩:∃ Q:Int,Q=A^2:=⟨_,rfl⟩
   obtain⟨Q2,hQ2⟩:∃ Q:Int,Q=10^30:=⟨_,rfl⟩;have q2:cN (.int A) (.int 2)=some (.int Q1):=by rw[hQ1,hA];exact qP (10^50) 2 (by decide +kernel)
   have q3:cN (.int 10) (.int 30)=some (.int Q2):=by rw[hQ2];exact qP 10 30 (by decide +kernel)
   have q4:bN (.int Q1) (.int Q2)=some (.int (Q1*Q2)):=qO (sE 500 500 (by rw[hQ1,hA];decide +kernel) (by rw[hQ2];decide +kernel) (by decide) (by decide));have hq:(Q1*Q2).natAbs=10^130:=by rw[hQ1,hQ2,hA];decide +kernel
   have hq0:0<=Q1*Q2:=by rw[hQ1,hQ2,hA];decide +kernel
   generalize Q1*Q2=Q at q4 hq hq0;have e1:bQ bJ tE [none] (tI t1)=some (tI (t1.map (· * Q))):=by
    refine vN _ fun x hx=>?_;have q5:bN (.int Q) (.int x)=some (.int (x*Q)):=by
     rw[qO (sE 500 500 (by rw[hq];decide +kernel) (aJi (hb1 x hx) (by decide +kernel)) (by decide) (by decide)),Int.mul_comm]
    unfold tE;simp only[f2_at,fC_at,fVar_at,List.set,zz0,jn,zz2,p50,q2,q3,q4,q5]
   refine⟨t1.map (· * Q),?_,by simpa using hl1,?_,fun x hx=>?_,?_⟩
   ·simp only[rSeq_at,rSetM_at,rIf_at,rRet_at,fMut_at,fB_at,f2_at,fVar_at,fC_at,fCall_at,aCons_at,aNil_at,fComp_at,fFL_at,List.set,zz0,zz1,jn,zz2,zz3,fc,d40,m8,hc,oEq_int,beq_self_eq_true,isB_bl,if_true,eI,bV,aIy,aJ0,aJz,e1,tI_length,aIr,hcap,okM_lst,flat_tI']
   ·rw[sB,hf1.zero];simp
   ·obtain⟨y,hy,rfl⟩:=aJ7.mp hx
    rw[Int.natAbs_mul,hq];exact aJg (Nat.mul_le_mul_right _ (hb1 y hy)) (by decide)
   ·exact aDd hq0 hf1.sub
  ·have hc':(c / 40%8 == 3)=false:=by simpa using hc
   refine⟨t1,?_,hf1.le (by decide)⟩;simp only[rSeq_at,rIf_at,rNext_at,rRet_at,fMut_at,fB_at,f2_at,fVar_at,fC_at,fCall_at,aCons_at,aNil_at,zz0,zz1,jn,zz2,zz3,fc,d40,m8,hc',oEq_int,isB_bl,aHq,if_false,flat_tI',if_true]
 rw[MI];unfold tD;rw[rSeq_at,rSet_at];simp only[fCall_at,aCons_at,aNil_at,fVar_at,zz0,zz1,jn,zz2,zz3,esl,List.set];rw[rSeq_at,rSet_at];simp only[f2_at,fC_at,fCall_at,aCons_at,aNil_at,fVar_at,zz0,zz1,jn,zz2,zz3,fc,d10,m4,List.set];rw[rSeq_at,rSetM_at];simp only[f2_at,fC_at,fCall_at,fLst_at,aCons_at,aNil_at,fVar_at,zz0,zz1,jn,zz2,zz3,p50,aIp,aIs,aJw,Nat.reduceAdd,cc2,if_true,m2,oIx_lst,eP,ea,okM_lst,List.set]
 by_cases w0:c / 10%4=0
 ·obtain⟨t,e,f⟩:=fin tb fb
  rw[w0] at e ⊢;refine⟨t,?_,f⟩;rw[rSeq_at,rIf_at];simp only[rSetM_at,fB_at,f2_at,fC_at,fCall_at,aCons_at,aNil_at,fVar_at,zz0,zz1,jn,zz2,zz3,oEq_int,beq_self_eq_true,isB_bl,if_true,p58,eb,okM_lst,List.set];rw[rSeq_at,rIf_at];simp only[rNext_at,fB_at,f2_at,fC_at,fVar_at,zz0,zz1,jn,zz2,zz3,oEq_int,show ((0:Int) == 1)=false from rfl,isB_bl,aHq,if_false];rw[e];rfl
 ·have z0:(c / 10%4 == 0)=false:=by simpa using w0
  rw[rSeq_at,rIf_at];simp only[rNext_at,fB_at,f2_at,fC_at,fVar_at,zz0,zz1,jn,zz2,zz3,oEq_int,z0,isB_bl,aHq,if_false]
  by_cases w1:c / 10%4=1
  ·have z1:(c / 10%4 == 1)=true:=by simpa using w1
   obtain⟨t,e,f⟩:=fin td fd;refine⟨t,?_,f⟩;rw[rSeq_at,rIf_at];simp only[rSetM_at,fB_at,f2_at,fC_at,fCall_at,aCons_at,aNil_at,fVar_at,zz0,zz1,jn,zz2,zz3,oEq_int,z1,isB_bl,if_true,ed,okM_lst,List.set];rw[e];rfl
  ·have z1:(c / 10%4 == 1)=false:=by simpa using w1
   obtain⟨t,e,f⟩:=fin ta fa;refine⟨t,?_,f⟩;rw[rSeq_at,rIf_at];simp only[rNext_at,fB_at,f2_at,fC_at,fVar_at,zz0,zz1,jn,zz2,zz3,oEq_int,z1,isB_bl,aHq,if_false];rw[e];rfl
theorem CY {row:List Int}(h6:row.length<=6) (g:Nat):gD [.lst (tI row),.int (g:Int)]=some (.int (gv row g)):=by
 have hr:=gR row.length (by lia);obtain⟨ρ',hloop,x3,rfl⟩:=rO (j:=3) (n:=row.length) (body:=tN) (fun i ρ=>∃ x3,ρ=[some (.lst (tI row)),some (.int (g:Int)),some (.int (gvS row (List.range i) g)),x3]) (fun i hi ρ hρ=>by
  obtain⟨x3,rfl⟩:=hρ;have a1:atI (tI row) (i:Int)=some (.int (row.getD i 0)):=cA hi;rw[List.range_succ,AG];have hb:=zB g i;cases hc:g.testBit i with
  | true=>
   rw[hc] at hb;refine⟨_,?_,some (.int (i:Int)),rfl⟩;unfold tN;simp only[rIf_at,rSet_at,fB_at,f2_at,fVar_at,fC_at,List.set,zz0,zz1,jn,zz2,zz3,sJ,oAnd_int,rK,oEq_int,hb,isB_bl,if_true,oIx_lst,a1,oAdd_int]
  | false=>
   rw[hc] at hb;refine⟨_,?_,some (.int (i:Int)),rfl⟩;unfold tN;simp only[rIf_at,rNext_at,fB_at,f2_at,fVar_at,fC_at,List.set,zz0,zz1,jn,zz2,zz3,sJ,oAnd_int,rK,oEq_int,hb,isB_bl,aHq,if_false,Int.add_zero]) [some (.lst (tI row)),some (.int (g:Int)),some (.int 0),none] ⟨none,rfl⟩
 rw[MK];unfold tM;simp only[rSeq_at,rSet_at,rFor_at,rRet_at,f1_at,fVar_at,fC_at,fCall_at,aCons_at,aNil_at,fRange_at,List.set,zz0,zz1,jn,zz2,zz3,oLen_lst,tI_length,hr,hloop,gScal_int,outT_rt]
 rfl
def qG (g:Nat):List Int:=((List.range 6).filter fun h=>g / 2^h%2 == 1).map fun (h:Nat)=>(h:Int)
theorem VE:(List.range 64).all (fun k=>yE (eN [.int (k:Int)]) (some (.lst (tI (qG k)))))=true:=by decide +kernel
theorem DB {g:Nat}(h:g<64):eN [.int (g:Int)]=some (.lst (tI (qG g))):=CC (aHg.mp VE g (aHh.mpr h))
theorem VG:(List.range 7).all (fun n=>(List.range (2^n)).all fun g=>decide (qG g=((List.range n).filter fun k=>g / 2^k%2 == 1).map fun (k:Nat)=>(k:Int)))=true:=by decide +kernel
theorem VF {n g:Nat}(hn:n<=6) (hg:g<2^n):qG g=((List.range n).filter fun k=>g / 2^k%2 == 1).map fun (k:Nat)=>(k:Int):=
 of_decide_eq_true (aHg.mp (aHg.mp VG n (aHh.mpr (by lia))) g (aHh.mpr hg))
theorem aBk {n:Nat}(h:n<=6):2^n<=64:=aJg (aJq (by decide) h) (by decide:2^6<=64)
theorem OE {row:List Int}(h6:row.length<=6) {g:Nat}(hg:g<2^row.length):fM [.lst (tI row),.int (g:Int)]=some (.int (rT row g)):=by
 have h64:=aBk h6;have e:bQ bJ yC [none,some (.lst (tI row))] (tI (qG g))=some (tI (((List.range row.length).filter fun k=>g / 2^k%2 == 1).map fun k=>row.getD k 0)):=by
  rw[VF h6 hg];have:(((List.range row.length).filter fun k=>g / 2^k%2 == 1).map fun k=>row.getD k 0)=(((List.range row.length).filter fun k=>g / 2^k%2 == 1).map fun (k:Nat)=>(k:Int)).map fun i=>row.getD i.toNat 0:=by
   simp
  rw[this];refine vN _ fun i hi=>?_;obtain⟨k,hk,rfl⟩:=aJ7.mp hi;have hk':=aHh.mp (aJ4.mp hk).1;unfold yC;simp only[f1_at,f2_at,fVar_at,List.set,zz0,zz1,jn,zz2,oIx_lst,cA hk',gScal_int,aI7]
 have hc:(((List.range row.length).filter fun k=>g / 2^k%2 == 1).map fun k=>row.getD k 0).length<=cap:=by
  rw[aIr];have:=aIq (fun k=>g / 2^k%2 == 1) (List.range row.length);rw[aIt] at this;unfold cap;lia
 rw[OD];unfold uR rT;simp only[rRet_at,fCall_at,aCons_at,aNil_at,fComp_at,fFL_at,fVar_at,zz0,zz1,jn,zz2,zz3,DB (show g<64 by lia),eI,bV,List.map,aJz,e,tI_length,hc,if_true,YO,outT_rt]
theorem PM:(List.range 7).all (fun n=>Builtin.Int.intBits ((2^n:Nat):Int) == n+1)=true:=by decide +kernel
theorem DA {t:List Int}{n:Nat}(h6:n<=6) (hl:t.length=2^n):gE [.lst (tI t)]=some (.int (n:Int)):=by
 have b:=eq_of_beq (aHg.mp PM n (aHh.mpr (by lia)));rw[NM];unfold uJ;simp only[rRet_at,fCall_at,aCons_at,aNil_at,f1_at,f2_at,fC_at,fVar_at,zz0,zz1,jn,zz2,zz3,oLen_lst,tI_length,hl,oBits_int,b,oSub_int,outT_rt]
 congr 2
 lia
theorem CZ {row:List Int}(h6:row.length<=6) {g:Nat}(hg:g<2^row.length):fM [.lst (tI row),.int (g:Int)]=some (.int (gv row g)):=by rw[OE h6 hg,AB]
def bE (t row:List Int):List Int:=(List.range t.length).map fun g=>t.getD g 0-gv row g
theorem jW (t row:List Int):(bE t row).length=t.length:=by simp[bE]
theorem qL {t row:List Int}{g:Nat}(h:g<t.length):(bE t row).getD g 0=t.getD g 0-gv row g:=wI h
theorem AN {n:Nat}{t row:List Int}(hl:t.length=2^n):bE t row≠[]:=fun z=>by
 have:=jW t row;rw[z,hl] at this;have hp:0<2^n:=aJs (by decide);simp at this;lia
theorem vH {n:Nat}(h6:n<=6) {t row:List Int}(hl:t.length=2^n) (hr:row.length=n):eD [.lst (tI t),.lst (tI row)]=some (.lst (tI (bE t row))):=by
 have h64:=cC h6;have e:cG [0,1] bJ yA [none,none,some (.lst (tI row))] (cS 0 (tI t))=some (tI (bE t row)):=by
  refine QL _ fun g hg=>?_;unfold yA;simp only[f2_at,fVar_at,fCall_at,aCons_at,aNil_at,List.set,zz0,zz1,jn,zz2,CZ (row:=row) (by lia) (show g<2^row.length by rw[hr,<- hl];exact hg),oSub_int]
 have hc:(bE t row).length<=cap:=by rw[jW];unfold cap;lia
 rw[NV];unfold uN;simp only[rSeq_at,rIf_at,rNext_at,rRet_at,fB_at,f2_at,fVar_at,fCall_at,aCons_at,aNil_at,fCompT_at,fEnum_at,fFL_at,zz0,zz1,jn,zz2,zz3,oLen_lst,tI_length,DA h6 hl,hr,oNe_int,beq_self_eq_true,aHs,isB_bl,aHq,if_false,eI,bV,aIy,aJ0,aJz,e,hc,if_true,outT_rt]
theorem OC {n:Nat}(h6:n<=6) {t row:List Int}(hl:t.length=2^n) (hr:row.length=n):mE [.lst (tI t),.lst (tI row)]=some (.tup [.int ((bE t row).idxOf (bZ (bE t row)):Nat),.int (-bZ (bE t row))]):=by
 have hne:=AN (row:=row) hl;have c2:(2:Nat)<=cap:=by decide
 have ng:∀ i:Int,dL (.int i)=some (.int (-i)):=fun i=>rfl;rw[OB];unfold uQ;simp only[rSeq_at,rSet_at,rRet_at,f1_at,f2_at,fVar_at,fCall_at,aCons_at,aNil_at,fTup_at,List.set,zz0,zz1,jn,zz2,zz3,vH h6 hl hr,YI hne,YF (AV hne),ng,aIp,aIs,aJw,Nat.reduceAdd,c2,if_true,outT_rt]
theorem OM {n:Nat}(h6:n<=6) {t row:List Int}(hl:t.length=2^n) (hr:row.length=n):mC [.lst (tI t),.lst (tI row)]=some (.bl (-bZ (bE t row) == 0)):=by
 have i1:∀ x y:T,oIx (.tup [x,y]) (.int 1)=some y:=fun x y=>rfl;rw[NQ];unfold uL;simp only[rRet_at,f2_at,fVar_at,fC_at,fCall_at,aCons_at,aNil_at,zz0,zz1,jn,zz2,zz3,OC h6 hl hr,i1,oEq_int,outT_rt]
theorem NB (t:List Int):fK [.lst (tI t)]=some (.int ((t.length:Int)-1)):=by
 rw[CW];simp[qV]
theorem CT {n:Nat}(h6:n<=6) {t row:List Int}(hl:t.length=2^n) (hr:row.length=n):hO [.lst (tI t),.lst (tI row)]=some (.bl ((-bZ (bE t row) == 0)&&(gv row (2^n-1) == t.getD (2^n-1) 0))):=by
 have hp:0<2^n:=aJs (by decide);have ew:(t.length:Int)-1=((2^n-1:Nat):Int):=by lia
 have a1:atI (tI t) ((2^n-1:Nat):Int)=some (.int (t.getD (2^n-1) 0)):=cA (by lia);have fg:=CZ (row:=row) (by lia) (g:=2^n-1) (by rw[hr];lia);rw[NP];unfold uK;simp only[rSeq_at,rSet_at,rRet_at,vAnd_at,f1_at,f2_at,fVar_at,fCall_at,aCons_at,aNil_at,List.set,zz0,zz1,jn,zz2,zz3,NB,ew,gScal_int,OM h6 hl hr,isB_bl,fg,oIx_lst,a1,oEq_int];cases (-bZ (bE t row) == 0)<;>rfl
def tN' (ns:List Nat):List Int:=ns.map fun (n:Nat)=>(n:Int)
theorem KY (ns:List Nat):(tN' ns).length=ns.length:=by simp[tN']
theorem aAp:(List.range 64).all (fun a=>(List.range 6).all fun h=>a.testBit h||(a|||2^h == a+2^h))=true:=by decide +kernel
theorem wY {a h:Nat}(ha:a<64) (hh:h<6) (hb:a.testBit h=false):a|||2^h=a+2^h:=by
 have:=aHg.mp (aHg.mp aAp a (aHh.mpr ha)) h (aHh.mpr hh);rw[hb,Bool.false_or] at this;exact eq_of_beq this
theorem CO {n j:Nat}{body:Rho->Option Out}{t:List Int}(h6:n<=6) (hl:t.length=2^n) (mk:List Int->Nat->Option T->Option T->Rho) (hset:∀ s a x y (h:Nat),(mk s a x y).set j (some (.int (h:Int)))=mk s a (some (.int (h:Int))) y)
  (hb:∀ (s:List Int) (a h:Nat) (y:Option T),s.length=n->a|||2^h<2^n->a.testBit h=false->h<n->∃ y',body (mk s a (some (.int (h:Int))) y)=some (.nx (mk (s.set h (t.getD (a|||2^h) 0-t.getD a 0)) (a|||2^h) (some (.int (h:Int))) y'))):
  ∀ (o:List Nat) (a:Nat) (s:List Int) (x y:Option T),s.length=n->a<2^n->o.Nodup->(∀ h∈o,h<n/\a.testBit h=false)->∃ a' x' y',bR j body (tI (tN' o)) (mk s a x y)=some (.nx (mk (dN t o a s) a' x' y'))
 | [],a,s,x,y,_,_,_,_=>⟨a,x,y,rfl⟩
 | h::r,a,s,x,y,hs,ha,hn,hh=>by
  obtain⟨h1,h2⟩:=hh h aHe;obtain⟨hr,hn'⟩:=aJb.mp hn;have hlt:a|||2^h<2^n:=aJp ha (Nat.pow_lt_pow_right (by decide) h1);obtain⟨y',e⟩:=hb s a h y hs hlt h2 h1;obtain⟨a',x'',y'',e2⟩:=CO h6 hl mk hset hb r (a|||2^h) (s.set h (t.getD (a|||2^h) 0-t.getD a 0)) (some (.int (h:Int))) y' (by rw[aIv,hs]) hlt hn' (fun k hk=>⟨(hh k (aHd _ hk)).1,by
   rw[aJu,aJv,(hh k (aHd _ hk)).2];simp;intro e;subst e;exact hr hk⟩)
  refine⟨a',x'',y'',?_⟩;show bR j body (.int (h:Int)::tI (tN' r)) (mk s a x y)=_;rw[vS,hset,e];exact e2
def aT (n:Nat) (t:List Int) (o:List Nat):List Int:=dN t o 0 (List.replicate n 0)
theorem CM (n:Nat) (t:List Int) (o:List Nat):(aT n t o).length=n:=by unfold aT;rw[CN,aIu]
theorem BC {n:Nat}{o:List Nat}(hp:o.Perm (List.range n)):o.Nodup:=hp.nodup_iff.mpr aJc
theorem qQ {n:Nat}{o:List Nat}(hp:o.Perm (List.range n)) {h:Nat}(hh:h∈o):h<n:=aHh.mp (hp.mem_iff.mp hh)
theorem OL {t:List Int}{n a b:Nat}(hl:t.length=2^n) (ha:a<2^n) (hb:b<2^n):mG [.lst (tI t),.int (a:Int),.int (b:Int)]=some (.bl (decide (t.getD a 0+t.getD b 0<t.getD (a|||b) 0+t.getD (a&&&b) 0))):=by
 have e1:atI (tI t) (a:Int)=some (.int (t.getD a 0)):=cA (by lia);have e2:atI (tI t) (b:Int)=some (.int (t.getD b 0)):=cA (by lia);have e3:atI (tI t) ((a|||b:Nat):Int)=some (.int (t.getD (a|||b) 0)):=cA (by rw[hl];exact aJp ha hb);have e4:atI (tI t) ((a&&&b:Nat):Int)=some (.int (t.getD (a&&&b) 0)):=cA (by rw[hl];exact mJ ha);rw[OK];unfold uV;simp only[rRet_at,f2_at,fVar_at,zz0,zz1,jn,zz2,zz3,oIx_lst,e1,e2,oAdd_int,oOr_int,zA,e3,oAnd_int,rJ,e4,oLt_int,outT_rt]
abbrev Tri:=Nat × Nat × Nat
def trT (x:Tri):T:=.tup [.int (x.1:Int),.int (x.2.1:Int),.int (x.2.2:Int)]
def bD (n S:Nat):List Nat:=(List.range 6).filter fun h=>(2^n-1-S) / 2^h%2 == 1
theorem VH (n S:Nat):qG (2^n-1-S)=(bD n S).map fun (h:Nat)=>(h:Int):=rfl
def brk (t:List Int) (x:Tri):Bool:=decide (t.getD (x.1|||2^x.2.1) 0+t.getD (x.1|||2^x.2.2) 0<t.getD ((x.1|||2^x.2.1)|||(x.1|||2^x.2.2)) 0+t.getD ((x.1|||2^x.2.1)&&&(x.1|||2^x.2.2)) 0)
def pV (n S:Nat):List Tri:=(List.range (bD n S).length).flatMap fun p=>((bD n S).drop (p+1)).map fun j=>(S,(bD n S).getD p 0,j)
def dZ (n:Nat):List Tri:=(List.range (2^n)).flatMap (pV n)
theorem LP:(List.range 7).all (fun n=>(List.range (2^n)).all fun S=>(bD n S).all (fun i=>decide (S|||2^i<2^n)&&decide (i<6))&&(pV n S).all (fun x=>decide (x.1|||2^x.2.1<2^n)&&decide (x.1|||2^x.2.2<2^n)&&(((x.1|||2^x.2.1)&&&(x.1|||2^x.2.2)) == x.1)&&(((x.1|||2^x.2.1)|||(x.1|||2^x.2.2)) == x.1|||(2^x.2.1|||2^x.2.2))))=true:=by decide +kernel
theorem IP {n S i:Nat}(hn:n<=6) (hS:S<2^n) (hi:i∈bD n S):S|||2^i<2^n/\i<6:=by
 have a:=aHg.mp (aHg.mp LP n (aHh.mpr (by lia))) S (aHh.mpr hS);rw[aHn] at a;have b:=aHg.mp a.1 i hi
 simpa using b
theorem NC (t:List Int):fK [.lst (tI t)]=some (.int ((t.length:Int)-1)):=by
 rw[CW];simp[qV]
theorem aF1:(List.range 7).all (fun n=>(List.range (2^n)).all fun g=>Builtin.bitXor ((2^n:Nat)-1:Int) (g:Int) == ((2^n-1-g:Nat):Int))=true:=by decide +kernel
theorem aF2 {n g:Nat}(hn:n<=6) (hg:g<2^n):Builtin.bitXor (((2^n:Nat):Int)-1) (g:Int)=((2^n-1-g:Nat):Int):=
 eq_of_beq (aHg.mp (aHg.mp aF1 n (aHh.mpr (by lia))) g (aHh.mpr hg))
def mK (t:List Int) (n S:Nat):Option T:=((pV n S).find? (brk t)).map trT
theorem MR {n S:Nat}(hn:n<=6) (hS:S<2^n) {t:List Int}(hl:t.length=2^n):kQ [.lst (tI t),.int (S:Int)]=some ((mK t n S).getD .non):=by
 have h64:=cC hn;have fh:=DB (g:=2^n-1-S) (by lia);rw[VH] at fh;have hol:(bD n S).length<=6:=by
  unfold bD;refine aJg (aIq _ _) ?_;rw[aIt];exact aJf _
 have hlen:((bD n S).map fun (h:Nat)=>(h:Int)).length=(bD n S).length:=by simp
 have hget:∀ p,((bD n S).map fun (h:Nat)=>(h:Int)).getD p 0=(((bD n S).getD p 0:Nat):Int):=fun p=>by
  simp only[aHb,aIl];cases (bD n S)[p]?<;>rfl
 have main:=FD (js:=[3,4]) (body:=uA) (fun ρ=>∃ x3 x4 x5,ρ=[some (.lst (tI t)),some (.int (S:Int)),some (.lst (tI ((bD n S).map fun (h:Nat)=>(h:Int)))),x3,x4,x5])
  (fun u=>match u with | .tup [.int p,_]=>((bD n S).drop (p.toNat+1)).findSome? (fun j=>if brk t (S,(bD n S).getD p.toNat 0,j) then some (trT (S,(bD n S).getD p.toNat 0,j)) else none) | _=>none)
  (cS 0 (tI ((bD n S).map fun (h:Nat)=>(h:Int)))) (fun u hu ρ hρ=>by
   obtain⟨x3,x4,x5,rfl⟩:=hρ;rw[zL] at hu;obtain⟨p,hp,rfl⟩:=aJ7.mp hu;have hp':p<(bD n S).length:=by rw[hlen] at hp;exact aHh.mp hp
   rw[hget];refine⟨_,[some (.lst (tI t)),some (.int (S:Int)),some (.lst (tI ((bD n S).map fun (h:Nat)=>(h:Int)))),some (.int (p:Int)),some (.int (((bD n S).getD p 0:Nat):Int)),x5],rfl,rfl,?_⟩;have hi:(bD n S).getD p 0∈bD n S:=by
    rw[aHb,aHc hp'];exact List.getElem_mem hp'
   obtain⟨oi,oi6⟩:=IP hn hS hi;simp only[aI7];generalize (bD n S).getD p 0=i at hi oi oi6;have hsl:cZ (tI ((bD n S).map fun (h:Nat)=>(h:Int))) (some ((p:Int)+1)) none none=tI (((bD n S).drop (p+1)).map fun (h:Nat)=>(h:Int)):=by
    rw[aD5,aD3 _ (by lia),<- List.map_drop];rw[show ((p:Int)+1).toNat=p+1 by lia]
   have inner:=zT (j:=5) (body:=qU) (fun ρ=>∃ x5,ρ=[some (.lst (tI t)),some (.int (S:Int)),some (.lst (tI ((bD n S).map fun (h:Nat)=>(h:Int)))),some (.int (p:Int)),some (.int (i:Int)),x5])
    (fun u=>match u with | .int j=>if brk t (S,i,j.toNat) then some (trT (S,i,j.toNat)) else none | _=>none)
    (tI (((bD n S).drop (p+1)).map fun (h:Nat)=>(h:Int))) (fun u hu ρ hρ=>by
     obtain⟨x5,rfl⟩:=hρ;unfold tI at hu;rw[aIz] at hu;obtain⟨j,hj,rfl⟩:=aJ7.mp hu;obtain⟨oj,oj6⟩:=IP hn hS (List.mem_of_mem_drop hj);have s1:=jH (b:=i) (by lia);have s2:=jH (b:=j) (by lia);have tb:=OL hl oi oj;have c3:3<=cap:=by decide
     have run:qU [some (.lst (tI t)),some (.int (S:Int)),some (.lst (tI ((bD n S).map fun (h:Nat)=>(h:Int)))),some (.int (p:Int)),some (.int (i:Int)),some (.int (j:Int))]=if brk t (S,i,j) then some (.rt (trT (S,i,j))) else some (.nx [some (.lst (tI t)),some (.int (S:Int)),some (.lst (tI ((bD n S).map fun (h:Nat)=>(h:Int)))),some (.int (p:Int)),some (.int (i:Int)),some (.int (j:Int))]):=by
      unfold qU brk trT;simp only[rIf_at,rNext_at,rRet_at,fT_at,fTup_at,f1_at,f2_at,fVar_at,fC_at,fCall_at,aCons_at,aNil_at,zz0,zz1,jn,zz2,zz3,s1,s2,oOr_int,zA,tb,truT_bl,gScal_int,aIp,aIs,aJw,Nat.reduceAdd,c3,if_true]
     show _\/_;simp only[Function.comp,aI7,List.set];rw[run];cases hb:brk t (S,i,j) with
     | true=>exact .inr ⟨_,rfl,rfl⟩
     | false=>exact .inl ⟨rfl,_,rfl,_,rfl⟩) [some (.lst (tI t)),some (.int (S:Int)),some (.lst (tI ((bD n S).map fun (h:Nat)=>(h:Int)))),some (.int (p:Int)),some (.int (i:Int)),x5] ⟨_,rfl⟩
   have efs:(tI (((bD n S).drop (p+1)).map fun (h:Nat)=>(h:Int))).findSome? (fun u=>match u with | .int j=>if brk t (S,i,j.toNat) then some (trT (S,i,j.toNat)) else none | _=>none)=((bD n S).drop (p+1)).findSome? (fun j=>if brk t (S,i,j) then some (trT (S,i,j)) else none):=by
    unfold tI;rw[aIz,List.findSome?_map];refine vO fun j _=>?_;simp only[Function.comp,aI7]
   rw[efs] at inner;have e2:∀ r,bR 5 qU (tI (((bD n S).drop (p+1)).map fun (h:Nat)=>(h:Int))) [some (.lst (tI t)),some (.int (S:Int)),some (.lst (tI ((bD n S).map fun (h:Nat)=>(h:Int)))),some (.int (p:Int)),some (.int (i:Int)),x5]=r->uA [some (.lst (tI t)),some (.int (S:Int)),some (.lst (tI ((bD n S).map fun (h:Nat)=>(h:Int)))),some (.int (p:Int)),some (.int (i:Int)),x5]=r:=fun r hr=>by
    unfold uA;simp only[rFor_at,fFL_at,fSlice_at,oSome_at,oNone_at,f2_at,fVar_at,fC_at,zz0,zz1,jn,zz2,zz3,oAdd_int,isI_int,reduceCtorEq,if_false,hsl,eI,hr]
   rcases inner with ⟨h1,ρ',h2,x5',rfl⟩ | ⟨r,h1,h2⟩
   ·exact .inl ⟨h1,_,e2 _ h2,_,_,_,rfl⟩
   ·exact .inr ⟨r,h1,e2 _ h2⟩) [some (.lst (tI t)),some (.int (S:Int)),some (.lst (tI ((bD n S).map fun (h:Nat)=>(h:Int)))),none,none,none] ⟨_,_,_,rfl⟩
 have efs:(cS 0 (tI ((bD n S).map fun (h:Nat)=>(h:Int)))).findSome? (fun u=>match u with | .tup [.int p,_]=>((bD n S).drop (p.toNat+1)).findSome? (fun j=>if brk t (S,(bD n S).getD p.toNat 0,j) then some (trT (S,(bD n S).getD p.toNat 0,j)) else none) | _=>none)=mK t n S:=by
  rw[zL,List.findSome?_map,hlen];unfold mK pV;rw[List.find?_flatMap,List.map_findSome?];refine vO fun p _=>?_;simp only[Function.comp,aI7];rw[EW,List.find?_map,Option.map_map]
  rfl
 rw[efs] at main;have x1:Builtin.bitXor ((t.length:Int)-1) (S:Int)=((2^n-1-S:Nat):Int):=by rw[hl];exact aF2 hn hS
 rw[MS];unfold tZ;simp only[rSeq_at,rSet_at,rForT_at,rRet_at,fEnum_at,fFL_at,f2_at,fVar_at,fC_at,fCall_at,aCons_at,aNil_at,List.set,zz0,zz1,jn,zz2,zz3,NC,oXor_int,x1,fh,eI];rcases main with ⟨h1,ρ',h2,_⟩ | ⟨r,h1,h2⟩
 ·rw[h1,h2];rfl
 ·rw[h1,h2];rfl
def rL (t:List Int) (n:Nat):Option T:=((dZ n).find? (brk t)).map trT
theorem MU {n:Nat}(hn:n<=6) {t:List Int}(hl:t.length=2^n):kR [.lst (tI t)]=some ((rL t n).getD .non):=by
 have h64:=cC hn;have hr:=gR t.length (by lia);have main:=zT (j:=1) (body:=xT) (fun ρ=>∃ x1 x2,ρ=[some (.lst (tI t)),x1,x2]) (fun u=>match u with | .int S=>mK t n S.toNat | _=>none) (G.rangeT 0 t.length) (fun u hu ρ hρ=>by
  obtain⟨x1,x2,rfl⟩:=hρ;obtain⟨S,hS,rfl⟩:=AT hu;rw[Int.zero_add];simp only[aI7,List.set];have fb:=MR hn (S:=S) (by lia) hl;unfold xT;cases hb:mK t n S with
  | none=>
   rw[hb] at fb;refine .inl ⟨rfl,[some (.lst (tI t)),some (.int (S:Int)),some .non],?_,_,_,rfl⟩;simp only[rSeq_at,rSet_at,rIf_at,rNext_at,fB_at,f1_at,f2_at,fVar_at,fC_at,fCall_at,aCons_at,aNil_at,List.set,zz0,zz1,jn,zz2,zz3,fb,Option.getD_none]
   rfl
  | some r=>
   rw[hb] at fb;have hr3:∃ x:Tri,r=trT x:=by
    unfold mK at hb;cases hf:(pV n S).find? (brk t) with
    | none=>rw[hf] at hb;cases hb
    | some x=>rw[hf] at hb;exact⟨x,(aHa hb).symm⟩
   obtain⟨x,rfl⟩:=hr3;refine .inr ⟨_,rfl,?_⟩;simp only[rSeq_at,rSet_at,rIf_at,rRet_at,fB_at,f1_at,f2_at,fVar_at,fC_at,fCall_at,aCons_at,aNil_at,List.set,zz0,zz1,jn,zz2,zz3,fb,Option.getD_some]
   rfl) [some (.lst (tI t)),none,none] ⟨_,_,rfl⟩
 have efs:(G.rangeT 0 t.length).findSome? (fun u=>match u with | .int S=>mK t n S.toNat | _=>none)=rL t n:=by
  rw[BR,List.findSome?_map,hl];unfold rL dZ;rw[List.find?_flatMap,List.map_findSome?];exact vO fun S _=>by simp only[Function.comp,aI7];rfl
 rw[efs] at main;rw[MT];unfold uB;simp only[rSeq_at,rFor_at,rRet_at,fRange_at,fC_at,fVar_at,fCall_at,aCons_at,aNil_at,zz0,jn,zz2,zz3,oLen_lst,tI_length,hr];rcases main with ⟨h1,ρ',h2,_⟩ | ⟨r,h1,h2⟩
 ·rw[h1,h2];rfl
 ·rw[h1,h2];rfl
theorem WC (t:List Int) (n:Nat):oIs ((rL t n).getD .non) .non=some (.bl ((dZ n).find? (brk t)).isNone):=by
 unfold rL;cases (dZ n).find? (brk t)<;>rfl
theorem NE {n:Nat}(hn:n<=6) {t:List Int}(hl:t.length=2^n):jO [.lst (tI t)]=some (.bl ((dZ n).find? (brk t)).isNone):=by
 rw[NF];unfold uF;simp only[rRet_at,f2_at,fVar_at,fC_at,fCall_at,aCons_at,aNil_at,zz0,jn,zz2,zz3,MU hn hl,WC,outT_rt]
theorem aEg {n:Nat}(hn:n<=6) {x:Tri}(hx:x∈dZ n):x.1|||2^x.2.1<2^n/\x.1|||2^x.2.2<2^n/\(x.1|||2^x.2.1)&&&(x.1|||2^x.2.2)=x.1/\(x.1|||2^x.2.1)|||(x.1|||2^x.2.2)=x.1|||(2^x.2.1|||2^x.2.2):=by
 unfold dZ at hx;obtain⟨S,hS,hb⟩:=List.mem_flatMap.mp hx;have a:=aHg.mp (aHg.mp LP n (aHh.mpr (by lia))) S hS;rw[aHn] at a;have b:=aHg.mp a.2 x hb;rw[aHn,aHn,aHn] at b;obtain⟨⟨⟨b1,b2⟩,b3⟩,b4⟩:=b;exact⟨of_decide_eq_true b1,of_decide_eq_true b2,eq_of_beq b3,eq_of_beq b4⟩
theorem YJ {n:Nat}(h6:n<=6):wU (.lst (tI [0])) (.int (n:Int))=some (.lst (tI (List.replicate n 0))):=by
 rcases (show n=0\/n=1\/n=2\/n=3\/n=4\/n=5\/n=6 by lia) with rfl | rfl | rfl | rfl | rfl | rfl | rfl<;>rfl
theorem MW {n:Nat}(h6:n<=6) {t:List Int}(hl:t.length=2^n) {o:List Nat}(hp:o.Perm (List.range n)):kT [.lst (tI t),.lst (tI (tN' o))]=some (.lst (tI (aT n t o))):=by
 have h64:=cC h6;have hp0:0<2^n:=aJs (by decide);obtain⟨a',x',y',hloop⟩:=CO (j:=4) (body:=xU) h6 hl (fun s a x y=>[some (.lst (tI t)),some (.lst (tI (tN' o))),some (.lst (tI s)),some (.int (a:Int)),x,y]) (fun s a x y h=>rfl) (fun s a h y hs hlt hb hh=>by
  have sh:=jH (b:=h) (by lia);have hle:a<=a|||2^h:=Nat.left_le_or;have a1:atI (tI t) ((a|||2^h:Nat):Int)=some (.int (t.getD (a|||2^h) 0)):=cA (by lia);have a2:atI (tI t) (a:Int)=some (.int (t.getD a 0)):=cA (by lia);have ix:ixN s.length (h:Int)=some h:=by rw[jV (by lia) (by lia)];simp
  refine⟨some (.int ((a|||2^h:Nat):Int)),?_⟩;unfold xU;simp only[rSeq_at,rSet_at,rPut_at,f1_at,f2_at,fVar_at,fC_at,List.set,zz0,zz1,jn,zz2,zz3,sh,oOr_int,zA,oIx_lst,a1,a2,oSub_int,tI_length,ix,jL,gScal_int]) o 0 (List.replicate n 0) none none (by simp) hp0 (BC hp) (fun h hh=>⟨qQ hp hh,aJy h⟩)
 rw[MV];unfold uC aT;simp only[rSeq_at,rSet_at,rSetM_at,rFor_at,rRet_at,fMut_at,f2_at,fVar_at,fC_at,fCall_at,aCons_at,aNil_at,fFL_at,List.set,zz0,zz1,jn,zz2,zz3,DA h6 hl,YJ h6,okM_lst,if_true,eI];rw[show (T.int 0)=T.int ((0:Nat):Int) from rfl,hloop];simp only[zz2,zz0,zz1,jn,flat_tI',if_true,zz3,outT_rt]
theorem wS (i:Int):dL (.int i)=some (.int (-i)):=rfl
theorem zU (y z:Int):aW (.tup [.int y,.int z])=some (.tup [.int y,.int z]):=rfl
theorem CU (t b:Int) (hb:b.natAbs<2^9000):kU [.int t,.int b]=some (.int (Int.gcd t b:Int)):=by
 obtain⟨x',h⟩:=TH (p:=xW) (r:=xV) (st:=fun a b' x=>[some (.int t),some (.int b),some (.int (a:Int)),some (.int (b':Int)),x])
  (fun a b' x=>by
   have e:oNe (.int (b':Int)) (.int 0)=some (.bl (decide (b'≠0))):=by
    rw[oNe_int];congr 2;rcases Nat.eq_zero_or_pos b' with e | e
    ·subst e;rfl
    ·rw[decide_eq_true (show b'≠0 by lia)]
     simp;lia
   unfold xW;simp only[fB_at,f2_at,fVar_at,fC_at,zz0,zz1,jn,zz2,e,isB_bl])
  (fun a b' x hb'=>by
   have e:aS (.int (a:Int)) (.int (b':Int))=some (.int ((a%b':Nat):Int)):=by rw[cK (by lia),Int.natCast_emod]
   refine⟨some (.int ((a%b':Nat):Int)),?_⟩;unfold xV;simp only[rSeq_at,rSet_at,f1_at,f2_at,fVar_at,List.set,zz0,zz1,jn,zz2,zz3,e,gScal_int]) t.natAbs b.natAbs none hb
 rw[MX];unfold uD;simp only[rSeq_at,rSet_at,rRet_at,f1_at,fVar_at,fCall_at,aCons_at,aNil_at,List.set,zz0,zz1,jn,zz2,zz3,YD,h,gScal_int,outT_rt]
 rfl
theorem NI {t b:Int}(h0:b≠0) (hb:b.natAbs<2^9000):kX [.int t,.int b]=some (.tup [.int (frI t b).1,.int (frI t b).2]):=by
 have hf:=FG (t:=t) h0;have hc:(2:Nat)<=cap:=by decide
 have d1:mV (.int t) (.int (frD t b))=some (.int (frI t b).1):=IJ hf.1 (aJi hf.2.1 hb);have d2:mV (.int b) (.int (frD t b))=some (.int (frI t b).2):=IJ hf.1 (aJi hf.2.1 hb);rw[NH];unfold uG
 by_cases h:b<0
 ·have ed : -(Int.gcd t b:Int)=frD t b:=by unfold frD;rw[if_pos h]
  simp only[rSeq_at,rSet_at,rIf_at,rRet_at,fB_at,f1_at,f2_at,fVar_at,fC_at,fCall_at,fTup_at,aCons_at,aNil_at,List.set,zz0,zz1,jn,zz2,zz3,CU t b hb,gScal_int,oLt_int,h,decide_true,isB_bl,if_true,wS,ed,d1,d2,aIp,aIs,aJw,Nat.reduceAdd,hc,outT_rt]
 ·have ed:(Int.gcd t b:Int)=frD t b:=by unfold frD;rw[if_neg h]
  simp only[rSeq_at,rSet_at,rIf_at,rNext_at,rRet_at,fB_at,f1_at,f2_at,fVar_at,fC_at,fCall_at,fTup_at,aCons_at,aNil_at,List.set,zz0,zz1,jn,zz2,zz3,CU t b hb,gScal_int,oLt_int,h,decide_false,isB_bl,aHq,if_false,ed,d1,d2,aIp,aIs,aJw,Nat.reduceAdd,hc,if_true,outT_rt]
theorem yS {g k:Nat}:mH [.int ((2^k:Nat):Int),.int (g:Int)]=some (.bl (g.testBit k)):=by
 rw[ON];unfold uW;simp only[rRet_at,f2_at,fVar_at,zz0,zz1,jn,zz2,zz3,oAnd_int,rJ,oEq_int,outT_rt];rw[<- aEz]
 congr 2
 generalize 2^k&&&g=z;generalize 2^k=y;rw[aHp];simp;lia
def dR (t s:List Int):List Nat:=(List.range t.length).filter fun g=>(bE t s).getD g 0 == 0
theorem FH {t s:List Int}{g:Nat}(hg:g<t.length):((bE t s).getD g 0 == 0)=(gv s g == t.getD g 0):=by
 rw[qL hg,aHp];simp;lia
theorem NK {n:Nat}(h6:n<=6) {t s:List Int}(hl:t.length=2^n) (hs:s.length=n):kZ [.lst (tI t),.lst (tI s)]=some (.lst (tI ((dR t s).map fun (g:Nat)=>(g:Int)))):=by
 have h64:=cC h6;have e:cG [0,1] xZ xY [none,none] (cS 0 (tI (bE t s)))=some (tI ((dR t s).map fun (g:Nat)=>(g:Int))):=by
  rw[SM];rw[zG (fun p:Nat=>[T.int (p:Int),T.int ((bE t s).getD p 0)]) (fun g=>(bE t s).getD g 0 == 0) (fun g=>T.int (g:Int)) (List.range (bE t s).length) (fun g hg=>by
   refine⟨_,rfl,?_,fun _=>?_⟩
   ·unfold xZ
    simp only[fB_at,f2_at,fVar_at,fC_at,List.set,zz0,zz1,jn,zz2,oEq_int,isB_bl]
   ·unfold xY
    simp only[f1_at,fVar_at,List.set,zz0,zz1,jn,zz2,gScal_int])]
  unfold dR tI;rw[aIz,jW];rfl
 have hc:((dR t s).map fun (g:Nat)=>(g:Int)).length<=cap:=by
  rw[aIr];unfold dR;refine aJg (aIq _ _) ?_;rw[aIt];unfold cap;lia
 rw[NL];unfold uI;simp only[rRet_at,fVar_at,fCall_at,aCons_at,aNil_at,fCompT_at,fEnum_at,fFL_at,zz0,zz1,jn,zz2,zz3,vH h6 hl hs,eI,bV,aIy,aJ0,aJz,e,tI_length,hc,if_true,outT_rt]
def gA (acc:Option Nat) (g:Nat):Option Nat:=some (match acc with | none=>g | some a=>a&&&g)
def cT:Option Nat->T
 | none=>.non
 | some c=>.int (c:Int)
theorem OG (gs:List Nat) {h:Nat}(hh:h<6):mF [.lst (tI (gs.map fun (g:Nat)=>(g:Int))),.int (h:Int)]=some (cT ((gs.filter fun g=>g.testBit h).foldl gA none)):=by
 have sh:=jH (b:=h) (by lia);have key:∀ (xs:List Nat) (acc:Option Nat) (r0 x3:Option T),∃ y3,bR 3 uU (tI (xs.map fun (g:Nat)=>(g:Int))) [r0,some (.int (h:Int)),some (cT acc),x3]=some (.nx [r0,some (.int (h:Int)),some (cT ((xs.filter fun g=>g.testBit h).foldl gA acc)),y3]):=by
  intro xs
  induction xs with
  | nil=>intro acc r0 x3;exact⟨x3,rfl⟩
  | cons g xs ih=>
   intro acc r0 x3;rw[aIy,tI_cons,vS];have turn:uU ([r0,some (.int (h:Int)),some (cT acc),x3].set 3 (some (.int (g:Int))))=some (.nx [r0,some (.int (h:Int)),some (cT (if g.testBit h then gA acc g else acc)),some (.int (g:Int))]):=by
    unfold uU;cases hb:g.testBit h with
    | true=>
     cases acc with
     | none=>
      have on:oIs .non .non=some (.bl true):=rfl;simp only[rIf_at,rSet_at,fT_at,fIf_at,fB_at,f1_at,f2_at,fVar_at,fC_at,fCall_at,aCons_at,aNil_at,List.set,zz0,zz1,jn,zz2,zz3,sh,yS,hb,truT_bl,if_true,cT,on,isB_bl,gScal_int,gA]
     | some a=>
      have on:oIs (.int (a:Int)) .non=some (.bl false):=rfl;simp only[rIf_at,rSet_at,fT_at,fIf_at,fB_at,f1_at,f2_at,fVar_at,fC_at,fCall_at,aCons_at,aNil_at,List.set,zz0,zz1,jn,zz2,zz3,sh,yS,hb,truT_bl,if_true,cT,on,isB_bl,aHq,if_false,oAnd_int,rJ,gA]
    | false=>
     simp only[rIf_at,rNext_at,fT_at,f2_at,fVar_at,fC_at,fCall_at,aCons_at,aNil_at,List.set,zz0,zz1,jn,zz2,zz3,sh,yS,hb,truT_bl,aHq,if_false]
   rw[turn];obtain⟨y3,e⟩:=ih (if g.testBit h then gA acc g else acc) r0 (some (.int (g:Int)));refine⟨y3,?_⟩;rw[aId];cases hb:g.testBit h with
   | true=>rw[hb] at e;exact e
   | false=>rw[hb] at e;exact e
 obtain⟨y3,e⟩:=key gs none (some (.lst (tI (gs.map fun (g:Nat)=>(g:Int))))) none;have gc:∀ c,aW (cT c)=some (cT c):=fun c=>by cases c<;>rfl
 rw[OH];unfold uT;simp only[rSeq_at,rSet_at,rFor_at,rRet_at,fFL_at,f1_at,fVar_at,fC_at,List.set,zz0,zz1,jn,zz2,zz3,eI];rw[show (T.non)=cT none from rfl,e];simp only[zz2,zz0,zz1,jn,gc,zz3,outT_rt]
theorem VP {α β:Type}(f:α->β) (xs:List α) (i:Int) (y:α):dC (xs.map f) i (f y)=(dC xs i y).map f:=by
 unfold dC;simp[List.map_take,List.map_drop]
theorem VQ {α:Type}(xs:List α) (i:Int) (y:α):(dC xs i y).Perm (y::xs):=by
 unfold dC;have:=List.perm_middle (a:=y) (l₁:=xs.take (min i.toNat xs.length)) (l₂:=xs.drop (min i.toNat xs.length))
 rwa [List.take_append_drop] at this
theorem NA (c:Int) {n:Nat}(h6:n<=6):∃ o:List Nat,kI [.int c,.int (n:Int)]=some (.lst (tI (tN' o)))/\o.Perm (List.range n):=by
 obtain⟨ρ',hloop,o,x0,x3,rfl,hp⟩:=rO (j:=3) (n:=n) (body:=xO) (fun i ρ=>∃ (o:List Nat) (x0:Int) (x3:Option T),ρ=[some (.int x0),some (.int (n:Int)),some (.lst (tI (tN' o))),x3]/\o.Perm (List.range i)) (fun i hi ρ hρ=>by
   obtain⟨o,c,x3,rfl,hp⟩:=hρ;have hol:o.length=i:=by rw[hp.length_eq,aIt]
   have p0:0<=c%((i:Int)+1):=aHy _ (by lia);have p1:c%((i:Int)+1)<(i:Int)+1:=aHx _ (by lia);have mi:aS (.int c) (.int ((i:Int)+1))=some (.int (c%((i:Int)+1))):=cK (by lia);have di:bK (.int c) (.int ((i:Int)+1))=some (.int (c / ((i:Int)+1))):=fV (by lia) (by lia);generalize c%((i:Int)+1)=q at p0 p1 mi;have hcap:(tI (tN' o)).length<cap/\0<=q/\q<2^63:=⟨by rw[tI_length,KY,hol];unfold cap;lia,p0,by lia⟩;have hins:dC (tI (tN' o)) q (.int (i:Int))=tI (tN' (dC o q i)):=by
    unfold tI tN';rw[aIz,aIz];exact VP (fun (n:Nat)=>T.int (n:Int)) o q i
   refine⟨[some (.int (c / ((i:Int)+1))),some (.int (n:Int)),some (.lst (tI (tN' (dC o q i)))),some (.int (i:Int))],?_,_,_,_,rfl,?_⟩
   ·unfold xO
    simp only[rSeq_at,rSet_at,rIns_at,f1_at,f2_at,fVar_at,fC_at,List.set,zz0,zz1,jn,zz2,oAdd_int,mi,gScal_int,hins];rw[if_pos hcap];simp only[zz2,zz3,zz0,zz1,jn,oAdd_int,di,List.set]
   ·refine (VQ o q i).trans ?_
    rw[List.range_succ];exact (List.Perm.cons i hp).trans (List.perm_append_singleton i (List.range i)).symm) [some (.int c),some (.int (n:Int)),some (.lst (tI (tN' []))),none] ⟨[],c,none,rfl,.refl _⟩
 have hr:=gR n (by lia);have hn:tI (tN' [])=[]:=rfl;rw[hn] at hloop;have z0:(0:Nat)<=cap:=aJx _;refine⟨o,?_,hp⟩;rw[MH];unfold sZ;simp only[rSeq_at,rSetM_at,rFor_at,rRet_at,fMut_at,fLst_at,fVar_at,aCons_at,aNil_at,fRange_at,List.set,zz0,zz1,jn,zz2,zz3,aIs,z0,if_true,okM_lst,hr,hloop,flat_tI',outT_rt]
abbrev Mx:=List Nat × Int
def tpM (x:Mx):List T:=[.lst (tI (tN' x.1)),.int x.2]
theorem NU {n:Nat}(h6:n<=6) {t:List Int}(hl:t.length=2^n) {o:List Nat}(hp:o.Perm (List.range n)):kH [.lst (tI t),.lst (tI (tN' o))]=some (.lst (tI (aT n t o))):=by
 have h64:=cC h6;have hol:o.length=n:=by rw[hp.length_eq,aIt]
 have hp0:0<2^n:=aJs (by decide);obtain⟨a',x',y',hloop⟩:=CO (j:=4) (body:=xM) h6 hl (fun s a x y=>[some (.lst (tI t)),some (.lst (tI (tN' o))),some (.lst (tI s)),some (.int (a:Int)),x]) (fun s a x y h=>rfl) (fun s a h y hs hlt hb hh=>by
  have sh:=jH (b:=h) (by lia);have hle:a<=a|||2^h:=Nat.left_le_or;have ad:(a:Int)+((2^h:Nat):Int)=((a|||2^h:Nat):Int):=by rw[wY (by lia) (by lia) hb];lia
  have a1:atI (tI t) ((a|||2^h:Nat):Int)=some (.int (t.getD (a|||2^h) 0)):=cA (by lia);have a2:atI (tI t) (a:Int)=some (.int (t.getD a 0)):=cA (by lia);have ix:ixN s.length (h:Int)=some h:=by rw[jV (by lia) (by lia)];simp
  refine⟨none,?_⟩;unfold xM;simp only[rSeq_at,rSet_at,rPut_at,f2_at,fVar_at,fC_at,List.set,zz0,zz1,jn,zz2,zz3,sh,oAdd_int,ad,oIx_lst,a1,a2,oSub_int,tI_length,ix,jL]) o 0 (List.replicate n 0) none none (by simp) hp0 (BC hp) (fun h hh=>⟨qQ hp hh,aJy h⟩)
 have e1:bQ bJ BX [none] (tI (tN' o))=some (tI (List.replicate n 0)):=by
  rw[vN (fun _=>0) (fun i _=>rfl)]
  congr 2
  rw[List.map_const',KY,hol]
 have hc:(List.replicate n (0:Int)).length<=cap:=by rw[aIu];unfold cap;lia
 rw[MF];unfold sX aT;simp only[rSeq_at,rSet_at,rSetM_at,rFor_at,rRet_at,fMut_at,fVar_at,fC_at,fComp_at,fFL_at,List.set,zz0,zz1,jn,zz2,zz3,eI,bV,aIy,aJ0,aJz,e1,tI_length,hc,if_true,okM_lst];rw[show (T.int 0)=T.int ((0:Nat):Int) from rfl,hloop];simp only[zz2,zz0,zz1,jn,flat_tI',if_true,zz3,outT_rt]
theorem LF {b : Nat} {t : List Int} (hb : ∀ x y, (t.getD x 0 - t.getD y 0).natAbs <= b) : ∀ (o : List Nat) (a : Nat) (s : List Int), Bd b s -> Bd b (dN t o a s)
 | [], _, s, h => h
 | h :: r, a, s, hs => LF hb r (a ||| 2 ^ h) (s.set h (t.getD (a ||| 2 ^ h) 0 - t.getD a 0)) (Bd.of fun i hi => by
   rw [aIv] at hi
   by_cases z : i = h
   ·rw [z] at hi ⊢
    rw [cY hi, if_pos rfl]; exact hb _ _
   ·by_cases zz : h < s.length
    ·rw [cY zz, if_neg z]; exact hs.get i
    ·rw [List.set_eq_of_length_le (by lia)]; exact hs.get i)
theorem aEa {n:Nat}{t:List Int}(hb:Bd (10^200) t) (o:List Nat):Bd (10^201) (aT n t o):=by
 unfold aT;refine LF (fun x y=>?_) o 0 _ (fun x hx=>?_)
 ·have h1:=hb.get x
  have h2:=hb.get y;have e:10^200+10^200<=10^201:=by decide
  lia
 ·rw[List.eq_of_mem_replicate hx];exact aJx _
def stM (n:Nat) (t r:List Int) (x:Mx):List Int:=(List.range n).map fun h=>r.getD h 0+x.2*(aT n t x.1).getD h 0
theorem aDa (n:Nat) (t r:List Int) (x:Mx):(stM n t r x).length=n:=by simp[stM]
theorem vR {α:Type}{j:Nat}{body:Rho->Option Out}(I:Rho->Prop) (tp:α->T) (c:α->Bool) (r:T):∀ (l:List α),(∀ x∈l,∀ ρ,I ρ->(c x=true/\∃ ρ',body (ρ.set j (some (tp x)))=some (.nx ρ')/\I ρ')\/(c x=false/\body (ρ.set j (some (tp x)))=some (.rt r)))->∀ ρ,I ρ ->
  (l.all c=true/\∃ ρ',bR j body (l.map tp) ρ=some (.nx ρ')/\I ρ')\/(l.all c=false/\bR j body (l.map tp) ρ=some (.rt r))
 | [],_,ρ,h=>.inl ⟨rfl,ρ,rfl,h⟩
 | x::l,hb,ρ,h=>by
  rw[aIy,vS,List.all_cons];rcases hb x aHe ρ h with ⟨h1,ρ',h2,h3⟩ | ⟨h1,h2⟩
  ·rw[h2,h1,Bool.true_and]
   exact vR I tp c r l (fun y hy=>hb y (aHd _ hy)) ρ' h3
  ·rw[h2,h1,Bool.false_and]
   exact .inr ⟨rfl,rfl⟩
def mU (a:Nat) (o:List Nat):Nat:=o.foldl (fun a h=>a|||2^h) a
theorem AS:∀ (o:List Nat) (a k:Nat),(mU a o).testBit k=(a.testBit k||o.contains k)
 | [],a,k=>by simp[mU]
 | h::o,a,k=>by
  show (mU (a|||2^h) o).testBit k=_;rw[AS o,aJu,aJv,List.contains_cons,Bool.or_assoc]
  congr 2
  rw[aHp];simp;exact⟨fun e=>e.symm,fun e=>e.symm⟩
theorem LE (t:List Int):∀ (o p:List Nat) (a:Nat) (s:List Int),dN t (o++p) a s=dN t p (mU a o) (dN t o a s)
 | [],p,a,s=>rfl
 | h::o,p,a,s=>by
  show dN t (o++p) (a|||2^h) _=_;rw[LE t o p];rfl
theorem LH {n:Nat}{t:List Int}:∀ (o:List Nat) (a:Nat) (s:List Int),Tk n t a s->o.Nodup->(∀ h∈o,h<n/\a.testBit h=false)->Tk n t (mU a o) (dN t o a s)
 | [],a,s,T,_,_=>T
 | h::r,a,s,T,hn,hb=>by
  obtain⟨h1,h2⟩:=hb h aHe;obtain⟨hr,hn'⟩:=aJb.mp hn;exact LH r (a|||2^h) _ (T.step h1 h2) hn' (fun k hk=>⟨(hb k (aHd _ hk)).1,PL (hb k (aHd _ hk)).2 (fun e=>by subst e;exact hr hk)⟩)
structure Bas (n:Nat) (t s:List Int):Prop where
 len:s.length=n
 und:∀ g,g<2^n->gv s g<=t.getD g 0
 all:gv s (2^n-1)=t.getD (2^n-1) 0
theorem XH:(List.range 64).all (fun k=>yE (hU [.int (k:Int)]) (some (.int (aM k:Int))))=true:=by decide +kernel
theorem NY {g:Nat}(h:g<64):hU [.int (g:Int)]=some (.int (aM g:Int)):=CC (aHg.mp XH g (aHh.mpr h))
theorem DD {m:Int}{t:List Int}(hm:∀ x∈t,fG m x=true) (hc:t.length<=1000000):gF [.int m,.lst (tI t)]=some (.lst (tI (t.map (m * ·)))):=by
 have e:bQ bJ yD [none,some (.int m)] (tI t)=some (tI (t.map (m * ·))):=by
  refine vN _ fun x hx=>?_;unfold yD;simp only[f2_at,fVar_at,List.set,zz0,zz1,jn,zz2,qO (hm x hx)]
 have hc':t.length<=cap:=hc;rw[OF];unfold uS;simp[eI,bV,e,hc']
theorem PJ {n:Nat}(h6:n<=6) {t s:List Int}(hl:t.length=2^n) (hz:t.getD 0 0=0) (B:Bas n t s):hO [.lst (tI t),.lst (tI s)]=some (.bl true):=by
 have hp0:0<2^n:=aJs (by decide);rw[CT h6 hl B.len];have hm:bZ (bE t s)=0:=by
  have h1:=AV (AN (row:=s) hl);obtain⟨g,hg,e⟩:=List.mem_iff_getElem.mp h1;have hg':g<t.length:=by rw[jW] at hg;exact hg
  have e':(bE t s).getD g 0=bZ (bE t s):=by rw[aHb,aHc hg];exact e
  rw[qL hg'] at e';have h2:=B.und g (by lia);have h3:bZ (bE t s)<=(bE t s).getD 0 0:=AU (vZ (by rw[jW];lia));rw[qL (by lia),jT,hz] at h3;lia
 rw[hm,B.all];simp
def mea (a b:Nat):Nat:=((List.range 6).filter fun h=>(a ^^^ b) / 2^h%2 == 1).length
def stp (n a b:Nat):Bool:=
 (fun a'=>(a'&&&b == a&&&b)&&(a|||(a'|||b) == a|||b)&&(a&&&(a'|||b) == a')&&decide (a'<2^n)&&decide (mea a' b<mea a b)&&decide (mea a (a'|||b)<mea a b)) ((a&&&b)+((a-(a&&&b))&&&(a-(a&&&b)-1)))
def chk (n a b:Nat):Bool:=
 ((a|||b == b)&&(a&&&b == a))||((a|||b == a)&&(a&&&b == b))||((pV n (a&&&b)).any fun x=>((x.1|||2^x.2.1 == a)&&(x.1|||2^x.2.2 == b))||((x.1|||2^x.2.1 == b)&&(x.1|||2^x.2.2 == a)))||stp n a b||stp n b a
theorem QC:(List.range 7).all (fun n=>(List.range (2^n)).all fun a=>(List.range (2^n)).all fun b=>chk n a b)=true:=by decide +kernel
theorem QD {n a b:Nat}(hn:n<=6) (ha:a<2^n) (hb:b<2^n):chk n a b=true:=
 aHg.mp (aHg.mp (aHg.mp QC n (aHh.mpr (by lia))) a (aHh.mpr ha)) b (aHh.mpr hb)
theorem XM (a b:Nat):mea a b=mea b a:=by unfold mea;rw[Nat.xor_comm]
theorem glob {n:Nat}(hn:n<=6) {t:List Int}(hno:∀ x∈dZ n,brk t x=false):∀ (k a b:Nat),a<2^n->b<2^n->mea a b<=k->t.getD (a|||b) 0+t.getD (a&&&b) 0<=t.getD a 0+t.getD b 0:=by
 have step:∀ (k:Nat),(∀ a b,a<2^n->b<2^n->mea a b<k->t.getD (a|||b) 0+t.getD (a&&&b) 0<=t.getD a 0+t.getD b 0)->∀ a b,a<2^n->b<2^n->mea a b<=k->stp n a b=true->t.getD (a|||b) 0+t.getD (a&&&b) 0<=t.getD a 0+t.getD b 0:=by
  intro k ih a b ha hb hm hs;unfold stp at hs;generalize (a&&&b)+((a-(a&&&b))&&&(a-(a&&&b)-1))=a' at hs;simp only[aHn,beq_iff_eq,decide_eq_true_eq] at hs;obtain⟨⟨⟨⟨⟨h1,h2⟩,h3⟩,h4⟩,h5⟩,h6⟩:=hs;have i1:=ih a' b h4 hb (by lia);have i2:=ih a (a'|||b) ha (aJp h4 hb) (by lia);rw[h1] at i1;rw[h2,h3] at i2;lia
 intro k
 induction k using Nat.strongRecOn with
 | _ k ih=>
  intro a b ha hb hm;have ih':∀ a b,a<2^n->b<2^n->mea a b<k->t.getD (a|||b) 0+t.getD (a&&&b) 0<=t.getD a 0+t.getD b 0:=fun a b ha hb h=>ih (mea a b) h a b ha hb (aJf _);have c:=QD hn ha hb;unfold chk at c;simp only[aHt] at c;rcases c with (((c | c) | c) | c) | c
  ·simp only[aHn,beq_iff_eq] at c
   rw[c.1,c.2];lia
  ·simp only[aHn,beq_iff_eq] at c
   rw[c.1,c.2];lia
  ·obtain⟨x,hx,hc⟩:=List.any_eq_true.mp c
   have hxt:x∈dZ n:=List.mem_flatMap.mpr ⟨a&&&b,aHh.mpr (mJ ha),hx⟩;have hb':=hno x hxt;unfold brk at hb';have hb':=of_decide_eq_false hb';simp only[aHt,aHn,beq_iff_eq] at hc;rcases hc with ⟨e1,e2⟩ | ⟨e1,e2⟩
   ·rw[e1,e2] at hb';lia
   ·rw[e1,e2,Nat.or_comm,Nat.and_comm] at hb';lia
  ·exact step k ih' a b ha hb hm c
  ·have:=step k ih' b a hb ha (by rw[XM];exact hm) c
   rw[Nat.or_comm,Nat.and_comm];lia
theorem zH {α:Type}{p:Rho->Option Bool}{f:Rho->Option T}{ρ:Rho}(tp:α->T) (c:α->Bool) (h:α->T):∀ xs:List α,(∀ x∈xs,p (ρ.set 0 (some (tp x)))=some (c x)/\(c x=true->f (ρ.set 0 (some (tp x)))=some (h x)))->bQ p f ρ (xs.map tp)=some ((xs.filter c).map h)
 | [],_=>rfl
 | x::xs,hx=>by
  have ih:=zH tp c h xs fun y hy=>hx y (aHd _ hy);obtain⟨h1,h2⟩:=hx x aHe;rw[aIy];unfold bQ;rw[h1];simp only[zz2];cases hc:c x with
  | true=>
   rw[if_pos rfl,h2 hc,aId,if_pos hc,aIy];simp only[zz2];rw[ih];rfl
  | false=>
   rw[if_neg (by decide),aId,if_neg (by simp[hc])];exact ih
def XC (n S i:Nat):List Tri:=(List.range (n-(i+1))).flatMap fun d=>if !S.testBit i && !S.testBit (i+1+d) then [(S,i,i+1+d)] else []
def XD (n S:Nat):List Tri:=(List.range n).flatMap (XC n S)
def IE (n:Nat):List Tri:=(List.range (2^n)).flatMap (XD n)
theorem XE:(List.range 7).all (fun n=>decide (IE n=dZ n))=true:=by decide +kernel
theorem XF {n:Nat}(h6:n<=6):IE n=dZ n:=of_decide_eq_true (aHg.mp XE n (aHh.mpr (by lia)))
theorem PN {n:Nat}(h6:n<=6) {t:List Int}{S i j:Nat}(hS:S<2^n) (hi:i<j) (hj:j<n) (hb:S.testBit i=false) (hc:S.testBit j=false):
  brk t (S,i,j)=decide (t.getD (S+2^i) 0+t.getD (S+2^j) 0<t.getD (S+2^i+2^j) 0+t.getD S 0)/\S+2^i+2^j<2^n:=by
 have h64:=cC h6;have hx:(S,i,j)∈dZ n:=by
  rw[<- XF h6];refine List.mem_flatMap.mpr ⟨S,aHh.mpr hS,List.mem_flatMap.mpr ⟨i,aHh.mpr (by lia),List.mem_flatMap.mpr ⟨j-(i+1),aHh.mpr (by lia),?_⟩⟩⟩;have e:i+1+(j-(i+1))=j:=by lia
  rw[e,hb,hc];simp
 obtain⟨k1,k2,k3,k4⟩:=aEg h6 hx;dsimp only at k1 k2 k3 k4;have e1:S|||2^i=S+2^i:=wY (by lia) (by lia) hb;have e2:S|||2^j=S+2^j:=wY (by lia) (by lia) hc;have hb2:(S|||2^i).testBit j=false:=by
  rw[aJu,hc,aJv,Bool.false_or];exact decide_eq_false (by lia)
 have e3:S|||(2^i|||2^j)=S+2^i+2^j:=by
  rw[<- Nat.or_assoc,wY (h:=j) (by lia) (by lia) hb2,e1]
 have h7:S+2^i+2^j<2^n:=by
  rw[<- e3,<- Nat.or_assoc];exact aJp k1 (Nat.pow_lt_pow_right (by decide) hj)
 refine⟨?_,h7⟩;unfold brk;dsimp only;rw[k4,k3,e3,e1,e2]
def kF (t s:List Int):Bool:=(List.range t.length).all fun g=>decide (gv s g<=t.getD g 0)
theorem LU {n:Nat}{t s:List Int}(hl:t.length=2^n):kF t s=true ↔ ∀ g,g<2^n->gv s g<=t.getD g 0:=by
 unfold kF;rw[aHg]
 constructor
 ·intro h g hg
  exact of_decide_eq_true (h g (aHh.mpr (by lia)))
 ·intro h g hg
  exact decide_eq_true (h g (by have:=aHh.mp hg;lia))
def CP (t s:List Int):T->Bool
 | .int i=>decide (gv s i.toNat<=t.getD i.toNat 0)
 | _=>false
theorem NX {n:Nat}(h6:n<=6) {t s:List Int}(hl:t.length=2^n) (hs:s.length=n):kO [.lst (tI t),.lst (tI s)]=some (.bl (kF t s)):=by
 have h64:=cC h6;have hr:=gR t.length (by lia);obtain⟨ρ',hf,_⟩:=FF (j:=2) (r:=.bl false) (ρ:=[some (.lst (tI t)),some (.lst (tI s)),none]) (body:=xS) (CP t s) (G.rangeT 0 t.length) (fun u hu=>by
  obtain⟨i,hi,rfl⟩:=AT hu;rw[Int.zero_add];have fg:=CY (row:=s) (by lia) i;have a1:atI (tI t) (i:Int)=some (.int (t.getD i 0)):=cA hi;have ht:CP t s (.int (i:Int))=decide (gv s i<=t.getD i 0):=rfl;rw[ht];generalize gv s i=x at fg;generalize t.getD i 0=y at a1;have hd:decide (y<x)=!decide (x<=y):=by rw[aHp];simp
  unfold xS;simp only[rIf_at,rNext_at,rRet_at,fC_at,fB_at,f2_at,fVar_at,fCall_at,aCons_at,aNil_at,List.set,zz0,zz1,jn,zz2,zz3,fg,oIx_lst,a1,oGt_int,hd,isB_bl];cases decide (x<=y)<;>rfl) [some (.lst (tI t)),some (.lst (tI s)),none] (fun _=>rfl)
 have hall:(G.rangeT 0 t.length).all (CP t s)=kF t s:=by
  rw[BR,List.all_map]
  rfl
 rw[hall] at hf;rw[MP];unfold tX;simp only[rSeq_at,rFor_at,rRet_at,fRange_at,fVar_at,fC_at,fCall_at,aCons_at,aNil_at,zz0,zz1,jn,zz2,zz3,oLen_lst,tI_length,hr,hf];cases kF t s<;>rfl
theorem aEq {n:Nat}{t s:List Int}(hl:t.length=2^n) (hz:t.getD 0 0=0):(-bZ (bE t s) == 0)=kF t s:=by
 have hp:0<2^n:=aJs (by decide);rw[aHp,LU hl];have h1:=AV (AN (row:=s) hl);have h0:bZ (bE t s)<=0:=by
  have h3:bZ (bE t s)<=(bE t s).getD 0 0:=AU (vZ (by rw[jW];lia));rw[qL (by lia),jT,hz] at h3;lia
 constructor
 ·intro h g hg
  have h3:bZ (bE t s)<=(bE t s).getD g 0:=AU (vZ (by rw[jW];lia));rw[qL (by lia)] at h3;have : -bZ (bE t s)=0:=by simpa using h
  lia
 ·intro h
  obtain⟨g,hg,e⟩:=List.mem_iff_getElem.mp h1;have hg':g<t.length:=by rw[jW] at hg;exact hg
  have e':(bE t s).getD g 0=bZ (bE t s):=by rw[aHb,aHc hg];exact e
  rw[qL hg'] at e';have h2:=h g (by lia);have : -bZ (bE t s)=0:=by lia
  simpa using this
def gI (n:Nat) (t s:List Int):Bool:=kF t s&&(gv s (2^n-1) == t.getD (2^n-1) 0)
theorem NT {n:Nat}(h6:n<=6) {t s:List Int}(hl:t.length=2^n) (hs:s.length=n):kG [.lst (tI t),.lst (tI s)]=some (.bl (gI n t s)):=by
 have fu:=NX h6 hl hs;have hp:1<=2^n:=Nat.one_le_two_pow;have fg:=CY (row:=s) (by lia) (2^n-1);have la:=atI_last (ns:=t) (by lia);rw[hl] at la;have e1:(((2^n:Nat):Int)-1)=((2^n-1:Nat):Int):=by lia
 have ng:dL (.int 1)=some (.int (-1)):=rfl;unfold gI;rw[ME];unfold sW;generalize gv s (2^n-1)=g1 at fg;generalize t.getD (2^n-1) 0=g2 at la;generalize kF t s=bb at fu;cases bb with
 | false=>simp only[rRet_at,vAnd_at,f1_at,fVar_at,fCall_at,aCons_at,aNil_at,zz0,zz1,jn,zz2,zz3,fu,isB_bl,aHq,if_false,gScal_bl,outT_rt,Bool.false_and]
 | true=>simp only[rRet_at,vAnd_at,f1_at,f2_at,fC_at,fVar_at,fCall_at,aCons_at,aNil_at,zz0,zz1,jn,zz2,zz3,fu,isB_bl,if_true,oLen_lst,tI_length,hl,oSub_int,e1,fg,ng,oIx_lst,la,oEq_int,gScal_bl,outT_rt,Bool.true_and]
def frN (n S:Nat):List Nat:=(List.range n).filter fun h=>!S.testBit h
def lfI (n S i:Nat):List Nat:=(frN n S).filter fun j=>decide (2^i<2^j)
def lfl (n:Nat):List Tri:=(List.range (2^n)).flatMap fun S=>(frN n S).flatMap fun i=>(lfI n S i).map fun j=>(S,i,j)
theorem WZ:(List.range 7).all (fun n=>decide (lfl n=dZ n))=true:=by decide +kernel
theorem XA {n:Nat}(h6:n<=6):lfl n=dZ n:=of_decide_eq_true (aHg.mp WZ n (aHh.mpr (by lia)))
def eW (n:Nat) (t:List Int):Bool:=((dZ n).find? (brk t)).isNone
theorem SQ {n:Nat}(h6:n<=6) (t:List Int):eW n t=(List.range (2^n)).all fun S=>(frN n S).all fun i=>(lfI n S i).all fun j=>!brk t (S,i,j):=by
 have e:eW n t=(dZ n).all fun x=>!brk t x:=by
  unfold eW;rw[aHp,Option.isNone_iff_eq_none,List.find?_eq_none,aHg]
  constructor
  ·intro h x hx;simpa using h x hx
  ·intro h x hx;simpa using h x hx
 rw[e,<- XA h6];unfold lfl;simp only[List.all_flatMap,List.all_map,Function.comp_def]
def pwT (h:Nat):T:=.int ((2^h:Nat):Int)
theorem NW {n:Nat}(h6:n<=6) {t:List Int}(hl:t.length=2^n):kK [.lst (tI t),.int (n:Int)]=some (.bl (eW n t)):=by
 have h64:=cC h6;have hr:=gR t.length (by lia);have hrn:=gR n (by lia);have main:=vR (j:=2) (body:=nA) (fun ρ=>∃ x2 x3 x4 x5 x6,ρ=[some (.lst (tI t)),some (.int (n:Int)),x2,x3,x4,x5,x6]) (fun (S:Nat)=>T.int (S:Int)) (fun S=>(frN n S).all fun i=>(lfI n S i).all fun j=>!brk t (S,i,j)) (.bl false) (List.range (2^n)) (fun S hS ρ hρ=>by
   obtain⟨x2,x3,x4,x5,x6,rfl⟩:=hρ;have hS:=aHh.mp hS;have sel:bQ tK tH [none,some (.int (S:Int))] (G.rangeT 0 n)=some ((frN n S).map pwT):=by
    have er:G.rangeT 0 n=(List.range n).map fun (k:Nat)=>T.int (k:Int):=by unfold G.rangeT;refine List.map_congr_left fun k _=>?_;simp
    rw[er,zH (fun (k:Nat)=>T.int (k:Int)) (fun k=>!S.testBit k) pwT (List.range n) fun k hk=>⟨?_,fun _=>?_⟩]
    ·rfl
    ·have b1:=zB S k
     have q0:(((S / 2^k%2:Nat):Int) == 0)=!(((S / 2^k%2:Nat):Int) == 1):=by
      rw[aHp];simp;lia
     show tK [some (.int (k:Int)),some (.int (S:Int))]=_;unfold tK;simp only[fB_at,f2_at,fVar_at,fC_at,zz0,zz1,jn,zz2,sJ,oAnd_int,rK,oEq_int,q0,b1,isB_bl]
    ·have sh:=jH (b:=k) (by have:=aHh.mp hk;lia)
     show tH [some (.int (k:Int)),some (.int (S:Int))]=_;unfold tH;simp only[f2_at,fC_at,fVar_at,zz0,jn,zz2,sh]
     rfl
   have fin:∀ i,i∈frN n S->i<n/\S.testBit i=false:=fun i hi=>by
    obtain⟨a,b⟩:=aJ4.mp hi;exact⟨aHh.mp a,by simpa using b⟩
   have flen:(frN n S).length<=6:=by
    unfold frN;have:=aIq (fun h=>!S.testBit h) (List.range n);rw[aIt] at this;lia
   have hc:((frN n S).map pwT).length<=cap:=by rw[aIr];unfold cap;lia
   have ef:(frN n S).map pwT=tI ((frN n S).map fun h=>((2^h:Nat):Int)):=by unfold tI;rw[aIz];rfl
   have fl:jB (.lst ((frN n S).map pwT))=some ((frN n S).map pwT):=by rw[ef];exact eI _
   have mid:=vR (j:=4) (body:=kB) (fun ρ=>∃ x4 x5 x6,ρ=[some (.lst (tI t)),some (.int (n:Int)),some (.int (S:Int)),some (.lst ((frN n S).map pwT)),x4,x5,x6]) pwT (fun i=>(lfI n S i).all fun j=>!brk t (S,i,j)) (.bl false) (frN n S) (fun i hi ρ hρ=>by
     obtain⟨x4,x5,x6,rfl⟩:=hρ;obtain⟨hin,hbi⟩:=fin i hi;have sel2:bQ tL tJ [none,some (pwT i)] ((frN n S).map pwT)=some ((lfI n S i).map pwT):=by
      rw[zH pwT (fun j=>decide (2^i<2^j)) pwT (frN n S) fun j hj=>⟨?_,fun _=>?_⟩]
      ·rfl
      ·have d:decide (((2^i:Nat):Int)<((2^j:Nat):Int))=decide (2^i<2^j):=decide_eq_decide.mpr (by lia)
       show tL [some (.int ((2^j:Nat):Int)),some (.int ((2^i:Nat):Int))]=_;unfold tL;simp only[fB_at,f2_at,fVar_at,zz0,zz1,jn,zz2,oGt_int,d,isB_bl]
      ·show tJ [some (.int ((2^j:Nat):Int)),some (.int ((2^i:Nat):Int))]=_
       unfold tJ;simp only[f1_at,fVar_at,zz0,jn,zz2,gScal_int]
       rfl
     have llen:(lfI n S i).length<=6:=by
      unfold lfI;have:=aIq (fun j=>decide (2^i<2^j)) (frN n S);lia
     have hc2:((lfI n S i).map pwT).length<=cap:=by rw[aIr];unfold cap;lia
     have ef2:(lfI n S i).map pwT=tI ((lfI n S i).map fun h=>((2^h:Nat):Int)):=by unfold tI;rw[aIz];rfl
     have fl2:jB (.lst ((lfI n S i).map pwT))=some ((lfI n S i).map pwT):=by rw[ef2];exact eI _
     have inner:=vR (j:=5) (body:=qS) (fun ρ=>∃ x5 x6,ρ=[some (.lst (tI t)),some (.int (n:Int)),some (.int (S:Int)),some (.lst ((frN n S).map pwT)),some (pwT i),x5,x6]) pwT (fun j=>!brk t (S,i,j)) (.bl false) (lfI n S i) (fun j hj ρ hρ=>by
       obtain⟨x5,x6,rfl⟩:=hρ;obtain⟨hj1,hj2⟩:=aJ4.mp hj;obtain⟨hjn,hbj⟩:=fin j hj1;have hij:i<j:=(Nat.pow_lt_pow_iff_right (by decide)).mp (of_decide_eq_true hj2);obtain⟨hbr,hlt⟩:=PN h6 (t:=t) hS hij hjn hbi hbj;have g1:0<2^i:=aJs (by decide);have g2:0<2^j:=aJs (by decide);have p1:(S:Int)+((2^i:Nat):Int)=((S+2^i:Nat):Int):=by lia
       have p2:(S:Int)+((2^j:Nat):Int)=((S+2^j:Nat):Int):=by lia
       have p3:((S+2^i:Nat):Int)+((2^j:Nat):Int)=((S+2^i+2^j:Nat):Int):=by lia
       have a1:atI (tI t) ((S+2^i:Nat):Int)=some (.int (t.getD (S+2^i) 0)):=cA (by lia);have a2:atI (tI t) ((S+2^j:Nat):Int)=some (.int (t.getD (S+2^j) 0)):=cA (by lia);have a3:atI (tI t) ((S+2^i+2^j:Nat):Int)=some (.int (t.getD (S+2^i+2^j) 0)):=cA (by lia);have a4:atI (tI t) (S:Int)=some (.int (t.getD S 0)):=cA (by lia);have e5:∀ x6:Option T,([some (.lst (tI t)),some (.int (n:Int)),some (.int (S:Int)),some (.lst ((frN n S).map pwT)),some (pwT i),x5,x6]:Rho).set 5 (some (pwT j))=[some (.lst (tI t)),some (.int (n:Int)),some (.int (S:Int)),some (.lst ((frN n S).map pwT)),some (.int ((2^i:Nat):Int)),some (.int ((2^j:Nat):Int)),x6]:=fun _=>rfl;rw[e5];have ei:pwT i=.int ((2^i:Nat):Int):=rfl;rw[ei];generalize t.getD (S+2^i) 0=v1 at a1 hbr;generalize t.getD (S+2^j) 0=v2 at a2 hbr;generalize t.getD (S+2^i+2^j) 0=v3 at a3 hbr;generalize t.getD S 0=v4 at a4 hbr;generalize (frN n S).map pwT=fr;cases hk:brk t (S,i,j) with
       | false=>
        rw[hk] at hbr;refine .inl ⟨rfl,[some (.lst (tI t)),some (.int (n:Int)),some (.int (S:Int)),some (.lst fr),some (.int ((2^i:Nat):Int)),some (.int ((2^j:Nat):Int)),some (.int (v3+v4))],?_,_,_,rfl⟩;unfold qS;simp only[rSeq_at,rIf_at,rNext_at,rSet_at,fB_at,f2_at,fVar_at,fC_at,List.set,zz0,zz1,jn,zz2,zz3,isB_bl,oAdd_int,p1,p2,p3,oIx_lst,a1,a2,a3,a4,oLt_int,<- hbr,aHq,if_false]
       | true=>
        rw[hk] at hbr;refine .inr ⟨rfl,?_⟩;unfold qS;simp only[rSeq_at,rIf_at,rRet_at,rSet_at,fB_at,f2_at,fVar_at,fC_at,List.set,zz0,zz1,jn,zz2,zz3,isB_bl,oAdd_int,p1,p2,p3,oIx_lst,a1,a2,a3,a4,oLt_int,<- hbr,if_true]) [some (.lst (tI t)),some (.int (n:Int)),some (.int (S:Int)),some (.lst ((frN n S).map pwT)),some (pwT i),x5,x6] ⟨_,_,rfl⟩
     have ex:kB [some (.lst (tI t)),some (.int (n:Int)),some (.int (S:Int)),some (.lst ((frN n S).map pwT)),some (pwT i),x5,x6]=bR 5 qS ((lfI n S i).map pwT) [some (.lst (tI t)),some (.int (n:Int)),some (.int (S:Int)),some (.lst ((frN n S).map pwT)),some (pwT i),x5,x6]:=by
      generalize (lfI n S i).map pwT=l2 at sel2 hc2 fl2;generalize (frN n S).map pwT=l1 at sel2 fl;generalize pwT i=pi at sel2;unfold kB;simp only[rFor_at,fFL_at,fComp_at,fVar_at,zz0,zz1,jn,zz2,zz3,fl,bV,aIy,aJ0,aJz,sel2,hc2,if_true,fl2]
     show (_/\∃ ρ',kB [some (.lst (tI t)),some (.int (n:Int)),some (.int (S:Int)),some (.lst ((frN n S).map pwT)),some (pwT i),x5,x6]=_/\_)\/(_/\kB [some (.lst (tI t)),some (.int (n:Int)),some (.int (S:Int)),some (.lst ((frN n S).map pwT)),some (pwT i),x5,x6]=_);rw[ex];rcases inner with ⟨q1,ρ',q2,y5,y6,rfl⟩ | ⟨q1,q2⟩
     ·exact .inl ⟨q1,_,q2,_,_,_,rfl⟩
     ·exact .inr ⟨q1,q2⟩) [some (.lst (tI t)),some (.int (n:Int)),some (.int (S:Int)),some (.lst ((frN n S).map pwT)),x4,x5,x6] ⟨_,_,_,rfl⟩
   have ex:nA [some (.lst (tI t)),some (.int (n:Int)),some (.int (S:Int)),x3,x4,x5,x6]=bR 4 kB ((frN n S).map pwT) [some (.lst (tI t)),some (.int (n:Int)),some (.int (S:Int)),some (.lst ((frN n S).map pwT)),x4,x5,x6]:=by
    generalize (frN n S).map pwT=l1 at sel hc fl;unfold nA;simp only[rSeq_at,rSet_at,rFor_at,fFL_at,fComp_at,fRange_at,fVar_at,aCons_at,aNil_at,List.set,zz0,zz1,jn,zz2,zz3,hrn,bV,aIy,aJ0,aJz,sel,hc,if_true,fl]
   show (_/\∃ ρ',nA [some (.lst (tI t)),some (.int (n:Int)),some (.int (S:Int)),x3,x4,x5,x6]=_/\_)\/(_/\nA [some (.lst (tI t)),some (.int (n:Int)),some (.int (S:Int)),x3,x4,x5,x6]=_);rw[ex];rcases mid with ⟨q1,ρ',q2,y4,y5,y6,rfl⟩ | ⟨q1,q2⟩
   ·exact .inl ⟨q1,_,q2,_,_,_,_,_,rfl⟩
   ·exact .inr ⟨q1,q2⟩) [some (.lst (tI t)),some (.int (n:Int)),none,none,none,none,none] ⟨_,_,_,_,_,rfl⟩
 rw[<- SQ h6 t] at main;have er:G.rangeT 0 t.length=(List.range (2^n)).map fun (S:Nat)=>T.int (S:Int):=by rw[hl];unfold G.rangeT;refine List.map_congr_left fun k _=>?_;simp
 rw[er] at hr;rw[MJ];unfold tF;generalize (List.range (2^n)).map (fun (S:Nat)=>T.int (S:Int))=rs at main hr;rcases main with ⟨q1,ρ',q2,x2,x3,x4,x5,x6,rfl⟩ | ⟨q1,q2⟩
 ·rw[q1]
  simp only[rSeq_at,rFor_at,rRet_at,fRange_at,fC_at,fVar_at,fCall_at,aCons_at,aNil_at,zz0,jn,zz2,zz3,oLen_lst,tI_length,hr,q2,outT_rt]
 ·rw[q1]
  simp only[rSeq_at,rFor_at,fRange_at,fVar_at,fCall_at,aCons_at,aNil_at,zz0,jn,zz2,zz3,oLen_lst,tI_length,hr,q2,outT_rt]
theorem MA {t:List Int}{b:Bool}(hf:jO [.lst (tI t)]=some (.bl b)):hJ [.lst (tI t)]=some (if b then .inl .non else .inr "NotFalling"):=by
 have c1:(1:Nat)<=cap:=by decide
 rw[MD];unfold sV;cases b<;>simp only[xIf_at,xOf_at,xRaise_at,rNext_at,pNot_at,fT_at,fVar_at,fC_at,fCall_at,aCons_at,aNil_at,zz0,jn,zz2,zz3,hf,truT_bl,Bool.not_false,aHs,aHq,if_true,if_false,aIp,aIs,aJw,c1,outX_inr,outX_inl,outT_nx]
theorem QT (a b:List Int):dep (.lst [.lst (tI a),.lst (tI b)])<=60:=by simp[dep,depL,EL]
theorem aDc {n:Nat}(h6:n<=6) {t:List Int}(h:eW n t=true):Sub n t:=fun a b ha hb=>by
 unfold eW at h;have hf:=List.find?_eq_none.mp (Option.isNone_iff_eq_none.mp h);exact glob h6 (t:=t) (fun x hx=>by simpa using hf x hx) (mea a b) a b ha hb (aJf _)
theorem NO {n:Nat}(h6:n<=6) {t s:List Int}(hl:t.length=2^n) (hz:t.getD 0 0=0) (hs:s.length=n):hO [.lst (tI t),.lst (tI s)]=some (.bl (gI n t s)):=by
 rw[CT h6 hl hs,aEq hl hz]
 rfl
theorem QO {f:Rho->Option T}{ρ:Rho}(h:Mx->T) (m:List Mx) (hf:∀ x∈m,f ((ρ.set 0 (some (.lst (tI (tN' x.1))))).set 1 (some (.int x.2)))=some (h x)):cG [0,1] bJ f ρ (tP tpM m)=some (m.map h):=by
 have:=zG (js:=[0,1]) (p:=bJ) (f:=f) (ρ:=ρ) tpM (fun _=>true) h m (fun x hx=>⟨(ρ.set 0 (some (.lst (tI (tN' x.1))))).set 1 (some (.int x.2)),rfl,rfl,fun _=>hf x hx⟩);rw[this,List.filter_eq_self.mpr (fun _ _=>rfl)]
theorem WA (l:List T):isL (.lst l)=some l:=rfl
structure BsM (n:Nat) (t:List Int) (m:Int) (r:List Int):Prop where
 len:r.length=n
 und:∀ g,g<2^n->gv r g<=m*t.getD g 0
 all:gv r (2^n-1)=m*t.getD (2^n-1) 0
def cE (t:List Int) (m:Int) (r:List Int) (g:Nat):Prop:=gv r g=m*t.getD g 0
theorem vU {n:Nat}{t r:List Int}{m:Int}(hs:Sub n t) (hm:0<=m) (B:BsM n t m r) {a b:Nat}(ha:a<2^n) (hb:b<2^n) (fa:cE t m r a) (fb:cE t m r b):cE t m r (a|||b)/\cE t m r (a&&&b):=by
 have h1:=rV r a b;have h2:=aI2 (hs a b ha hb) hm;rw[aI1,aI1] at h2;have h3:=B.und (a|||b) (aJp ha hb);have h4:=B.und (a&&&b) (mJ ha);unfold cE at *;lia
def mkM (n:Nat) (p:Nat->Bool):Nat:=mU 0 ((List.range n).filter p)
theorem sD (n:Nat) (p:Nat->Bool) (k:Nat):(mkM n p).testBit k=(decide (k<n)&&p k):=by
 unfold mkM;rw[AS,aJy,Bool.false_or,aHp,aI9,aJ4,aHh];simp
theorem XO (n:Nat) (p:Nat->Bool):mkM n p<2^n:=Nat.lt_pow_two_of_testBit _ fun k hk=>by
 rw[sD,decide_eq_false (by lia)];rfl
structure CoreM (n:Nat) (t:List Int) (m:Int) (r:List Int) (c:Nat->Nat):Prop where
 lt:∀ h,h<n->c h<2^n
 ful:∀ h,h<n->cE t m r (c h)
 has:∀ h,h<n->(c h).testBit h=true
 sub:∀ h,h<n->∀ g,g<2^n->cE t m r g->g.testBit h=true->c h&&&g=c h
def DkM (c:Nat->Nat) (h:Nat):Nat:=aM (c h)*64+c h
theorem PK {a b k:Nat}(h:a&&&b=a) (hk:a.testBit k=true):b.testBit k=true:=by
 have:=congrArg (fun z=>z.testBit k) h;simp only[aJt,hk,Bool.true_and] at this;exact this
theorem wH {n g k:Nat}(hg:g<2^n) (hk:g.testBit k=true):k<n:=by
 rcases Nat.lt_or_ge k n with h | h
 ·exact h
 ·rw[AQ hg h] at hk;cases hk
theorem SJ {n:Nat}(h6:n<=6) {t r:List Int}{m:Int}{c:Nat->Nat}(C:CoreM n t m r c) {j k:Nat}(hk:k<n) (h:(c k).testBit j=true):DkM c j<=DkM c k:=by
 have h64:=cC h6;have hj:j<n:=wH (C.lt k hk) h;have e:=C.sub j hj (c k) (C.lt k hk) (C.ful k hk) h;have hc:=(DX (a:=c j) (b:=c k) (aHi (C.lt j hj) h64) (aHi (C.lt k hk) h64)).2.2;rw[e] at hc;have hl:c j<=c k:=by rw[<- e];exact Nat.and_le_right
 unfold DkM;lia
theorem FI {n:Nat}{t r:List Int}{m:Int}(hs:Sub n t) (hm:0<=m) (B:BsM n t m r) {c:Nat->Nat}(C:CoreM n t m r c):∀ (ks:List Nat) (a:Nat),a<2^n->cE t m r a->(∀ k∈ks,k<n) ->
  cE t m r (ks.foldl (fun a k=>a|||c k) a)/\∀ j,(ks.foldl (fun a k=>a|||c k) a).testBit j=(a.testBit j||ks.any fun k=>(c k).testBit j)
 | [],a,_,fa,_=>⟨fa,fun j=>by simp⟩
 | k::ks,a,ha,fa,hk=>by
  have h1:=hk k (by simp);obtain⟨f,b⟩:=FI hs hm B C ks (a|||c k) (aJp ha (C.lt k h1)) (vU hs hm B ha (C.lt k h1) fa (C.ful k h1)).1 fun j hj=>hk j (aHd _ hj);refine⟨f,fun j=>?_⟩;rw[List.foldl_cons,b j,aJu,List.any_cons,Bool.or_assoc]
def PdM (n:Nat) (c:Nat->Nat) (d:Nat):Nat:=mkM n fun k=>decide (DkM c k<=d)
theorem SW {n:Nat}(h6:n<=6) {t r:List Int}{m:Int}(hs:Sub n t) (h0:t.getD 0 0=0) (hm:0<=m) (B:BsM n t m r) {c:Nat->Nat}(C:CoreM n t m r c) (d:Nat):cE t m r (PdM n c d):=by
 have f0:cE t m r 0:=by unfold cE;rw[jT,h0,Int.mul_zero]
 obtain⟨f,b⟩:=FI hs hm B C ((List.range n).filter fun k=>decide (DkM c k<=d)) 0 (aJs (by decide)) f0 fun k hk=>aHh.mp (aJ4.mp hk).1;have e:PdM n c d=((List.range n).filter fun k=>decide (DkM c k<=d)).foldl (fun a k=>a|||c k) 0:=by
  refine dB fun j=>?_;unfold PdM;rw[b j,sD,aJy,Bool.false_or,aHp,List.any_eq_true];simp only[aHn,decide_eq_true_eq,aJ4,aHh]
  constructor
  ·rintro ⟨h1,h2⟩
   exact⟨j,⟨h1,h2⟩,C.has j h1⟩
  ·rintro ⟨k,⟨h1,h2⟩,h3⟩
   exact⟨wH (C.lt k h1) h3,aJg (SJ h6 C h1 h3) h2⟩
 rw[e];exact f
theorem EM {ask:Nat->Nat->Bool}{p:Nat->Bool}:∀ (l:List Nat),l.Pairwise (fun a b=>ask a b=true)->(∀ a∈l,∀ b∈l,ask a b=true->p b=true->p a=true)->l=l.filter p++l.filter fun k=>!p k
 | [],_,_=>rfl
 | h::l,hp,hd=>by
  obtain⟨h1,h2⟩:=List.pairwise_cons.mp hp;have ih:=EM l h2 fun a ha b hb=>hd a (aHd _ ha) b (aHd _ hb);cases hh:p h with
  | true=>
   rw[List.filter_cons_of_pos hh,List.filter_cons_of_neg (by simp[hh]),List.cons_append,<- ih]
  | false=>
   have no:l.filter p=[]:=by
    rw[List.filter_eq_nil_iff];intro k hk hpk;rw[hd h (by simp) k (aHd _ hk) (h1 k hk) hpk] at hh;cases hh
   rw[no,List.nil_append] at ih;rw[List.filter_cons_of_neg (by simp[hh]),List.filter_cons_of_pos (by simp[hh]),no,List.nil_append,<- ih]
theorem ST {n:Nat}{t:List Int}(h0:t.getD 0 0=0) {o:List Nat}(hp:o.Perm (List.range n)) {ask:Nat->Nat->Bool}(ha:o.Pairwise fun a b=>ask a b=true) {p:Nat->Bool}(hd:∀ a b,a<n->b<n->ask a b=true->p b=true->p a=true):
  gv (aT n t o) (mkM n p)=t.getD (mkM n p) 0:=by
 have e:=EM (p:=p) o ha fun a h1 b h2=>hd a b (qQ hp h1) (qQ hp h2);have em:mU 0 (o.filter p)=mkM n p:=dB fun k=>by
  rw[AS,sD,aJy,Bool.false_or,aHp,aI9,aJ4,hp.mem_iff,aHh];simp
 have hnd:=BC hp;have T:=LH (o.filter p) 0 _ (Tk.start (n:=n) h0) (hnd.filter _) fun h hh=>⟨qQ hp (aJ4.mp hh).1,aJy h⟩;unfold aT;rw[e,LE,em,LG (n:=n)]
 ·rw[<- em];exact T.full
 ·rw[CN,aIu]
 ·intro h hh
  obtain⟨h1,h2⟩:=aJ4.mp hh;refine⟨qQ hp h1,?_⟩;rw[sD];simp at h2;rw[h2];simp
theorem SX {n:Nat}(h6:n<=6) {t r:List Int}{m:Int}(hs:Sub n t) (h0:t.getD 0 0=0) (hm:0<m) (B:BsM n t m r) {c:Nat->Nat}(C:CoreM n t m r c) {o:List Nat}(hp:o.Perm (List.range n)) {ask:Nat->Nat->Bool}(ha:o.Pairwise fun a b=>ask a b=true)
  (hask:∀ a b,a<n->b<n->ask a b=true->DkM c a<=DkM c b) {g:Nat} (hg:g<2^n) (fg:cE t m r g):gv (aT n t o) g=t.getD g 0:=by
 have h64:=cC h6;have tP:∀ d,gv (aT n t o) (PdM n c d)=t.getD (PdM n c d) 0:=fun d=>ST h0 hp ha fun a b h1 h2 h3 h4=>decide_eq_true (aJg (hask a b h1 h2 h3) (of_decide_eq_true h4));have fP:=fun d=>SW h6 hs h0 (aHz hm) B C d;have bP:∀ d k,(PdM n c d).testBit k=(decide (k<n)&&decide (DkM c k<=d)):=fun d k=>sD n _ k;have lP:∀ d,PdM n c d<2^n:=fun d=>XO n _;have key:∀ d,gv (aT n t o) (g&&&PdM n c d)=t.getD (g&&&PdM n c d) 0:=by
  intro d
  induction d with
  | zero=>
   have e:g&&&PdM n c 0=0:=dB fun k=>by
    rw[aJt,bP,aJy]
    by_cases hk:k<n
    ·have:¬ DkM c k<=0:=fun z=>by
      have h1:c k=0:=by unfold DkM at z;lia
      have h2:=C.has k hk;rw[h1,aJy] at h2;cases h2
     simp[this]
    ·simp[hk]
   rw[e,jT,h0]
  | succ d ih=>
   by_cases hx:∃ k,g.testBit k=true/\DkM c k=d+1
   ·obtain⟨k,hk1,hk2⟩:=hx
    have hkn:k<n:=wH hg hk1;have hsub:=C.sub k hkn g hg fg hk1;have inB:∀ j,j<n->DkM c j=d+1->g.testBit j=true:=fun j hj hd=>by
     have ec:c j=c k:=by
      have l1:=aHi (C.lt j hj) h64;have l2:=aHi (C.lt k hkn) h64;unfold DkM at hd hk2;lia
     exact PK hsub (by rw[<- ec];exact C.has j hj)
    have e1:(g&&&PdM n c (d+1))|||PdM n c d=PdM n c (d+1):=dB fun j=>by
     rw[aJu,aJt,bP,bP]
     by_cases hj:j<n
     ·by_cases h1:DkM c j<=d
      ·have h2:DkM c j<=d+1:=by lia
       simp[h1,h2,hj]
      ·by_cases h2:DkM c j<=d+1
       ·rw[inB j hj (by lia)];simp[h2,hj]
       ·simp[h1,h2]
     ·simp[hj]
    have e2:(g&&&PdM n c (d+1))&&&PdM n c d=g&&&PdM n c d:=dB fun j=>by
     rw[aJt,aJt,aJt,bP,bP]
     by_cases h1:DkM c j<=d
     ·have h2:DkM c j<=d+1:=by lia
      simp[h1,h2]
     ·simp[h1]
    have mr:=rV r (g&&&PdM n c (d+1)) (PdM n c d);have mx:=rV (aT n t o) (g&&&PdM n c (d+1)) (PdM n c d);rw[e1,e2] at mr mx;have f1:=(vU hs (aHz hm) B hg (lP (d+1)) fg (fP (d+1))).2;have f2:=(vU hs (aHz hm) B hg (lP d) fg (fP d)).2;have f3:=fP (d+1);have f4:=fP d;unfold cE at f1 f2 f3 f4;rw[f1,f2,f3,f4,<- Int.mul_add,<- Int.mul_add] at mr;have mt:=Int.eq_of_mul_eq_mul_left (Int.ne_of_gt hm) mr;have t1:=tP (d+1);have t2:=tP d;lia
   ·have e:g&&&PdM n c (d+1)=g&&&PdM n c d:=dB fun j=>by
     rw[aJt,aJt,bP,bP];cases hj:g.testBit j with
     | false=>rfl
     | true=>
      have h1:¬ DkM c j=d+1:=fun z=>hx ⟨j,hj,z⟩;have h2:(DkM c j<=d+1) ↔ (DkM c j<=d):=by lia
      simp[h2]
    rw[e];exact ih
 have:=key 10000;have e:g&&&PdM n c 10000=g:=dB fun j=>by
  rw[aJt,bP];cases hj:g.testBit j with
  | false=>rfl
  | true=>
   have hjn:=wH hg hj;have h1:DkM c j<=10000:=by
    have:=pW (c j);have:=aHi (C.lt j hjn) h64;unfold DkM;lia
   simp[hjn,h1]
 rw[e] at this;exact this
theorem vJ {kf:Nat->Int × Int × Int}{i j:Nat}:bX kf i j=true ↔ (kf i).1<(kf j).1\/((kf i).1=(kf j).1/\((kf i).2.1<(kf j).2.1\/((kf i).2.1=(kf j).2.1/\(kf i).2.2<(kf j).2.2))):=by
 unfold bX
 by_cases h1:(kf i).1=(kf j).1
 ·rw[if_pos (by rw[h1];simp)]
  by_cases h2:(kf i).2.1=(kf j).2.1
  ·rw[if_pos (by rw[h2];simp)]
   by_cases h3:(kf i).2.2=(kf j).2.2
   ·rw[if_pos (by rw[h3];simp)]
    simp only[aHq,false_iff];lia
   ·rw[if_neg (by simp only[beq_iff_eq];lia)]
    simp only[decide_eq_true_eq];lia
  ·rw[if_neg (by simp only[beq_iff_eq];lia)]
   simp only[decide_eq_true_eq];lia
 ·rw[if_neg (by simp only[beq_iff_eq];lia)]
  simp only[decide_eq_true_eq];lia
theorem aAq {n:Nat}(hn:n<=6) (kf:Nat->Int × Int × Int) (hk:∀ j,(kf j).2.2=(j:Int)):∃ l:List Nat,l.Perm (List.range n)/\l.Pairwise (fun a b=>bX kf a b=true)/\fD n (bX kf)=true/\eJ n (bX kf)=l.map fun (i:Nat)=>(i:Int):=by
 have tr:∀ i j k,bX kf i j=true->bX kf j k=true->bX kf i k=true:=fun i j k h1 h2=>by
  rw[vJ] at h1 h2 ⊢;lia
 obtain⟨l,h1,h2,h3⟩:=WK hn (ask:=bX kf) (fun i j h=>by
  cases h2:bX kf j i with
  | false=>rfl
  | true=>
   rw[vJ] at h h2;lia) (fun i j hne h=>by
  have h':¬ bX kf i j=true:=by rw[h];decide
  have hi:=hk i;have hj:=hk j;rw[vJ] at h' ⊢;lia) tr
 exact⟨l,h1.perm,JZ tr l h2,(WJ hn _).1,h3⟩
theorem KU:∀ (L:List Nat) (a:Nat),∃ c,L.foldl gA (some a)=some c/\(∀ k,c.testBit k=(a.testBit k&&L.all fun g=>g.testBit k))/\∀ P:Nat->Prop,P a->(∀ x∈L,P x)->(∀ x y,P x->P y->P (x&&&y))->P c
 | [],a=>⟨a,rfl,fun k=>by simp,fun P h _ _=>h⟩
 | g::L,a=>by
  obtain⟨c,h1,h2,h3⟩:=KU L (a&&&g);refine⟨c,h1,fun k=>?_,fun P pa pl pc=>h3 P (pc _ _ pa (pl g (by simp))) (fun x hx=>pl x (aHd _ hx)) pc⟩;rw[h2 k,aJt,List.all_cons,Bool.and_assoc]
def rM (t r:List Int) (h:Nat):Nat:=(((dR t r).filter fun g=>g.testBit h).foldl gA none).getD 0
theorem AR (t:List Int) (m:Int) (i:Nat):(t.map (m * ·)).getD i 0=m*t.getD i 0:=by
 rw[aHb,aHb,aIl];cases t[i]?<;>simp
theorem IF {n:Nat}{t r:List Int}{m:Int}(hl:t.length=2^n) {g:Nat}:g∈dR (t.map (m * ·)) r ↔ g<2^n/\cE t m r g:=by
 unfold dR cE;rw[aJ4,aHh,aIr,hl]
 constructor
 ·rintro ⟨h1,h2⟩
  rw[FH (by rw[aIr,hl];exact h1),AR] at h2;exact⟨h1,by simpa using h2⟩
 ·rintro ⟨h1,h2⟩
  refine⟨h1,?_⟩;rw[FH (by rw[aIr,hl];exact h1),AR]
  simpa using h2
theorem QS {n:Nat}{t r:List Int}{m:Int}(hl:t.length=2^n) (hs:Sub n t) (hm:0<=m) (B:BsM n t m r):
  CoreM n t m r (rM (t.map (m * ·)) r)/\∀ h,h<n->((dR (t.map (m * ·)) r).filter fun g=>g.testBit h).foldl gA none=some (rM (t.map (m * ·)) r h):=by
 have key:∀ h,h<n->∃ c,((dR (t.map (m * ·)) r).filter fun g=>g.testBit h).foldl gA none=some c/\c<2^n/\cE t m r c/\c.testBit h=true/\∀ g,g<2^n->cE t m r g->g.testBit h=true->c&&&g=c:=by
  intro h hh;have pos:0<2^n:=aJs (by decide);have hN:2^n-1∈(dR (t.map (m * ·)) r).filter fun g=>g.testBit h:=by
   rw[aJ4,IF hl];exact⟨⟨by lia,B.all⟩,by rw[vV];exact decide_eq_true hh⟩
  have mem:∀ g,g∈(dR (t.map (m * ·)) r).filter (fun g=>g.testBit h) ↔ (g<2^n/\cE t m r g)/\g.testBit h=true:=fun g=>by rw[aJ4,IF hl]
  generalize ((dR (t.map (m * ·)) r).filter fun g=>g.testBit h)=L at hN mem;cases L with
  | nil=>cases hN
  | cons a L=>
   obtain⟨c,h1,h2,h3⟩:=KU L a;have pc:=h3 (fun x=>x<2^n/\cE t m r x) ((mem a).mp (by simp)).1 (fun x hx=>((mem x).mp (aHd _ hx)).1) fun x y px py=>⟨mJ px.1,(vU hs hm B px.1 py.1 px.2 py.2).2⟩;refine⟨c,h1,pc.1,pc.2,?_,fun g hg fg gb=>dB fun k=>?_⟩
   ·rw[h2 h,((mem a).mp (by simp)).2,Bool.true_and,aHg]
    exact fun x hx=>((mem x).mp (aHd _ hx)).2
   ·rw[aJt]
    cases hc:c.testBit k with
    | false=>rfl
    | true=>
     rw[h2 k,aHn,aHg] at hc;rcases aHm.mp ((mem g).mpr ⟨⟨hg,fg⟩,gb⟩) with e | e
     ·rw[e,hc.1];rfl
     ·rw[hc.2 g e];rfl
 have eq:∀ h,h<n->((dR (t.map (m * ·)) r).filter fun g=>g.testBit h).foldl gA none=some (rM (t.map (m * ·)) r h):=fun h hh=>by
  obtain⟨c,h1,_⟩:=key h hh;unfold rM;rw[h1];rfl
 refine⟨⟨fun h hh=>?_,fun h hh=>?_,fun h hh=>?_,fun h hh=>?_⟩,eq⟩
 all_goals
  obtain⟨c,h1,h2,h3,h4,h5⟩:=key h hh;rw[eq h hh] at h1;cases h1
  assumption
theorem MY {n:Nat}(h6:n<=6) {t r:List Int}{m:Int}(hl:t.length=2^n) (hs:Sub n t) (h0:t.getD 0 0=0) (hm:0<m) (B:BsM n t m r):
  ∃ o:List Nat,o.Perm (List.range n)/\kW [.lst (tI (t.map (m * ·))),.lst (tI r)]=some (.lst (tI (tN' o)))/\∀ g,g<2^n->cE t m r g->gv (aT n t o) g=t.getD g 0:=by
 have h64:=cC h6;obtain⟨C,ec⟩:=QS hl hs (aHz hm) B;have hl':(t.map (m * ·)).length=2^n:=by rw[aIr,hl]
 generalize hc:rM (t.map (m * ·)) r=c at C ec;have ff:=NK h6 hl' B.len;generalize hns:(List.range n).map (fun h=>((c h:Nat):Int))=ns;have nsl:ns.length=n:=by rw[<- hns];simp
 have nsg:∀ j,j<n->ns.getD j 0=((c j:Nat):Int):=fun j hj=>by rw[<- hns];exact wI hj
 have cn:gK hU ns=some (ns.map fun a=>((aM a.toNat:Nat):Int)):=ED fun a ha=>by
  rw[<- hns] at ha;obtain⟨h,hh,rfl⟩:=aJ7.mp ha;have:=NY (g:=c h) (aHi (C.lt h (aHh.mp hh)) h64);rw[this];simp
 generalize hcs:(ns.map fun a=>((aM a.toNat:Nat):Int))=cs at cn;have csg:∀ j,j<n->cs.getD j 0=((aM (c j):Nat):Int):=fun j hj=>by
  rw[<- hcs,<- hns,aIz];rw[wI hj];simp
 obtain⟨o,o1,o2,o3,o4⟩:=aAq h6 (kf3 cs ns) fun j=>rfl;refine⟨o,o1,?_,fun g hg fg=>SX h6 hs h0 hm B C o1 o2 (fun a b ha hb h=>?_) hg fg⟩
 ·have sk:=YK (F:=hU) (n:=(n:Int)) (ns:=ns) (cs:=cs) (by rw[nsl]) (by lia) cn (by rw[nsl];exact o3)
  rw[nsl,o4] at sk;have hr:=gR n (by lia);have cm:bQ bJ xX [none,some (.lst (tI ((dR (t.map (m * ·)) r).map fun (g:Nat)=>(g:Int))))] (G.rangeT 0 n)=some (tI ns):=by
   rw[EG (fun u=>match u with | .int x=>.int ((c x.toNat:Nat):Int) | u=>u) _ fun u hu=>?_]
   ·rw[BR,<- hns]
    unfold tI;rw[aIz,aIz]
    rfl
   ·obtain⟨i,hi,rfl⟩:=AT hu
    rw[Int.zero_add];have fs:=OG (dR (t.map (m * ·)) r) (h:=i) (by lia);rw[ec i hi] at fs;unfold xX;simp only[f1_at,fVar_at,fCall_at,aCons_at,aNil_at,List.set,zz0,zz1,jn,zz2,fs,cT,gScal_int];simp
  have cap1:ns.length<=cap:=by rw[nsl];unfold cap;lia
  rw[MZ];unfold uE;simp only[rSeq_at,rSet_at,rRet_at,fVar_at,fCall_at,aCons_at,aNil_at,fComp_at,fRange_at,List.set,zz0,zz1,jn,zz2,zz3,ff,oLen_lst,tI_length,B.len,hr,bV,aIy,aJ0,aJz,cm,cap1,if_true,fSKM_at,sk,outT_rt]
  rfl
 ·rw[vJ] at h
  have h1:(kf3 cs ns a).1=((aM (c a):Nat):Int):=csg a ha;have h2:(kf3 cs ns b).1=((aM (c b):Nat):Int):=csg b hb;have h3:(kf3 cs ns a).2.1=((c a:Nat):Int):=nsg a ha;have h4:(kf3 cs ns b).2.1=((c b:Nat):Int):=nsg b hb;rw[h1,h2,h3,h4] at h;have l1:=aHi (C.lt a ha) h64;unfold DkM;lia
def bL:Nat:=2^90000
theorem qN {i j:Int}(hi:i.natAbs<bL) (hj:j.natAbs<bL):bN (.int i) (.int j)=some (.int (i*j)):=qO (sE 90000 90000 hi hj (by decide) (by decide))
theorem ix0 (a b:Int):oIx (.tup [.int a,.int b]) (.int 0)=some (.int a):=rfl
theorem ix1 (a b:Int):oIx (.tup [.int a,.int b]) (.int 1)=some (.int b):=rfl
theorem NG {a b c d:Int}(ha:a.natAbs<bL) (hb:b.natAbs<bL) (hc:c.natAbs<bL) (hd:d.natAbs<bL):kY [.tup [.int a,.int b],.tup [.int c,.int d]]=some (.bl (decide (a*d<c*b))):=by
 rw[NJ];unfold uH;simp only[rRet_at,f2_at,fVar_at,fC_at,zz0,zz1,jn,zz2,ix0,ix1,qN ha hd,qN hc hb,oLt_int,zz3,outT_rt]
theorem SV {s g:Int}(hs:0<s) (hg:0<g):(frI s g).1*g=s*(frI s g).2/\0<(frI s g).1/\0<(frI s g).2/\(frI s g).2<=g:=by
 obtain⟨_,_,e1,e2,p2,_⟩:=FG (t:=s) (b:=g) (by lia);generalize frD s g=D at e1 e2;generalize (frI s g).1=a at *;generalize (frI s g).2=b at *;have hD:0<D:=by
  rcases aI0 0 D with h | h
  ·exact h
  ·have:=Int.mul_nonpos_of_nonpos_of_nonneg h (aHz p2)
   lia
 refine⟨?_,?_,p2,?_⟩
 ·rw[e1,e2];grind
 ·rcases aI0 0 a with h | h
  ·exact h
  ·have:=Int.mul_nonpos_of_nonneg_of_nonpos (aHz hD) h
   lia
 ·have:=aI3 (show 1<=D by lia) (aHz p2)
  lia
def tp2 (x:Int × Int):List T:=[.int x.1,.int x.2]
theorem LY (a b:Nat->Int):∀ l:List Nat,gC (tI (l.map a)) (tI (l.map b))=tP tp2 (l.map fun g=>(a g,b g))
 | []=>rfl
 | g::l=>by
  have:=LY a b l;unfold gC tP at *;simp only[aIy,tI_cons,List.zipWith_cons_cons,this]
  rfl
structure MoI (m G:Int) (ys:List (Int × Int)) (q:Int × Int):Prop where
 p1:0<q.1
 q1:0<q.2
 le:∀ x∈ys,0<x.2->q.1*x.2<=x.1*q.2
 sz:q.1<=m*q.2
 gt:q.2<=G
 or:q=(m,1)\/(q.1<m*q.2/\∃ x∈ys,0<x.2/\q.1*x.2=x.1*q.2)
theorem MoI.skip {m G:Int}{ys:List (Int × Int)}{q x:Int × Int}(I:MoI m G ys q) (h:0<x.2->¬ x.1*q.2<q.1*x.2):MoI m G (ys++[x]) q:=by
 refine⟨I.p1,I.q1,fun y hy h0=>?_,I.sz,I.gt,?_⟩
 ·rcases aJ1.mp hy with hy | hy
  ·exact I.le y hy h0
  ·have e:y=x:=by simpa using hy
   subst e;exact Int.not_lt.mp (h h0)
 ·rcases I.or with h | ⟨h,y,hy,h2⟩
  ·exact .inl h
  ·exact .inr ⟨h,y,aJ2 _ hy,h2⟩
theorem MoI.next {m G:Int}{ys:List (Int × Int)}{q x:Int × Int}(I:MoI m G ys q) (h0:0<x.2) (h1:0<x.1) (hG:x.2<=G) (h:x.1*q.2<q.1*x.2):MoI m G (ys++[x]) (frI x.1 x.2):=by
 obtain⟨e,p,b,l⟩:=SV h1 h0;have hq:=I.q1;have lt:(frI x.1 x.2).1*q.2<q.1*(frI x.1 x.2).2:=by
  have h2:(frI x.1 x.2).1*q.2*x.2<q.1*(frI x.1 x.2).2*x.2:=by
   have h3:=Int.mul_lt_mul_of_pos_right h b;have e1:(frI x.1 x.2).1*q.2*x.2=x.1*q.2*(frI x.1 x.2).2:=by
    rw[aI4,e,aI4]
   rw[e1,aI4 q.1];exact h3
  exact Int.lt_of_mul_lt_mul_right h2 (aHz h0)
 refine⟨p,b,fun y hy hy0=>?_,?_,Int.le_trans l hG,.inr ⟨?_,x,by simp,h0,e⟩⟩
 ·rcases aJ1.mp hy with hy | hy
  ·have h2:=I.le y hy hy0
   have h3:(frI x.1 x.2).1*y.2*q.2<=y.1*(frI x.1 x.2).2*q.2:=by
    have a1:=aI3 (aHz lt) (aHz hy0);have a2:=aI3 h2 (aHz b);have e1:(frI x.1 x.2).1*y.2*q.2=(frI x.1 x.2).1*q.2*y.2:=aI4 ..;have e2:q.1*(frI x.1 x.2).2*y.2=q.1*y.2*(frI x.1 x.2).2:=aI4 ..;have e3:y.1*(frI x.1 x.2).2*q.2=y.1*q.2*(frI x.1 x.2).2:=aI4 ..;lia
   exact Int.le_of_mul_le_mul_right h3 hq
  ·have e:y=x:=by simpa using hy
   subst e;lia
 ·have h3:(frI x.1 x.2).1*q.2<m*(frI x.1 x.2).2*q.2:=by
   have a1:=aI3 I.sz (aHz b);have e3:m*(frI x.1 x.2).2*q.2=m*q.2*(frI x.1 x.2).2:=aI4 ..;lia
  exact aHz (Int.lt_of_mul_lt_mul_right h3 (aHz hq))
 ·have h3:(frI x.1 x.2).1*q.2<m*(frI x.1 x.2).2*q.2:=by
   have a1:=aI3 I.sz (aHz b);have e3:m*(frI x.1 x.2).2*q.2=m*q.2*(frI x.1 x.2).2:=aI4 ..;lia
  exact Int.lt_of_mul_lt_mul_right h3 (aHz hq)
def mW (n:Nat) (t r x:List Int) (m:Int):List (Int × Int):=(List.range (2^n)).map fun g=>(m*t.getD g 0-gv r g,t.getD g 0-gv x g)
theorem NZ {n:Nat}(h6:n<=6) {t r x:List Int}{m:Int}(hl:t.length=2^n) (hr:r.length=n) (hx:x.length=n) (hm:0<m) (hmb:m.natAbs*10^203<bL) (htb:∀ y∈t,y.natAbs<bL)
  (h1:∀ y∈mW n t r x m,y.1.natAbs<bL/\y.2.natAbs<bL/\y.2<=10^202/\(0<y.2->0<y.1)):
  ∃ q,mD [.lst (tI t),.int m,.lst (tI r),.lst (tI x)]=some (.tup [.int q.1,.int q.2])/\MoI m (10^202) (mW n t r x m) q:=by
 have h64:=cC h6;have mb:m.natAbs<bL:=by
  have:m.natAbs*1<=m.natAbs*10^203:=Nat.mul_le_mul_left _ (by decide +kernel);lia
 have fs:=DD (m:=m) (t:=t) (fun y hy=>sE 90000 90000 mb (htb y hy) (by decide) (by decide)) (by lia);have hl':(t.map (m * ·)).length=2^n:=by rw[aIr,hl]
 have f1:=vH h6 hl' hr;have f2:=vH h6 hl hx;have ez:gC (tI (bE (t.map (m * ·)) r)) (tI (bE t x))=tP tp2 (mW n t r x m):=by
  unfold bE mW;rw[hl',hl,LY]
  congr 1
  refine List.map_congr_left fun g _=>?_;rw[AR]
 have one:(1:Int).natAbs<bL:=by unfold bL;decide +kernel
 have ten:10^202<bL:=by unfold bL;decide +kernel
 have f9:10^202<2^9000:=by decide +kernel
 obtain⟨ρ',hlp,q,x6,x7,rfl,Q⟩:=FE (js:=[6,7]) (body:=uP) tp2 (fun ys ρ=>∃ q x6 x7,ρ=[some (.lst (tI t)),some (.int m),some (.lst (tI r)),some (.lst (tI x)),some (.tup [.int q.1,.int q.2]),some (.lst (tI (bE (t.map (m * ·)) r))),x6,x7]/\MoI m (10^202) ys q) (mW n t r x m) [] (fun y hy ys ρ hρ=>by
  obtain⟨q,x6,x7,rfl,I⟩:=hρ;obtain⟨b1,b2,b3,b4⟩:=h1 y hy;have qb2:q.2.natAbs<bL:=by
   have:=I.gt;have:=I.q1;lia
  have qb1:q.1.natAbs<bL:=by
   have a1:=I.sz;have a2:=I.p1;have a3:=aI2 I.gt (aHz hm);have a4:m*10^202<=m*10^203:=aI2 (by decide +kernel) (aHz hm);have a5:(m.natAbs*10^203:Nat)=(m*10^203).natAbs:=by rw[Int.natAbs_mul];rfl
   lia
  have fl:=NG b1 b2 qb1 qb2;refine⟨[some (.lst (tI t)),some (.int m),some (.lst (tI r)),some (.lst (tI x)),some (.tup [.int q.1,.int q.2]),some (.lst (tI (bE (t.map (m * ·)) r))),some (.int y.1),some (.int y.2)],?_⟩
  by_cases hc:0<y.2/\y.1*q.2<q.1*y.2
  ·refine⟨_,rfl,?_,frI y.1 y.2,some (.int y.1),some (.int y.2),rfl,I.next hc.1 (b4 hc.1) b3 hc.2⟩
   have ff:=NI (t:=y.1) (b:=y.2) (by lia) (by lia);have d1:decide (0<y.2)=true:=decide_eq_true hc.1;have d2:decide (y.1*q.2<q.1*y.2)=true:=decide_eq_true hc.2;have c2:2<=cap:=by decide
   unfold uP;simp only[rIf_at,rSet_at,pAnd_at,fB_at,fT_at,f1_at,f2_at,fVar_at,fC_at,fTup_at,fCall_at,aCons_at,aNil_at,List.set,zz0,zz1,jn,zz2,zz3,oGt_int,d1,isB_bl,if_true,gScal_int,aIp,aIs,aJw,Nat.reduceAdd,c2,fl,d2,truT_bl,ff,zU]
  ·refine⟨_,rfl,?_,q,some (.int y.1),some (.int y.2),rfl,I.skip fun z w=>hc ⟨z,w⟩⟩
   have c2:2<=cap:=by decide
   unfold uP
   by_cases h0:0<y.2
   ·have d1:decide (0<y.2)=true:=decide_eq_true h0
    have d2:decide (y.1*q.2<q.1*y.2)=false:=decide_eq_false fun z=>hc ⟨h0,z⟩;simp only[rIf_at,rNext_at,pAnd_at,fB_at,fT_at,f1_at,f2_at,fVar_at,fC_at,fTup_at,fCall_at,aCons_at,aNil_at,List.set,zz0,zz1,jn,zz2,zz3,oGt_int,d1,isB_bl,if_true,gScal_int,aIp,aIs,aJw,Nat.reduceAdd,c2,fl,d2,truT_bl,aHq,if_false]
   ·have d1:decide (0<y.2)=false:=decide_eq_false h0
    simp only[rIf_at,rNext_at,pAnd_at,fB_at,f2_at,fVar_at,fC_at,List.set,zz0,zz1,jn,zz2,zz3,oGt_int,d1,isB_bl,aHq,if_false])
  [some (.lst (tI t)),some (.int m),some (.lst (tI r)),some (.lst (tI x)),some (.tup [.int m,.int 1]),some (.lst (tI (bE (t.map (m * ·)) r))),none,none] ⟨(m,1),none,none,rfl,⟨hm,(by show (0:Int)<1;decide),(fun y hy=>by cases hy),(by show m<=m*1;lia),(by show (1:Int)<=10^202;decide +kernel),.inl rfl⟩⟩
 rw[List.nil_append] at Q;refine⟨q,?_,Q⟩;have c2:2<=cap:=by decide
 rw[OA];unfold uO;simp only[rSeq_at,rSet_at,rRet_at,rForT_at,fZip_at,fFL_at,f1_at,fVar_at,fC_at,fTup_at,fCall_at,aCons_at,aNil_at,List.set,zz0,zz1,jn,zz2,zz3,gScal_int,aIp,aIs,aJw,Nat.reduceAdd,c2,if_true,fs,f1,f2,eI,ez,hlp,zU,outT_rt]
theorem GX {u a b:List Int}{q p:Int}(g:Nat):∀ ks:List Nat,(∀ k∈ks,u.getD k 0=q*a.getD k 0-p*b.getD k 0)->gvS u ks g=q*gvS a ks g-p*gvS b ks g
 | [],_=>by simp[gvS]
 | k::ks,h=>by
  have ih:=GX g ks fun j hj=>h j (aHd _ hj);have hk:=h k (by simp);simp only[gvS,ih];cases g.testBit k with
  | true=>
   simp only[if_true];rw[hk];grind
  | false=>
   simp only[aHq,if_false]
   grind
theorem VD {u a b:List Int}{q p:Int}{n:Nat}(hu:u.length=n) (ha:a.length=n) (hb:b.length=n) (h:∀ k,k<n->u.getD k 0=q*a.getD k 0-p*b.getD k 0) (g:Nat):gv u g=q*gv a g-p*gv b g:=by
 unfold gv;rw[hu,ha,hb];exact GX g _ fun k hk=>h k (aHh.mp hk)
def dY (q:Int × Int) (r x:List Int):List Int:=List.zipWith (fun left share=>q.2*left-q.1*share) r x
theorem LX {f:Int->Int->Int}:∀ (r x:List Int) (h:Nat),h<r.length->h<x.length->(List.zipWith f r x).getD h 0=f (r.getD h 0) (x.getD h 0)
 | [],_,h,h1,_=>by simp at h1
 | _::_,[],h,_,h2=>by simp at h2
 | a::r,b::x,0,_,_=>rfl
 | a::r,b::x,h+1,h1,h2=>LX r x h (by simpa using h1) (by simpa using h2)
def smM (M:List Mx):Int:=(M.map fun x:Mx=>x.2).sum
def rwM (n:Nat) (t:List Int) (M:List Mx):List Int:=M.foldl (stM n t) (List.replicate n 0)
def mxM (q:Int × Int) (M:List Mx) (o:List Nat):List Mx:=(M.map fun x:Mx=>(x.1,q.2*x.2))++[(o,q.1)]
theorem CJ (q:Int × Int) (o:List Nat):∀ M:List Mx,smM (mxM q M o)=q.2*smM M+q.1
 | []=>by simp[smM,mxM]
 | x::M=>by
  have ih:=CJ q o M;unfold smM mxM at *;simp only[aIy,List.cons_append,List.sum_cons];rw[ih];grind
theorem EY {n:Nat}(t:List Int) {h:Nat}(hh:h<n):∀ (M:List Mx) (r:List Int),r.length=n->(M.foldl (stM n t) r).getD h 0=r.getD h 0+(M.map fun x:Mx=>x.2*(aT n t x.1).getD h 0).sum
 | [],r,_=>by simp
 | x::M,r,hr=>by
  rw[List.foldl_cons,EY t hh M _ (aDa n t r x),aIy,List.sum_cons];have:(stM n t r x).getD h 0=r.getD h 0+x.2*(aT n t x.1).getD h 0:=wI hh;rw[this];lia
theorem JQ (n h:Nat):(List.replicate n (0:Int)).getD h 0=0:=by
 rw[aHb,List.getElem?_replicate]
 split<;>rfl
theorem KI {n:Nat}(t:List Int) {h:Nat}(hh:h<n) (M:List Mx):(rwM n t M).getD h 0=(M.map fun x:Mx=>x.2*(aT n t x.1).getD h 0).sum:=by
 unfold rwM;rw[EY t hh M _ (aIu ..),JQ];lia
theorem aCj {n:Nat}(t:List Int) {h:Nat}(hh:h<n) (q:Int × Int) (o:List Nat) (M:List Mx):(rwM n t (mxM q M o)).getD h 0=q.2*(rwM n t M).getD h 0+q.1*(aT n t o).getD h 0:=by
 rw[KI t hh,KI t hh]
 induction M with
 | nil=>simp[mxM]
 | cons x M ih=>
  unfold mxM at *;simp only[aIy,List.cons_append,List.sum_cons];rw[ih];grind
def fcM (n:Nat) (t:List Int) (m:Int) (r:List Int):Nat:=((List.range (2^n)).filter fun g=>decide (gv r g=m*t.getD g 0)).length
theorem SS (n:Nat) (t:List Int) (m:Int) (r:List Int):fcM n t m r<=2^n:=by
 have:=aIq (fun g=>decide (gv r g=m*t.getD g 0)) (List.range (2^n));rw[aIt] at this;exact this
theorem ES {p p':Nat->Bool}:∀ l:List Nat,(∀ x∈l,p x=true->p' x=true)->(l.filter p).length<=(l.filter p').length
 | [],_=>by simp
 | a::l,h=>by
  have ih:=ES l fun x hx=>h x (aHd _ hx);have ha:=h a (by simp);rw[aId,aId];cases h1:p a with
  | true=>rw[ha h1];simpa using ih
  | false=>cases p' a<;>simp<;>lia
theorem ET {p p':Nat->Bool}:∀ l:List Nat,(∀ x∈l,p x=true->p' x=true)->(∃ x∈l,p x=false/\p' x=true)->(l.filter p).length<(l.filter p').length
 | [],_,h=>by obtain⟨x,hx,_⟩:=h;cases hx
 | a::l,h,⟨x,hx,hp,hp'⟩=>by
  rw[aId,aId];rcases aHm.mp hx with e | hx
  ·subst e
   have ih:=ES l fun x hx=>h x (aHd _ hx);rw[hp,hp'];simp;lia
  ·have ih:=ET l (fun x hx=>h x (aHd _ hx)) ⟨x,hx,hp,hp'⟩
   have ha:=h a (by simp);cases h1:p a with
   | true=>rw[ha h1];simpa using ih
   | false=>cases p' a<;>simp<;>lia
structure Mst (n:Nat) (t s:List Int) (k:Nat) (m:Int) (r:List Int) (M:List Mx):Prop where
 m0:0<=m
 bs:BsM n t m r
 ok:∀ x∈M,x.1.Perm (List.range n)/\1<=x.2
 row:∀ h,h<n->(m+smM M)*s.getD h 0=r.getD h 0+(rwM n t M).getD h 0
 bd:m+smM M<=(10^202)^k
 len:M.length=k
theorem CL:∀ {M:List Mx},(∀ x∈M,1<=x.2)->0<=smM M/\∀ x∈M,x.2<=smM M
 | [],_=>⟨by simp[smM],fun x hx=>by cases hx⟩
 | y::M,h=>by
  obtain⟨h1,h2⟩:=CL fun x hx=>h x (aHd _ hx);have hy:=h y (by simp);have e:smM (y::M)=y.2+smM M:=by unfold smM;rw[aIy,List.sum_cons]
  rw[e];refine⟨by lia,fun x hx=>?_⟩;rcases aHm.mp hx with rfl | hx
  ·lia
  ·have:=h2 x hx;lia
theorem aDb {n:Nat}{t s:List Int}(hs:Sub n t) (h0:t.getD 0 0=0) {k:Nat}{m:Int}{r:List Int}{M:List Mx}(I:Mst n t s k m r M) (hm:0<m) {o:List Nat}(ho:o.Perm (List.range n))
  (ht:∀ g,g<2^n->cE t m r g->gv (aT n t o) g=t.getD g 0) {q:Int × Int} (J:MoI m (10^202) (mW n t r (aT n t o) m) q):
  Mst n t s (k+1) (q.2*m-q.1) (dY q r (aT n t o)) (mxM q M o)/\(q.2*m-q.1=0\/fcM n t m r<fcM n t (q.2*m-q.1) (dY q r (aT n t o))):=by
 have B:=I.bs;have xl:(aT n t o).length=n:=CM n t o;have rl:(dY q r (aT n t o)).length=n:=by unfold dY;rw[List.length_zipWith,B.len,xl];lia
 have rg:∀ h,h<n->(dY q r (aT n t o)).getD h 0=q.2*r.getD h 0-q.1*(aT n t o).getD h 0:=fun h hh=>LX r _ h (by rw[B.len];exact hh) (by rw[xl];exact hh);have rgv:=VD rl B.len xl rg;obtain⟨tb1,tb2⟩:=LL (n:=n) (t:=t) h0 ho;have tb2:=tb2 hs;have tb1:gv (aT n t o) (2^n-1)=t.getD (2^n-1) 0:=tb1;have tb2:∀ g,g<2^n->gv (aT n t o) g<=t.getD g 0:=tb2;have q1:=J.q1;have p1:=J.p1;have prs:∀ g,g<2^n->(m*t.getD g 0-gv r g,t.getD g 0-gv (aT n t o) g)∈mW n t r (aT n t o) m:=fun g hg=>aJ7.mpr ⟨g,aHh.mpr hg,rfl⟩;have spare:∀ g,(q.2*m-q.1)*t.getD g 0-gv (dY q r (aT n t o)) g=q.2*(m*t.getD g 0-gv r g)-q.1*(t.getD g 0-gv (aT n t o) g):=fun g=>by rw[rgv g];grind
 have pos:0<2^n:=aJs (by decide);refine⟨⟨?_,⟨rl,fun g hg=>?_,?_⟩,fun x hx=>?_,fun h hh=>?_,?_,?_⟩,?_⟩
 ·have:=J.sz
  rw[Int.mul_comm m] at this;lia
 ·have u1:=B.und g hg
  have u2:=tb2 g hg;have e:=spare g;have a1:=Int.mul_nonneg (aHz q1) (show 0<=m*t.getD g 0-gv r g by lia);rcases aI0 0 (t.getD g 0-gv (aT n t o) g) with hg0 | hg0
  ·have h2:=J.le _ (prs g hg) hg0
   have h2:q.1*(t.getD g 0-gv (aT n t o) g)<=(m*t.getD g 0-gv r g)*q.2:=h2;rw[Int.mul_comm _ q.2] at h2;lia
  ·have h3:t.getD g 0-gv (aT n t o) g=0:=by lia
   rw[h3,Int.mul_zero] at e;lia
 ·have e:=spare (2^n-1)
  rw[B.all,tb1,aI6,aI6,Int.mul_zero,Int.mul_zero,aI6] at e;exact (Int.eq_of_sub_eq_zero e).symm
 ·unfold mxM at hx
  rcases aJ1.mp hx with hx | hx
  ·obtain⟨y,hy,rfl⟩:=aJ7.mp hx
   obtain⟨a,b⟩:=I.ok y hy;refine⟨a,?_⟩;have:=Int.mul_pos q1 (show 0<y.2 by lia);show 1<=q.2*y.2;lia
  ·have e:x=(o,q.1):=by simpa using hx
   subst e;exact⟨ho,p1⟩
 ·have e:=I.row h hh
  rw[CJ,rg h hh,aCj t hh];have e2:q.2*((m+smM M)*s.getD h 0)=q.2*(r.getD h 0+(rwM n t M).getD h 0):=by rw[e]
  grind
 ·rw[CJ]
  have e:q.2*m-q.1+(q.2*smM M+q.1)=q.2*(m+smM M):=by grind
  have nn:=(CL fun x hx=>(I.ok x hx).2).1;have a1:=aI3 J.gt (show 0<=m+smM M by lia);have a2:=aI2 I.bd (show (0:Int)<=10^202 by decide +kernel);rw[e,Int.pow_succ,Int.mul_comm _ (10^202)];exact Int.le_trans a1 a2
 ·unfold mxM
  rw[aIo,aIr,I.len];rfl
 ·rcases J.or with e | ⟨h1,x,hx,h2,h3⟩
  ·refine .inl ?_
   rw[e];show 1*m-m=0;lia
  ·refine .inr ?_
   obtain⟨g,hg,rfl⟩:=aJ7.mp hx;have hg:=aHh.mp hg;refine ET _ (fun y hy hf=>?_) ⟨g,aHh.mpr hg,decide_eq_false fun z=>?_,decide_eq_true ?_⟩
   ·have hf:=of_decide_eq_true hf
    have hy:=aHh.mp hy;have e:=spare y;rw[ht y hy hf,hf,aI6,aI6,Int.mul_zero,Int.mul_zero,aI6] at e;exact decide_eq_true (Int.eq_of_sub_eq_zero e).symm
   ·have:=ht g hg z
    have h2:0<t.getD g 0-gv (aT n t o) g:=h2;lia
   ·have e:=spare g
    have h3:q.1*(t.getD g 0-gv (aT n t o) g)=(m*t.getD g 0-gv r g)*q.2:=h3;rw[h3,Int.mul_comm _ q.2,aI6] at e;exact (Int.eq_of_sub_eq_zero e).symm
theorem EI {f:Rho->Option T}{ρ:Rho}(h:Int->Int->Int):∀ (ns ms:List Int),(∀ x∈ns,∀ y∈ms,f ((ρ.set 0 (some (.int x))).set 1 (some (.int y)))=some (.int (h x y)))->cG [0,1] bJ f ρ (gC (tI ns) (tI ms))=some (tI (List.zipWith h ns ms))
 | [],_,_=>rfl
 | _::_,[],_=>rfl
 | n::ns,m::ms,h2=>by
  have ih:=EI h ns ms fun x hx y hy=>h2 x (aHd _ hx) y (aHd _ hy);show (setL ρ [0,1] [.int n,.int m]).bind _=_;simp only[setL_cons,setL_nil,zz2,bJ,if_true];rw[h2 n aHe m aHe];show ((cG [0,1] bJ f ρ (gC (tI ns) (tI ms))).map (T.int (h n m) :: ·))=_;rw[ih]
  rfl
def gB:Int:=(10^202)^65
theorem LO {k:Nat}(h:k<=65):(10^202:Int)^k<=gB:=by
 unfold gB;have e:(10^202:Int)=((10^202:Nat):Int):=by decide +kernel
 rw[e,<- Int.natCast_pow,<- Int.natCast_pow];exact Int.ofNat_le.mpr (aJq (by decide +kernel) h)
theorem LM:(gB*10^203).natAbs<bL:=by unfold gB bL;decide +kernel
theorem LN:0<=gB:=by unfold gB;decide +kernel
theorem DW {n:Nat}{t r:List Int}{m:Int}(F:Fal n (10^200) t) (B:BsM n t m r) (hm:0<=m) {g:Nat}(hg:g<2^n):gv r g<=m*10^200 /\ - (m*(2*10^200))<=gv r g:=by
 have hc:=HC (row:=r) (a:=g) (by rw[B.len];exact hg);rw[B.len,B.all] at hc;have u1:=B.und g hg;have u2:=B.und (2^n-1-g) (by lia);have b:∀ i,t.getD i 0<=10^200 /\ -(10^200)<=t.getD i 0:=fun i=>by
  have h:=F.bd.get i;have e:((10^200:Nat):Int)=10^200:=by decide +kernel
  lia
 have l1:=aI2 (b g).1 hm;have l2:=aI2 (b (2^n-1-g)).1 hm;have l3:=aI2 (b (2^n-1)).2 hm;generalize m*t.getD g 0=a1 at *;generalize m*t.getD (2^n-1-g) 0=a2 at *;generalize m*t.getD (2^n-1) 0=a3 at *;have e1:m*(2*10^200)=m*10^200+m*10^200:=by grind
 have e2:m * -(10^200) = -(m*10^200):=by grind
 lia
theorem rH {i m:Int}{c:Int}(hm:0<=m) (hT:m<=gB) (hc:c<=10^203) (h1:i<=m*c) (h2 : -(m*c)<=i):i.natAbs<bL:=by
 have a1:=aI2 hc hm;have a2:=aI3 hT (show (0:Int)<=10^203 by decide +kernel);have a3:=LM;lia
theorem XN (q:Int × Int) (M:List Mx) (o:List Nat):(M.map fun x:Mx=>T.tup (tpM (x.1,q.2*x.2)))++[.tup [.lst (tI (tN' o)),.int q.1]]=tP tpM (mxM q M o):=by
 unfold tP mxM;rw[List.map_append,aIz]
 rfl
theorem LR {n:Nat}(h6:n<=6) {t s:List Int}(F:Fal n (10^200) t) {k:Nat}(hk:k<=64) {m:Int}{r:List Int}{M:List Mx}(I:Mst n t s k m r M) (hm:0<m) (x5 x6 x7:Option T):
  ∃ (q:Int × Int) (o:List Nat) (y5 y6 y7:Option T),gW [some (.lst (tI t)),some (.lst (tI s)),some (.lst (tP tpM M)),some (.int m),some (.lst (tI r)),x5,x6,x7]=some (.nx [some (.lst (tI t)),some (.lst (tI s)),some (.lst (tP tpM (mxM q M o))),some (.int (q.2*m-q.1)),some (.lst (tI (dY q r (aT n t o)))),y5,y6,y7]) /\
   Mst n t s (k+1) (q.2*m-q.1) (dY q r (aT n t o)) (mxM q M o)/\(q.2*m-q.1=0\/fcM n t m r<fcM n t (q.2*m-q.1) (dY q r (aT n t o))):=by
 have h64:=cC h6;have hl:=F.len;have B:=I.bs;have nn:=CL fun x hx=>(I.ok x hx).2;have hT:m+smM M<=gB:=Int.le_trans I.bd (LO (by lia));have hmT:m<=gB:=by have:=nn.1;lia
 have m0:=I.m0;have e200:((10^200:Nat):Int)=10^200:=by decide +kernel
 have e201:((10^201:Nat):Int)=10^201:=by decide +kernel
 have tbig:∀ y∈t,y.natAbs<bL:=fun y hy=>by
  have h:=F.bd y hy;have:10^200<bL:=by unfold bL;decide +kernel
  lia
 have mbig:m.natAbs<bL:=rH m0 hmT (c:=1) (by decide +kernel) (by lia) (by lia);obtain⟨o,ho,fo,ft⟩:=MY h6 hl F.sub F.zero hm B;have fs:=DD (m:=m) (t:=t) (fun y hy=>sE 90000 90000 mbig (tbig y hy) (by decide) (by decide)) (by lia);have fb:=MW h6 hl ho;have xl:=CM n t o;have xb:=aEa (n:=n) F.bd o;obtain⟨_,tb2⟩:=LL (n:=n) (t:=t) F.zero ho;have tb2:∀ g,g<2^n->gv (aT n t o) g<=t.getD g 0:=tb2 F.sub;have gvx:∀ g,(gv (aT n t o) g).natAbs<=6*10^201:=fun g=>by
  rw[<- AB];exact FZ xb (by rw[xl];exact h6) g
 have e203:m.natAbs*10^203<bL:=by
  have a2:=aI3 hmT (show (0:Int)<=10^203 by decide +kernel);have a3:=LM;have a5:(m.natAbs*10^203:Nat)=(m*10^203).natAbs:=by rw[Int.natAbs_mul];rfl
  have a6:0<=m*10^203:=Int.mul_nonneg m0 (by decide +kernel);lia
 have tenB:10^202<bL:=by unfold bL;decide +kernel
 have e202:(10^202:Int)=((10^202:Nat):Int):=by decide +kernel
 have sum7:10^200+6*10^201<=10^202:=by decide +kernel
 obtain⟨q,fm,J⟩:=NZ h6 hl B.len xl hm e203 tbig fun y hy=>by
  obtain⟨g,hg,rfl⟩:=aJ7.mp hy;have hg:=aHh.mp hg;have u1:=B.und g hg;have u2:=tb2 g hg;obtain⟨v1,v2⟩:=DW F B m0 hg;have w:=gvx g;have bt:=F.bd.get g;refine⟨rH m0 hmT (c:=3*10^200) (by decide +kernel) ?_ ?_,?_,?_,fun h0=>?_⟩
  ·have l1:=aI2 (show t.getD g 0<=10^200 by lia) m0
   show m*t.getD g 0-gv r g<=m*(3*10^200);have e1:m*(3*10^200)=m*10^200+m*(2*10^200):=by grind
   lia
  ·have:0<=m*(3*10^200):=Int.mul_nonneg m0 (by decide +kernel)
   show -(m*(3*10^200))<=m*t.getD g 0-gv r g;lia
  ·show (t.getD g 0-gv (aT n t o) g).natAbs<bL
   lia
  ·show t.getD g 0-gv (aT n t o) g<=10^202
   lia
  ·have h0:0<t.getD g 0-gv (aT n t o) g:=h0
   show 0<m*t.getD g 0-gv r g;rcases aI0 0 (m*t.getD g 0-gv r g) with z | z
   ·exact z
   ·have:=ft g hg (show gv r g=m*t.getD g 0 by lia)
    lia
 have q1:=J.q1;have p1:=J.p1;have qb2:q.2.natAbs<bL:=by have:=J.gt;lia
 have qb1:q.1.natAbs<bL:=by
  have a1:=J.sz;have a3:=aI2 J.gt m0;exact rH m0 hmT (c:=10^202) (by decide +kernel) (by lia) (by lia)
 have mu1:=qN qb2 mbig;have e1:cG [0,1] bJ xK [none,none,some (.tup [.int q.1,.int q.2])] (gC (tI r) (tI (aT n t o)))=some (tI (dY q r (aT n t o))):=by
  refine EI _ r (aT n t o) fun x hx y hy=>?_;have xB:x.natAbs<bL:=by
   obtain⟨h,hh,e⟩:=List.mem_iff_getElem.mp hx;have hhn:h<n:=by rw[<- B.len];exact hh
   have eg:=HE hh;rw[aHb,aHc hh,e] at eg;have eg:gv r (2^h)=x:=eg;obtain⟨v1,v2⟩:=DW F B m0 (Nat.pow_lt_pow_right (by decide) hhn:2^h<2^n);rw[eg] at v1 v2;have:m*(2*10^200)=m*10^200+m*10^200:=by grind
   have:0<=m*10^200:=Int.mul_nonneg m0 (by decide +kernel);exact rH m0 hmT (c:=2*10^200) (by decide +kernel) (by lia) (by lia)
  have yB:y.natAbs<bL:=by
   have:=xb y hy;lia
  have m1:=qN qb2 xB;have m2:=qN qb1 yB;unfold xK;simp only[f2_at,fVar_at,fC_at,List.set,zz0,zz1,jn,zz2,ix0,ix1,m1,m2,oSub_int]
 have rl:(dY q r (aT n t o)).length=n:=by unfold dY;rw[List.length_zipWith,B.len,xl];lia
 have rc:(dY q r (aT n t o)).length<=cap:=by rw[rl];unfold cap;lia
 have c2:2<=cap:=by decide
 have c1:1<=cap:=by decide
 have e2:cG [0,1] bJ xL [none,none,some (.tup [.int q.1,.int q.2])] (tP tpM M)=some (M.map fun x:Mx=>T.tup (tpM (x.1,q.2*x.2))):=QO _ M fun x hx=>by
  have xB:x.2.natAbs<bL:=by
   have a1:=(I.ok x hx).2;have a2:=nn.2 x hx;have a3:=nn.1;exact rH (m:=gB) LN (Int.le_refl _) (c:=1) (by decide +kernel) (by lia) (by have:=LN;lia)
  have m1:=qN qb2 xB;unfold xL;simp only[fTup_at,f2_at,fVar_at,fC_at,aCons_at,aNil_at,List.set,zz0,zz1,jn,zz2,ix1,m1,aIp,aIs,aJw,Nat.reduceAdd,c2,if_true]
  rfl
 have Ml:=I.len;have e2c:(M.map fun x:Mx=>T.tup (tpM (x.1,q.2*x.2))).length<=cap:=by rw[aIr,Ml];unfold cap;lia
 have oc:=YE (xs:=M.map fun x:Mx=>T.tup (tpM (x.1,q.2*x.2))) (ys:=[.tup [.lst (tI (tN' o)),.int q.1]]) (by rw[aIr,Ml];show k+1<=cap;unfold cap;lia);rw[XN] at oc;obtain⟨S1,S2⟩:=aDb F.sub F.zero I hm ho ft J;refine⟨q,o,some (.lst (tI (tN' o))),some (.lst (tI (aT n t o))),some (.tup [.int q.1,.int q.2]),?_,S1,S2⟩;unfold gW;rw[rSeq_at];simp only[rSet_at,fVar_at,fCall_at,aCons_at,aNil_at,List.set,zz0,zz1,jn,zz2,zz3,fs,fo];rw[rSeq_at];simp only[rSet_at,fVar_at,fCall_at,aCons_at,aNil_at,List.set,zz0,zz1,jn,zz2,zz3,fb];rw[rSeq_at];simp only[rSet_at,f1_at,fVar_at,fCall_at,aCons_at,aNil_at,List.set,zz0,zz1,jn,zz2,zz3,fm,zU];rw[rSeq_at];simp only[rSet_at,fCompT_at,fZip_at,fFL_at,fVar_at,List.set,zz0,zz1,jn,zz2,zz3,eI,bV,aIy,aJ0,aJz,e1,tI_length,rc,if_true];rw[rSeq_at];simp only[rSet_at,f2_at,fC_at,fVar_at,List.set,zz0,zz1,jn,zz2,zz3,ix0,ix1,mu1,oSub_int];simp only[rSet_at,f1_at,f2_at,fC_at,fVar_at,fL_at,fLst_at,fTup_at,fCompT_at,aCons_at,aNil_at,List.set,zz0,zz1,jn,zz2,zz3,WA,bV,aIy,aJ0,aJz,e2,e2c,if_true,ix0,gScal_int,aIp,aIs,aJw,Nat.reduceAdd,c1,c2,oc]
theorem XB {n:Nat}(h6:n<=6) {t s:List Int}(F:Fal n (10^200) t):∀ (d k:Nat) (m:Int) (r:List Int) (M:List Mx) (x5 x6 x7:Option T) (f:Nat),Mst n t s k m r M->(0<m->2^n-fcM n t m r<=d)->k+d<=64->d+2<=f ->
  ∃ k' r' M' ρ',cD jJ gW f [some (.lst (tI t)),some (.lst (tI s)),some (.lst (tP tpM M)),some (.int m),some (.lst (tI r)),x5,x6,x7]=some (.nx ρ')/\ρ'[2]?=some (some (.lst (tP tpM M')))/\Mst n t s k' 0 r' M'/\k'<=65/\k<=k'/\(0<m->k<k'):=by
 have stop:∀ (k:Nat) (r:List Int) (M:List Mx) (x5 x6 x7:Option T) (f:Nat),Mst n t s k 0 r M->0<f->cD jJ gW f [some (.lst (tI t)),some (.lst (tI s)),some (.lst (tP tpM M)),some (.int 0),some (.lst (tI r)),x5,x6,x7]=some (.nx [some (.lst (tI t)),some (.lst (tI s)),some (.lst (tP tpM M)),some (.int 0),some (.lst (tI r)),x5,x6,x7]):=fun k r M x5 x6 x7 f I hf=>by
  obtain⟨f,rfl⟩:∃ f',f=f'+1:=⟨f-1,by lia⟩;rw[cD]
  rfl
 have go:∀ (m:Int) (r:List Int) (M:List Mx) (x5 x6 x7:Option T) (f:Nat) {ρ':Rho},0<m->gW [some (.lst (tI t)),some (.lst (tI s)),some (.lst (tP tpM M)),some (.int m),some (.lst (tI r)),x5,x6,x7]=some (.nx ρ') ->
   cD jJ gW (f+1) [some (.lst (tI t)),some (.lst (tI s)),some (.lst (tP tpM M)),some (.int m),some (.lst (tI r)),x5,x6,x7]=cD jJ gW f ρ':=fun m r M x5 x6 x7 f ρ' hm e=>by
  rw[cD];have hp:jJ [some (.lst (tI t)),some (.lst (tI s)),some (.lst (tP tpM M)),some (.int m),some (.lst (tI r)),x5,x6,x7]=some true:=by
   unfold jJ;simp only[fB_at,f2_at,fVar_at,fC_at,zz0,zz1,jn,zz2,oGt_int,decide_eq_true hm,isB_bl]
  rw[hp,zz2,if_pos rfl,e]
  rfl
 intro d
 induction d with
 | zero=>
  intro k m r M x5 x6 x7 f I hd hk hf;rcases aI0 0 m with hm | hm
  ·obtain⟨q,o,y5,y6,y7,e,S,c⟩:=LR h6 F (by lia) I hm x5 x6 x7
   obtain⟨f,rfl⟩:∃ f',f=f'+1:=⟨f-1,by lia⟩;have h1:=hd hm;rcases c with c | c
   ·rw[c] at S e
    refine⟨k+1,_,_,[some (.lst (tI t)),some (.lst (tI s)),some (.lst (tP tpM (mxM q M o))),some (.int 0),some (.lst (tI (dY q r (aT n t o)))),y5,y6,y7],?_,rfl,S,by lia,by lia,fun _=>by lia⟩;rw[go m r M x5 x6 x7 f hm e];exact stop _ _ _ _ _ _ f S (by lia)
   ·have:=SS n t (q.2*m-q.1) (dY q r (aT n t o))
    lia
  ·have e:m=0:=by have:=I.m0;lia
   subst e;exact⟨k,r,M,_,stop k r M x5 x6 x7 f I (by lia),rfl,I,by lia,aJf k,fun z=>by lia⟩
 | succ d ih=>
  intro k m r M x5 x6 x7 f I hd hk hf;rcases aI0 0 m with hm | hm
  ·obtain⟨q,o,y5,y6,y7,e,S,c⟩:=LR h6 F (by lia) I hm x5 x6 x7
   obtain⟨f,rfl⟩:∃ f',f=f'+1:=⟨f-1,by lia⟩;have h1:=hd hm;rcases c with c | c
   ·rw[c] at S e
    refine⟨k+1,_,_,[some (.lst (tI t)),some (.lst (tI s)),some (.lst (tP tpM (mxM q M o))),some (.int 0),some (.lst (tI (dY q r (aT n t o)))),y5,y6,y7],?_,rfl,S,by lia,by lia,fun _=>by lia⟩;rw[go m r M x5 x6 x7 f hm e];exact stop _ _ _ _ _ _ f S (by lia)
   ·obtain⟨k',r',M',ρ',h2,h3,h4,h5,h7,_⟩:=ih (k+1) _ _ _ y5 y6 y7 f S (fun _=>by lia) (by lia) (by lia)
    refine⟨k',r',M',ρ',?_,h3,h4,h5,by lia,fun _=>by lia⟩;rw[go m r M x5 x6 x7 f hm e];exact h2
  ·have e:m=0:=by have:=I.m0;lia
   subst e;exact⟨k,r,M,_,stop k r M x5 x6 x7 f I (by lia),rfl,I,by lia,aJf k,fun z=>by lia⟩
theorem MC {n:Nat}(h6:n<=6) {t s:List Int}(F:Fal n (10^200) t) (B:Bas n t s) (hmf:hJ [.lst (tI t)]=some (.inl .non)):∃ M:List Mx,jM [.lst (tI t),.lst (tI s)]=some (.inl (.lst (tP tpM M)))/\M≠[]/\M.length<=65/\(∀ x∈M,x.1.Perm (List.range n)/\1<=x.2)/\smM M<=gB/\∀ h,h<n->smM M*s.getD h 0=(rwM n t M).getD h 0:=by
 have I0:Mst n t s 0 1 s []:=by
  refine⟨by decide,⟨B.len,fun g hg=>?_,?_⟩,(fun x hx=>by cases hx),fun h hh=>?_,?_,rfl⟩
  ·rw[Int.one_mul];exact B.und g hg
  ·rw[Int.one_mul];exact B.all
  ·have e:(rwM n t []).getD h 0=0:=JQ n h
   rw[e];show (1+0)*s.getD h 0=_;lia
  ·show (1:Int)+0<=_
   rw[Int.pow_zero];decide
 have h64:=cC h6;obtain⟨k',r',M,ρ',h1,h2,S,h3,h4,h5⟩:=XB h6 F (2^n) 0 1 s [] none none none 100000 I0 (fun _=>Nat.sub_le _ _) (by lia) (by lia);have hr0:∀ h,h<n->r'.getD h 0=0:=fun h hh=>by
  have hl:=S.bs.len;have pw:2^h<2^n:=Nat.pow_lt_pow_right (by decide) hh;have eg:=HE (row:=r') (k:=h) (by lia);have hc:=HC (row:=r') (a:=2^h) (by rw[hl];exact pw);rw[hl,S.bs.all] at hc;have u1:=S.bs.und (2^h) pw;have u2:=S.bs.und (2^n-1-2^h) (aJi (Nat.sub_le _ _) (Nat.sub_lt (aJs (by decide)) (by decide)));rw[Int.zero_mul] at u1 u2 hc;lia
 refine⟨M,?_,?_,?_,S.ok,?_,fun h hh=>?_⟩
 ·have fb:=PJ h6 F.len F.zero B
  have c0:0<=cap:=aJx _;have h1:cD jJ gW 100000 [some (.lst (tI t)),some (.lst (tI s)),some (.lst []),some (.int 1),some (.lst (tI s)),none,none,none]=some (.nx ρ'):=h1;rw[yQ];unfold mZ;simp only[xSeq_at,xCall_at,xIf_at,xOf_at,rSeq_at,rSet_at,rNext_at,rRet_at,rWhile_at,pNot_at,fT_at,fC_at,fLst_at,fVar_at,fCall_at,aCons_at,aNil_at,List.set,zz0,zz1,jn,zz2,zz3,hmf,fb,truT_bl,aHs,aHq,if_false,aIs,c0,if_true,h1,h2,outT_rt,outX_inl]
 ·intro e
  have:=S.len;rw[e] at this;have h5:=h5 (by decide);have:k'=0:=this.symm;lia
 ·rw[S.len];exact h3
 ·have:=S.bd
  have:=LO h3;lia
 ·have e:=S.row h hh
  rw[hr0 h hh,Int.zero_add,Int.zero_add] at e;exact e
theorem PH {n:Nat}{t s:List Int}(hl:t.length=2^n) (hs:s.length=n) (h:gI n t s=true):Bas n t s:=by
 unfold gI at h;rw[aHn,beq_iff_eq] at h;exact⟨hs,(LU hl).mp h.1,h.2⟩
theorem MB {n:Nat}(h6:n<=6) {t s:List Int}(hl:t.length=2^n) (h0:t.getD 0 0=0) (hb:Bd (10^200) t) (hs:s.length=n):∃ L:List T,jM [.lst (tI t),.lst (tI s)]=some (if eW n t then (if gI n t s then .inl (.lst L) else .inr "NotBase") else .inr "NotFalling"):=by
 have m:hJ [.lst (tI t)]=some (if eW n t then .inl .non else .inr "NotFalling"):=MA (NE h6 hl);have fb:=NO h6 hl h0 hs;cases hf:eW n t with
 | false=>
  rw[hf] at m;simp only[aHq,if_false] at m;refine⟨[],?_⟩;rw[yQ];unfold mZ;simp only[xSeq_at,xCall_at,fVar_at,aCons_at,aNil_at,zz0,zz1,jn,zz2,zz3,m,outX_inr,aHq,if_false]
 | true=>
  rw[hf] at m;simp only[if_true] at m;cases hbs:gI n t s with
  | false=>
   rw[hbs] at fb;refine⟨[],?_⟩;have c1:(1:Nat)<=cap:=by decide
   rw[yQ];unfold mZ;simp only[aIp,aIs,aJw,c1,xSeq_at,xCall_at,xIf_at,xRaise_at,pNot_at,fT_at,fC_at,fVar_at,fCall_at,aCons_at,aNil_at,zz0,zz1,jn,zz2,zz3,m,fb,truT_bl,Bool.not_false,outX_inr,if_true,aHq,if_false]
  | true=>
   obtain⟨M,e,_⟩:=MC h6 ⟨hl,h0,hb,aDc h6 hf⟩ (PH hl hs hbs) m;exact⟨tP tpM M,by rw[e];rfl⟩
theorem OO {n:Nat}(h6:n<=6) {t s:List Int}(hl:t.length=2^n) (h0:t.getD 0 0=0) (hb:Bd (10^200) t) (hs:s.length=n):kP [.lst (tI t),.lst (tI s)]=some (.str (if eW n t then (if gI n t s then "none" else "base") else "falling")):=by
 obtain⟨L,fx⟩:=MB h6 hl h0 hb hs;have g1:∀ w:Str,aW (.str w)=some (.str w):=fun _=>rfl;have il:wP "list" (.lst L)=some (.bl true):=rfl;have hm1:("NotFalling" : Str)∈(["NotFalling","NotBase"]:List Str):=aHe;have hm2:("NotBase" : Str)∈(["NotFalling","NotBase"]:List Str):=aHd _ aHe;have c2:(2:Nat)<=cap:=by decide
 have i1:dW [("NotFalling",true),("NotBase",false)] (.exc "NotFalling")=some (.bl true):=rfl;have i2:dW [("NotFalling",false),("NotBase",true)] (.exc "NotFalling")=some (.bl false):=rfl;have i3:dW [("NotFalling",false),("NotBase",false)] (.exc "NotFalling")=some (.bl false):=rfl;have i4:dW [("NotFalling",true),("NotBase",true)] (.exc "NotFalling")=some (.bl true):=rfl;have j1:dW [("NotFalling",true),("NotBase",false)] (.exc "NotBase")=some (.bl false):=rfl;have j2:dW [("NotFalling",false),("NotBase",true)] (.exc "NotBase")=some (.bl true):=rfl;have j3:dW [("NotFalling",false),("NotBase",false)] (.exc "NotBase")=some (.bl false):=rfl;have j4:dW [("NotFalling",true),("NotBase",true)] (.exc "NotBase")=some (.bl true):=rfl;have k1:wM (.lst [.bl true,.bl false]) (.bl true)=some (.int 1):=rfl;have k2:wM (.lst [.bl false,.bl true]) (.bl true)=some (.int 1):=rfl;have k3:wO (.lst [.bl true,.bl false]) (.bl true)=some (.int 0):=rfl;have k4:wO (.lst [.bl false,.bl true]) (.bl true)=some (.int 1):=rfl;have w1:oIx (.lst [.str "falling",.str "base"]) (.int 0)=some (.str "falling"):=rfl;have w2:oIx (.lst [.str "falling",.str "base"]) (.int 1)=some (.str "base"):=rfl;rw[MQ];unfold tY;cases hf:eW n t with
 | false=>
  rw[hf] at fx;simp only[aHq,if_false] at fx;simp only[rSeq_at,rSet_at,rTryS_at,rIf_at,rNext_at,rRet_at,pAnd_at,pNot_at,fT_at,fB_at,f1_at,f2_at,vOr_at,vNot_at,fLst_at,fVar_at,fC_at,aCons_at,aNil_at,List.set,zz0,zz1,jn,zz2,zz3,fx,hm1,if_true,i1,i2,i3,i4,aIp,aIs,aJw,Nat.reduceAdd,c2,truT_bl,isB_bl,aHs,Bool.not_false,aHq,if_false,gScal_bl,k1,oEq_int,beq_self_eq_true,k3,w1,g1,outT_rt]
 | true=>
  rw[hf] at fx;simp only[if_true] at fx;cases hbs:gI n t s with
  | false=>
   rw[hbs] at fx;simp only[aHq,if_false] at fx;simp only[rSeq_at,rSet_at,rTryS_at,rIf_at,rNext_at,rRet_at,pAnd_at,pNot_at,fT_at,fB_at,f1_at,f2_at,vOr_at,vNot_at,fLst_at,fVar_at,fC_at,aCons_at,aNil_at,List.set,zz0,zz1,jn,zz2,zz3,fx,hm2,if_true,j1,j2,j3,j4,aIp,aIs,aJw,Nat.reduceAdd,c2,truT_bl,isB_bl,aHs,Bool.not_false,aHq,if_false,gScal_bl,k2,oEq_int,beq_self_eq_true,k4,w2,g1,outT_rt]
  | true=>
   rw[hbs] at fx;simp only[if_true] at fx;simp only[rSeq_at,rSet_at,rTryS_at,rIf_at,rNext_at,rRet_at,pNot_at,fT_at,f1_at,fVar_at,fC_at,aCons_at,aNil_at,List.set,zz0,zz1,jn,zz2,zz3,fx,if_true,il,truT_bl,aHs,aHq,if_false,g1,outT_rt]
theorem NS (ns : List Int) (h : ns.length <= 63) : pR [.lst (ns.map T.int)] = some (.bl true) := by
 show pR [.lst (tI ns)] = _;obtain ⟨n, h1, h6, es⟩ := NN ns;obtain ⟨t0, et0, F⟩ := ND ns h h1 h6;have h64 := cC h6;have p2 : 2 <= 2 ^ n := by
  have : 2 ^ 1 <= 2 ^ n := aJq (by decide) h1;lia
 have f1c : bW [.lst (tI ns), .int 1] = some (.int (dA ns 1)) := rA ns 1;have f2c : bW [.lst (tI ns), .int 2] = some (.int (dA ns 2)) := rA ns 2;have f3c : bW [.lst (tI ns), .int 3] = some (.int (dA ns 3)) := rA ns 3;have f4c : bW [.lst (tI ns), .int 4] = some (.int (dA ns 4)) := rA ns 4;generalize dA ns 1 = c1 at *;generalize dA ns 2 = c2 at *;generalize dA ns 3 = c3 at *;generalize dA ns 4 = c4 at *;obtain ⟨W, hW⟩ : ∃ W : Int, W = 10 ^ 60 := ⟨_, rfl⟩;have pw : cN (.int 10) (.int 60) = some (.int W) := by rw [hW]; exact qP 10 60 (by decide +kernel)
 have m13 : aS (.int c1) (.int 3) = some (.int (c1 % 3)) := cK (by decide);have d13 : bK (.int c1) (.int 3) = some (.int (c1 / 3)) := fV (by decide) (by decide);have m134 : aS (.int (c1 / 3)) (.int 4) = some (.int (c1 / 3 % 4)) := cK (by decide);have c4' : (4 : Nat) <= cap := by decide
 have c2' : (2 : Nat) <= cap := by decide
 -- the table
 obtain ⟨t, x3, hl, hz, hb, st3⟩ : ∃ (t : List Int) (x3 : Option T), t.length = 2 ^ n /\ t.getD 0 0 = 0 /\ Bd (10 ^ 200) t /\ rIf (fB (f2 (f2 (aJ (aC (aA 0) (aC (fC (.int 1)) aF)) bW) (fC (.int 3)) aS) (fC (.int 1)) oEq)) (aH (aN 3 (f2 (fC (.int 1)) (f2 (aJ (aC (aA 0) (aC (fC (.int 2)) aF)) bW) (f2 (aJ (aC (aA 2) aF) dE) (fC (.int 1)) cR) aS) bS))
  (eC 2 (aA 3) (f2 (f2 (aA 2) (aA 3) oIx) (f2 (dQ (aC (f1 (fC (.int 1)) dL) (aC (fC (.int 1)) (aC (f1 (f2 (fC (.int 10)) (fC (.int 60)) cN) dL) (aC (f2 (fC (.int 10)) (fC (.int 60)) cN) aF))))) (f2 (f2 (aJ (aC (aA 0) (aC (fC (.int 1)) aF)) bW) (fC (.int 3)) bK) (fC (.int 4)) aS) oIx) bS))) bO
   [some (.lst (tI ns)), some (.int (n : Int)), some (.lst (tI t0)), none, none, none, none, none, none] = some (.nx [some (.lst (tI ns)), some (.int (n : Int)), some (.lst (tI t)), x3, none, none, none, none, none]) := by
  by_cases hc : c1 % 3 = 1
  ·obtain ⟨dv, edv, hdv⟩ : ∃ dv : Int, oIx (.lst [.int (-1), .int 1, .int (-W), .int W]) (.int (c1 / 3 % 4)) = some (.int dv) /\ dv.natAbs <= 10 ^ 60 := by
    rcases (show c1 / 3 % 4 = 0 \/ c1 / 3 % 4 = 1 \/ c1 / 3 % 4 = 2 \/ c1 / 3 % 4 = 3 by lia) with z | z | z | z <;> rw [z]
    ·exact ⟨-1, rfl, by decide⟩
    ·exact ⟨1, rfl, by decide⟩
    ·exact ⟨-W, rfl, by rw [hW]; decide⟩
    ·exact ⟨W, rfl, by rw [hW]; decide⟩
   have lp : (0 : Int) < ((2 ^ n : Nat) : Int) - 1 := by lia
   have mo : aS (.int c2) (.int (((2 ^ n : Nat) : Int) - 1)) = some (.int (c2 % (((2 ^ n : Nat) : Int) - 1))) := cK lp;have a0 := aHy c2 (Int.ne_of_gt lp);have a1 := aHx c2 lp;generalize c2 % (((2 ^ n : Nat) : Int) - 1) = at' at *;obtain ⟨k, hk⟩ : ∃ k : Nat, (k : Int) = 1 + at' := ⟨(1 + at').toNat, by lia⟩;have hkl : k < t0.length := by rw [F.len]; lia
   have ai : atI (tI t0) (1 + at') = some (.int (t0.getD k 0)) := by rw [<- hk]; exact cA hkl
   have ix : ixN t0.length (1 + at') = some k := by
    rw [jV (by lia) (by lia)]
    congr 1
    lia
   refine ⟨t0.set k (t0.getD k 0 + dv), some (.int (1 + at')), by rw [aIv, F.len], ?_, ?_, ?_⟩
   ·rw [cY hkl, if_neg (by lia)]; exact F.zero
   ·refine Bd.of fun i hi => ?_
    rw [cY hkl];have b1 := F.bd.get i;have b2 := F.bd.get k;have e1 : 10 ^ 199 + 10 ^ 60 <= 10 ^ 200 := by decide
    split <;> lia
   ·have hcb : (c1 % 3 == 1) = true := by simpa using hc
    have fl := F.len;generalize t0.getD k 0 = v at *;simp only [rIf_at, rSeq_at, rSet_at, rPut_at, fB_at, f1_at, f2_at, fVar_at, fC_at, fLst_at, fCall_at, aCons_at, aNil_at, List.set, zz0, zz1, jn, zz2, zz3, f1c, m13, oEq_int, hcb, isB_bl, if_true, f2c, oLen_lst, tI_length, fl, oSub_int, mo, oAdd_int, oIx_lst, ai, wS, pw, aIp, aIs, aJw, Nat.reduceAdd, c4', d13, m134];rw [<- oIx_lst, edv];rw [fl] at ix;simp only [zz2, oAdd_int, ix, zz3, jL]
  ·have hcb : (c1 % 3 == 1) = false := by simpa using hc
   refine ⟨t0, none, F.len, F.zero, F.bd.le (by decide), ?_⟩;simp only [rIf_at, rNext_at, fB_at, f2_at, fVar_at, fC_at, fCall_at, aCons_at, aNil_at, zz0, zz1, jn, zz2, f1c, m13, oEq_int, hcb, isB_bl, aHq, if_false]
 obtain ⟨o, eo, ho⟩ := NA c3 h6;have fb := NU h6 hl ho;have sl0 := CM n t o;generalize aT n t o = s0 at fb sl0;have m43 : aS (.int c4) (.int 3) = some (.int (c4 % 3)) := cK (by decide);have d43 : bK (.int c4) (.int 3) = some (.int (c4 / 3)) := fV (by decide) (by decide);have d418 : bK (.int c4) (.int 18) = some (.int (c4 / 18)) := fV (by decide) (by decide);have m4n : aS (.int (c4 / 3)) (.int (n : Int)) = some (.int (c4 / 3 % (n : Int))) := cK (by lia);have m4182 : aS (.int (c4 / 18)) (.int 2) = some (.int (c4 / 18 % 2)) := cK (by decide);have m432 : aS (.int (c4 / 3)) (.int 2) = some (.int (c4 / 3 % 2)) := cK (by decide)
 -- the shares
 obtain ⟨s1, sl1, st6⟩ : ∃ s1 : List Int, s1.length = n /\ rIf (fB (f2 (f2 (aA 5) (fC (.int 3)) aS) (fC (.int 1)) oEq)) (eC 4 (f2 (f2 (aA 5) (fC (.int 3)) bK) (aA 1) aS) (f2 (f2 (aA 4) (f2 (f2 (aA 5) (fC (.int 3)) bK) (aA 1) aS) oIx) (f2 (dQ (aC (fC (.int 1)) (aC (f1 (fC (.int 1)) dL) aF))) (f2 (f2 (aA 5) (fC (.int 18)) bK) (fC (.int 2)) aS) oIx) bS)) bO
   [some (.lst (tI ns)), some (.int (n : Int)), some (.lst (tI t)), x3, some (.lst (tI s0)), some (.int c4), none, none, none] = some (.nx [some (.lst (tI ns)), some (.int (n : Int)), some (.lst (tI t)), x3, some (.lst (tI s1)), some (.int c4), none, none, none]) := by
  by_cases hc : c4 % 3 = 1
  ·have hcb : (c4 % 3 == 1) = true := by simpa using hc
   have a0 := aHy (c4 / 3) (show (n : Int) ≠ 0 by lia);have a1 := aHx (c4 / 3) (show 0 < (n : Int) by lia);generalize c4 / 3 % (n : Int) = at' at *;obtain ⟨k, hk⟩ : ∃ k : Nat, (k : Int) = at' := ⟨at'.toNat, by lia⟩;have hkl : k < s0.length := by lia
   have ai : atI (tI s0) at' = some (.int (s0.getD k 0)) := by rw [<- hk]; exact cA hkl
   have ix : ixN s0.length at' = some k := by
    rw [jV (by lia) (by lia)]
    congr 1
    lia
   obtain ⟨dv, edv⟩ : ∃ dv : Int, oIx (.lst [.int 1, .int (-1)]) (.int (c4 / 18 % 2)) = some (.int dv) := by
    rcases (show c4 / 18 % 2 = 0 \/ c4 / 18 % 2 = 1 by lia) with z | z <;> rw [z]
    ·exact ⟨1, rfl⟩
    ·exact ⟨-1, rfl⟩
   refine ⟨s0.set k (s0.getD k 0 + dv), by rw [aIv, sl0], ?_⟩;generalize s0.getD k 0 = v at *;simp only [rIf_at, rPut_at, fB_at, f1_at, f2_at, fVar_at, fC_at, fLst_at, aCons_at, aNil_at, List.set, zz0, zz1, jn, zz2, zz3, m43, oEq_int, hcb, isB_bl, if_true, d43, m4n, oIx_lst, ai, wS, aIp, aIs, aJw, Nat.reduceAdd, c2', d418, m4182];rw [<- oIx_lst, edv];simp only [zz2, oAdd_int, tI_length, ix, zz3, jL]
  ·have hcb : (c4 % 3 == 1) = false := by simpa using hc
   refine ⟨s0, sl0, ?_⟩;simp only [rIf_at, rNext_at, fB_at, f2_at, fVar_at, fC_at, zz0, zz1, jn, zz2, m43, oEq_int, hcb, isB_bl, aHq, if_false]
 obtain ⟨s, x6, sl, st7⟩ : ∃ (s : List Int) (x6 : Option T), s.length = n /\ rIf (fB (f2 (f2 (aA 5) (fC (.int 3)) aS) (fC (.int 2)) oEq)) (aH (aN 6 (f1 (f2 (dQ (aC (fC (.int 1)) (aC (f2 (fC (.int 10)) (fC (.int 60)) cN) aF))) (f2 (f2 (aA 5) (fC (.int 3)) bK) (fC (.int 2)) aS) oIx) aW))
  (aH (eC 4 (fC (.int 0)) (f2 (f2 (aA 4) (fC (.int 0)) oIx) (aA 6) bS))
  (eC 4 (f1 (fC (.int 1)) dL) (f2 (f2 (aA 4) (f1 (fC (.int 1)) dL) oIx) (aA 6) cR)))) bO
   [some (.lst (tI ns)), some (.int (n : Int)), some (.lst (tI t)), x3, some (.lst (tI s1)), some (.int c4), none, none, none] = some (.nx [some (.lst (tI ns)), some (.int (n : Int)), some (.lst (tI t)), x3, some (.lst (tI s)), some (.int c4), x6, none, none]) := by
  by_cases hc : c4 % 3 = 2
  ·have hcb : (c4 % 3 == 2) = true := by simpa using hc
   obtain ⟨dv, edv⟩ : ∃ dv : Int, oIx (.lst [.int 1, .int W]) (.int (c4 / 3 % 2)) = some (.int dv) := by
    rcases (show c4 / 3 % 2 = 0 \/ c4 / 3 % 2 = 1 by lia) with z | z <;> rw [z]
    ·exact ⟨1, rfl⟩
    ·exact ⟨W, rfl⟩
   have ai : atI (tI s1) 0 = some (.int (s1.getD 0 0)) := cA (i := 0) (by lia);have ix : ixN s1.length 0 = some 0 := jV (by lia) (by lia);generalize s1.getD 0 0 = v at *;have l2 : (s1.set 0 (v + dv)).length = n := by rw [aIv, sl1]
   have aj : atI (tI (s1.set 0 (v + dv))) (-1) = some (.int ((s1.set 0 (v + dv)).getD (n - 1) 0)) := by rw [G.atI_last (by lia), l2]
   have iy : ixN (s1.set 0 (v + dv)).length (-1) = some (n - 1) := by
    unfold ixN;rw [if_neg (by lia), l2];rw [if_pos (by lia)]
    congr 1
    lia
   generalize es2 : s1.set 0 (v + dv) = s2 at *;generalize s2.getD (n - 1) 0 = v2 at *;refine ⟨s2.set (n - 1) (v2 - dv), some (.int dv), by rw [aIv, l2], ?_⟩;rw [rIf_at];simp only [fB_at, f2_at, fVar_at, fC_at, zz0, zz1, jn, zz2, m43, oEq_int, hcb, isB_bl, if_true];rw [rSeq_at];simp only [rSet_at, f1_at, f2_at, fVar_at, fC_at, fLst_at, aCons_at, aNil_at, List.set, zz0, zz1, jn, zz2, zz3, pw, aIp, aIs, aJw, Nat.reduceAdd, c2', if_true, d43, m432, edv, gScal_int];rw [rSeq_at];simp only [rPut_at, f2_at, fVar_at, fC_at, List.set, zz0, zz1, jn, zz2, zz3, oIx_lst, ai, oAdd_int, tI_length, ix, jL];rw [es2];simp only [rPut_at, f1_at, f2_at, fVar_at, fC_at, List.set, zz0, zz1, jn, zz2, zz3, wS, oIx_lst, aj, oSub_int, tI_length, iy, jL]
  ·have hcb : (c4 % 3 == 2) = false := by simpa using hc
   refine ⟨s1, none, sl1, ?_⟩;simp only [rIf_at, rNext_at, fB_at, f2_at, fVar_at, fC_at, zz0, zz1, jn, zz2, m43, oEq_int, hcb, isB_bl, aHq, if_false]
 have fbase := NT h6 hl sl;have ffall := NW h6 hl;have fw := OO h6 hl hz hb sl;have g1 : ∀ w : Str, aW (.str w) = some (.str w) := fun _ => rfl;have eqs : ∀ w : Str, oEq (.str w) (.str w) = some (.bl true) := fun w => IK (by simp [dep]);have eqL := IK (QT t s);have x0 : ∀ a b : T, oIx (.lst [a, b]) (.int 0) = some a := fun _ _ => rfl;have x1 : ∀ a b : T, oIx (.lst [a, b]) (.int 1) = some b := fun _ _ => rfl;have c2' : (2 : Nat) <= cap := by decide
 rw [NR];unfold uM;rw [rSeq_at];simp only [rSet_at, f1_at, fVar_at, fCall_at, aCons_at, aNil_at, List.set, zz0, jn, zz2, zz3, es, gScal_int];rw [rSeq_at];simp only [rSetM_at, fVar_at, fCall_at, aCons_at, aNil_at, List.set, zz0, zz1, jn, zz2, zz3, et0, okM_lst, if_true];rw [rSeq_at, st3];simp only [zz2];rw [rSeq_at];simp only [rSetM_at, fC_at, fVar_at, fCall_at, aCons_at, aNil_at, List.set, zz0, zz1, jn, zz2, zz3, f3c, eo, fb, okM_lst, if_true];rw [rSeq_at];simp only [rSet_at, f1_at, fC_at, fVar_at, fCall_at, aCons_at, aNil_at, List.set, zz0, zz1, jn, zz2, zz3, f4c, gScal_int];rw [rSeq_at, st6];simp only [zz2];rw [rSeq_at, st7];simp only [zz2];rw [rSeq_at];simp only [rSet_at, fC_at, List.set, zz2, zz3];rw [rSeq_at];cases hbs : gI n t s <;> cases hf : eW n t <;> (
  rw [hbs] at fbase fw;rw [hf] at ffall fw;simp only [aHq, if_false, if_true] at fw;simp only [rSeq_at, rIf_at, rNext_at, rSet_at, rRet_at, pNot_at, fT_at, fC_at, f1_at, f2_at, fVar_at, fLst_at, vAnd_at, fCall_at, aCons_at, aNil_at, List.set, zz0, zz1, jn, zz2, zz3, fbase, ffall, truT_bl, aHs, Bool.not_false, aHq, if_false, if_true, oList_lst, TB, aIp, aIs, aJw, Nat.reduceAdd, c2', x0, x1, fw, eqs, isB_bl, eqL, gScal_bl, outT_rt])
@[elab_as_elim] theorem ln1 {P:List Value->Prop}:∀ (us:List Value) (_:us.length=1) (f:∀ a0,P [a0]),P us
 | [a0],_,f=>f a0
@[elab_as_elim] theorem ln2 {P:List Value->Prop}:∀ (us:List Value) (_:us.length=2) (f:∀ a0 a1,P [a0,a1]),P us
 | [a0,a1],_,f=>f a0 a1
@[elab_as_elim] theorem ln3 {P:List Value->Prop}:∀ (us:List Value) (_:us.length=3) (f:∀ a0 a1 a2,P [a0,a1,a2]),P us
 | [a0,a1,a2],_,f=>f a0 a1 a2
@[elab_as_elim] theorem ln4 {P:List Value->Prop}:∀ (us:List Value) (_:us.length=4) (f:∀ a0 a1 a2 a3,P [a0,a1,a2,a3]),P us
 | [a0,a1,a2,a3],_,f=>f a0 a1 a2 a3
theorem all_mk {l:PySem.W.OpenLaw}{w:World}{K:PySem.W.Frag}{h:Heap}{mg:Str->Option Value}{fa f0 f1 f2 f3 f4 f5 f6 f7 f8 f9 f10 f11 f12 f13 f14 f15 f16 f17 f18 f19 f20 f21 f22 f23 f24 f25 f26 f27 f28 f29 f30 f31 f32 f33 f34 f35 f36 f37 f38 f39 Pt cq bm:Addr}(X:K.In h) (G0:h.Ns mainGlobals mg) (hfa:mg "law" = some (.ref fa))
  {od0 an0:Option Addr} {sl0:Array (Option Value)} {oc0 kV0 dc0 pm0 cd0 ct0:Value} (a0:FA K "_law_cell" f0) (l0:FL K f0 "_law_cell" nD .none oc0 od0 kV0 dc0 pm0 an0 cd0 ct0 sl0) (cc0:FC K cd0 "_law_cell") (k0:FK K f0)
  {od1 an1:Option Addr} {sl1:Array (Option Value)} {oc1 kV1 dc1 pm1 cd1 ct1:Value} (a1:FA K "_law_hands" f1) (l1:FL K f1 "_law_hands" nI .none oc1 od1 kV1 dc1 pm1 an1 cd1 ct1 sl1) (cc1:FC K cd1 "_law_hands") (k1:FK K f1)
  {od2 an2:Option Addr} {sl2:Array (Option Value)} {oc2 kV2 dc2 pm2 cd2 ct2:Value} (a2:FA K "_law_slots" f2) (l2:FL K f2 "_law_slots" nL .none oc2 od2 kV2 dc2 pm2 an2 cd2 ct2 sl2) (cc2:FC K cd2 "_law_slots") (k2:FK K f2)
  {od3 an3:Option Addr} {sl3:Array (Option Value)} {oc3 kV3 dc3 pm3 cd3 ct3:Value} (a3:FA K "_law_many" f3) (l3:FL K f3 "_law_many" nJ .none oc3 od3 kV3 dc3 pm3 an3 cd3 ct3 sl3) (cc3:FC K cd3 "_law_many") (k3:FK K f3)
  {od4 an4:Option Addr} {sl4:Array (Option Value)} {oc4 kV4 dc4 pm4 cd4 ct4:Value} (a4:FA K "_law_tied" f4) (l4:FL K f4 "_law_tied" nM .none oc4 od4 kV4 dc4 pm4 an4 cd4 ct4 sl4) (cc4:FC K cd4 "_law_tied") (k4:FK K f4)
  {od5 an5:Option Addr} {sl5:Array (Option Value)} {oc5 kV5 dc5 pm5 cd5 ct5:Value} (a5:FA K "_law_noisy" f5) (l5:FL K f5 "_law_noisy" nK .none oc5 od5 kV5 dc5 pm5 an5 cd5 ct5 sl5) (cc5:FC K cd5 "_law_noisy") (k5:FK K f5)
  {od6 an6:Option Addr} {sl6:Array (Option Value)} {oc6 kV6 dc6 pm6 cd6 ct6:Value} (a6:FA K "_law_falling" f6) (l6:FL K f6 "_law_falling" nF .none oc6 od6 kV6 dc6 pm6 an6 cd6 ct6 sl6) (cc6:FC K cd6 "_law_falling") (k6:FK K f6)
  {od7 an7:Option Addr} {sl7:Array (Option Value)} {oc7 kV7 dc7 pm7 cd7 ct7:Value} (a7:FA K "_law_drawn" f7) (l7:FL K f7 "_law_drawn" nE .none oc7 od7 kV7 dc7 pm7 an7 cd7 ct7 sl7) (cc7:FC K cd7 "_law_drawn") (k7:FK K f7)
  {od8 an8:Option Addr} {sl8:Array (Option Value)} {oc8 kV8 dc8 pm8 cd8 ct8:Value} (a8:FA K "_law_by" f8) (l8:FL K f8 "_law_by" nC .none oc8 od8 kV8 dc8 pm8 an8 cd8 ct8 sl8) (cc8:FC K cd8 "_law_by") (k8:FK K f8)
  {od9 an9:Option Addr} {sl9:Array (Option Value)} {oc9 kV9 dc9 pm9 cd9 ct9:Value} (a9:FA K "_law_gives" f9) (l9:FL K f9 "_law_gives" nH .none oc9 od9 kV9 dc9 pm9 an9 cd9 ct9 sl9) (cc9:FC K cd9 "_law_gives") (k9:FK K f9)
  {od10 an10:Option Addr} {sl10:Array (Option Value)} {oc10 kV10 dc10 pm10 cd10 ct10:Value} (a10:FA K "_law_under" f10) (l10:FL K f10 "_law_under" nN .none oc10 od10 kV10 dc10 pm10 an10 cd10 ct10 sl10) (cc10:FC K cd10 "_law_under") (k10:FK K f10)
  {od11 an11:Option Addr} {sl11:Array (Option Value)} {oc11 kV11 dc11 pm11 cd11 ct11:Value} (a11:FA K "_law_base" f11) (l11:FL K f11 "_law_base" nB .none oc11 od11 kV11 dc11 pm11 an11 cd11 ct11 sl11) (cc11:FC K cd11 "_law_base") (k11:FK K f11)
  {od12 an12:Option Addr} {sl12:Array (Option Value)} {oc12 kV12 dc12 pm12 cd12 ct12:Value} (a12:FA K "_law_falls" f12) (l12:FL K f12 "_law_falls" nG .none oc12 od12 kV12 dc12 pm12 an12 cd12 ct12 sl12) (cc12:FC K cd12 "_law_falls") (k12:FK K f12)
  {od13 an13:Option Addr} {sl13:Array (Option Value)} {oc13 kV13 dc13 pm13 cd13 ct13:Value} (a13:FA K "everybody" f13) (l13:FL K f13 "everybody" nV .none oc13 od13 kV13 dc13 pm13 an13 cd13 ct13 sl13) (cc13:FC K cd13 "everybody") (k13:FK K f13)
  {od14 an14:Option Addr} {sl14:Array (Option Value)} {oc14 kV14 dc14 pm14 cd14 ct14:Value} (a14:FA K "hands_in" f14) (l14:FL K f14 "hands_in" pB .none oc14 od14 kV14 dc14 pm14 an14 cd14 ct14 sl14) (cc14:FC K cd14 "hands_in") (k14:FK K f14)
  {od15 an15:Option Addr} {sl15:Array (Option Value)} {oc15 kV15 dc15 pm15 cd15 ct15:Value} (a15:FA K "two_break" f15) (l15:FL K f15 "two_break" pN .none oc15 od15 kV15 dc15 pm15 an15 cd15 ct15 sl15) (cc15:FC K cd15 "two_break") (k15:FK K f15)
  {od16 an16:Option Addr} {sl16:Array (Option Value)} {oc16 kV16 dc16 pm16 cd16 ct16:Value} (a16:FA K "break_beside" f16) (l16:FL K f16 "break_beside" nP .none oc16 od16 kV16 dc16 pm16 an16 cd16 ct16 sl16) (cc16:FC K cd16 "break_beside") (k16:FK K f16)
  {od17 an17:Option Addr} {sl17:Array (Option Value)} {oc17 kV17 dc17 pm17 cd17 ct17:Value} (a17:FA K "break_of" f17) (l17:FL K f17 "break_of" nQ .none oc17 od17 kV17 dc17 pm17 an17 cd17 ct17 sl17) (cc17:FC K cd17 "break_of") (k17:FK K f17)
  {od18 an18:Option Addr} {sl18:Array (Option Value)} {oc18 kV18 dc18 pm18 cd18 ct18:Value} (a18:FA K "falls" f18) (l18:FL K f18 "falls" nW .none oc18 od18 kV18 dc18 pm18 an18 cd18 ct18 sl18) (cc18:FC K cd18 "falls") (k18:FK K f18)
  {od19 an19:Option Addr} {sl19:Array (Option Value)} {oc19 kV19 dc19 pm19 cd19 ct19:Value} (a19:FA K "must_fall" f19) (l19:FL K f19 "must_fall" pI .none oc19 od19 kV19 dc19 pm19 an19 cd19 ct19 sl19) (cc19:FC K cd19 "must_fall") (k19:FK K f19)
  {od20 an20:Option Addr} {sl20:Array (Option Value)} {oc20 kV20 dc20 pm20 cd20 ct20:Value} (a20:FA K "hand_count" f20) (l20:FL K f20 "hand_count" pA .none oc20 od20 kV20 dc20 pm20 an20 cd20 ct20 sl20) (cc20:FC K cd20 "hand_count") (k20:FK K f20)
  {od21 an21:Option Addr} {sl21:Array (Option Value)} {oc21 kV21 dc21 pm21 cd21 ct21:Value} (a21:FA K "row_gives" f21) (l21:FL K f21 "row_gives" pK .none oc21 od21 kV21 dc21 pm21 an21 cd21 ct21 sl21) (cc21:FC K cd21 "row_gives") (k21:FK K f21)
  {od22 an22:Option Addr} {sl22:Array (Option Value)} {oc22 kV22 dc22 pm22 cd22 ct22:Value} (a22:FA K "less_row" f22) (l22:FL K f22 "less_row" pE .none oc22 od22 kV22 dc22 pm22 an22 cd22 ct22 sl22) (cc22:FC K cd22 "less_row") (k22:FK K f22)
  {od23 an23:Option Addr} {sl23:Array (Option Value)} {oc23 kV23 dc23 pm23 cd23 ct23:Value} (a23:FA K "over" f23) (l23:FL K f23 "over" pJ .none oc23 od23 kV23 dc23 pm23 an23 cd23 ct23 sl23) (cc23:FC K cd23 "over") (k23:FK K f23)
  {od24 an24:Option Addr} {sl24:Array (Option Value)} {oc24 kV24 dc24 pm24 cd24 ct24:Value} (a24:FA K "is_under" f24) (l24:FL K f24 "is_under" pD .none oc24 od24 kV24 dc24 pm24 an24 cd24 ct24 sl24) (cc24:FC K cd24 "is_under") (k24:FK K f24)
  {od25 an25:Option Addr} {sl25:Array (Option Value)} {oc25 kV25 dc25 pm25 cd25 ct25:Value} (a25:FA K "is_base" f25) (l25:FL K f25 "is_base" pC .none oc25 od25 kV25 dc25 pm25 an25 cd25 ct25 sl25) (cc25:FC K cd25 "is_base") (k25:FK K f25)
  {od26 an26:Option Addr} {sl26:Array (Option Value)} {oc26 kV26 dc26 pm26 cd26 ct26:Value} (a26:FA K "scaled" f26) (l26:FL K f26 "scaled" pL .none oc26 od26 kV26 dc26 pm26 an26 cd26 ct26 sl26) (cc26:FC K cd26 "scaled") (k26:FK K f26)
  {od27 an27:Option Addr} {sl27:Array (Option Value)} {oc27 kV27 dc27 pm27 cd27 ct27:Value} (a27:FA K "full_groups" f27) (l27:FL K f27 "full_groups" nZ .none oc27 od27 kV27 dc27 pm27 an27 cd27 ct27 sl27) (cc27:FC K cd27 "full_groups") (k27:FK K f27)
  {od28 an28:Option Addr} {sl28:Array (Option Value)} {oc28 kV28 dc28 pm28 cd28 ct28:Value} (a28:FA K "within" f28) (l28:FL K f28 "within" pO .none oc28 od28 kV28 dc28 pm28 an28 cd28 ct28 sl28) (cc28:FC K cd28 "within") (k28:FK K f28)
  {od29 an29:Option Addr} {sl29:Array (Option Value)} {oc29 kV29 dc29 pm29 cd29 ct29:Value} (a29:FA K "shared_with" f29) (l29:FL K f29 "shared_with" pM .none oc29 od29 kV29 dc29 pm29 an29 cd29 ct29 sl29) (cc29:FC K cd29 "shared_with") (k29:FK K f29)
  {od30 an30:Option Addr} {sl30:Array (Option Value)} {oc30 kV30 dc30 pm30 cd30 ct30:Value} (a30:FA K "many_in" f30) (l30:FL K f30 "many_in" pF .none oc30 od30 kV30 dc30 pm30 an30 cd30 ct30 sl30) (cc30:FC K cd30 "many_in") (k30:FK K f30)
  {od31 an31:Option Addr} {sl31:Array (Option Value)} {oc31 kV31 dc31 pm31 ct31:Value} (a31:FA K "core_order" f31) (l31:FL K f31 "core_order" nU .none oc31 od31 kV31 dc31 pm31 an31 (.ref cq) ct31 sl31) (cc31:FC K (.ref cq) "core_order") (k31:FK K f31)
  {od32 an32:Option Addr} {sl32:Array (Option Value)} {oc32 kV32 dc32 pm32 cd32 ct32:Value} (a32:FA K "by_order" f32) (l32:FL K f32 "by_order" nR .none oc32 od32 kV32 dc32 pm32 an32 cd32 ct32 sl32) (cc32:FC K cd32 "by_order") (k32:FK K f32)
  {od33 an33:Option Addr} {sl33:Array (Option Value)} {oc33 kV33 dc33 pm33 cd33 ct33:Value} (a33:FA K "fraction_less" f33) (l33:FL K f33 "fraction_less" nY .none oc33 od33 kV33 dc33 pm33 an33 cd33 ct33 sl33) (cc33:FC K cd33 "fraction_less") (k33:FK K f33)
  {od34 an34:Option Addr} {sl34:Array (Option Value)} {oc34 kV34 dc34 pm34 cd34 ct34:Value} (a34:FA K "common_divisor" f34) (l34:FL K f34 "common_divisor" nS .none oc34 od34 kV34 dc34 pm34 an34 cd34 ct34 sl34) (cc34:FC K cd34 "common_divisor") (k34:FK K f34)
  {od35 an35:Option Addr} {sl35:Array (Option Value)} {oc35 kV35 dc35 pm35 cd35 ct35:Value} (a35:FA K "fraction" f35) (l35:FL K f35 "fraction" nX .none oc35 od35 kV35 dc35 pm35 an35 cd35 ct35 sl35) (cc35:FC K cd35 "fraction") (k35:FK K f35)
  {od36 an36:Option Addr} {sl36:Array (Option Value)} {oc36 kV36 dc36 pm36 cd36 ct36:Value} (a36:FA K "most_of" f36) (l36:FL K f36 "most_of" pH .none oc36 od36 kV36 dc36 pm36 an36 cd36 ct36 sl36) (cc36:FC K cd36 "most_of") (k36:FK K f36)
  {od37 an37:Option Addr} {sl37:Array (Option Value)} {oc37 kV37 dc37 pm37 cd37 ct37:Value} (a37:FA K "mixed" f37) (l37:FL K f37 "mixed" pG .none oc37 od37 kV37 dc37 pm37 an37 cd37 ct37 sl37) (cc37:FC K cd37 "mixed") (k37:FK K f37)
  {od38 an38:Option Addr} {sl38:Array (Option Value)} {oc38 kV38 dc38 pm38 cd38 ct38:Value} (a38:FA K "_law_word" f38) (l38:FL K f38 "_law_word" nO .none oc38 od38 kV38 dc38 pm38 an38 cd38 ct38 sl38) (cc38:FC K cd38 "_law_word") (k38:FK K f38)
  {od39 an39:Option Addr} {sl39:Array (Option Value)} {oc39 kV39 dc39 pm39 cd39 ct39:Value} (a39:FA K "law" f39) (l39:FL K f39 "law" gX .none oc39 od39 kV39 dc39 pm39 an39 cd39 ct39 sl39) (cc39:FC K cd39 "law") (k39:FK K f39)
  {smq:Array (Option Value)} (q_code:PySem.W.codeHdIn K cq Pt=true) (q_blt:PySem.W.nsIn K mainGlobals "__builtins__" = some (some (.ref bm))) (q_mod:K.lookup bm=some ⟨.type "module",some builtinsNs,.plain,smq⟩) (n1:bm≠builtinsNs) (n2:bm≠mainGlobals)
  (aH6:PySem.W.nsIn K mainGlobals "len" = some none)
  (aH3:PySem.W.nsIn K mainGlobals "range" = some none)
  (aH7:PySem.W.nsIn K mainGlobals "min" = some none)
  (aGz:PySem.W.nsIn K mainGlobals "enumerate" = some none)
  (aH8:PySem.W.nsIn K mainGlobals "sum" = some none)
  (aH2:PySem.W.nsIn K mainGlobals "sorted" = some none)
  (aH5:PySem.W.nsIn K mainGlobals "abs" = some none)
  (aH9:PySem.W.nsIn K mainGlobals "zip" = some none)
  (aGx:PySem.W.nsIn K mainGlobals "isinstance" = some none)
  (aH4:PySem.W.nsIn K mainGlobals "list" = some none)
  (aGw:PySem.W.nsIn K mainGlobals "ValueError" = some none)
  {aFa:Addr} (n_NotFalling:nmC K "NotFalling" aFa)
  {aFh:Addr} (n_NotBase:nmC K "NotBase" aFh)
  {aH0:Addr} (n_Unlike:nmC K "Unlike" aH0)
  {aGu:Addr} (n_NotUnder:nmC K "NotUnder" aGu)
  {aGq:Addr} (n_NotRising:nmC K "NotRising" aGq)
  {aGt:Addr} (n_BadTable:nmC K "BadTable" aGt)
  {aFt:Addr} (n_CostError:nmC K "CostError" aFt)
  (e_NotFalling:mL K aFa=true)
  (e_NotBase:mL K aFh=true)
  (j_NotFalling_NotFalling:PySem.W.kitOne K (.ref aFa) (.ref aFa)=some true)
  (j_NotFalling_NotBase:PySem.W.kitOne K (.ref aFh) (.ref aFa)=some false)
  (j_NotBase_NotFalling:PySem.W.kitOne K (.ref aFa) (.ref aFh)=some false)
  (j_NotBase_NotBase:PySem.W.kitOne K (.ref aFh) (.ref aFh)=some true)
  (j_Unlike_NotFalling:PySem.W.kitOne K (.ref aFa) (.ref aH0)=some false)
  (j_Unlike_NotBase:PySem.W.kitOne K (.ref aFh) (.ref aH0)=some false)
  (j_NotUnder_NotFalling:PySem.W.kitOne K (.ref aFa) (.ref aGu)=some false)
  (j_NotUnder_NotBase:PySem.W.kitOne K (.ref aFh) (.ref aGu)=some false)
  (j_NotRising_NotFalling:PySem.W.kitOne K (.ref aFa) (.ref aGq)=some false)
  (j_NotRising_NotBase:PySem.W.kitOne K (.ref aFh) (.ref aGq)=some false)
  (j_BadTable_NotFalling:PySem.W.kitOne K (.ref aFa) (.ref aGt)=some false)
  (j_BadTable_NotBase:PySem.W.kitOne K (.ref aFh) (.ref aGt)=some false)
  (v_ValueError_NotFalling:PySem.W.kitOne K (.ref aFa) (.type "ValueError")=some true)
  (v_ValueError_NotBase:PySem.W.kitOne K (.ref aFh) (.type "ValueError")=some true)
  {cd_CostError:ClassData} (p_CostError:PySem.W.typeIn K (.ref aFt)=some (.type "type")) (q_CostError:PySem.W.clsIn K aFt=some cd_CostError) (r_CostError:PySem.W.subIn K (.ref aFt) (.type "BaseException")=some true)
  (s_CostError_NotFalling:PySem.W.subIn K (.ref aFa) (.ref aFt)=some true)
  (s_CostError_NotBase:PySem.W.subIn K (.ref aFh) (.ref aFt)=some true)
  : ∃ fd:FuncData,(∀ (s:Shared) (v:Value),BindsTo s fd ⟨[v],[]⟩ [("script",v)])/\∀ base:Heap,K.In base->base.Ns mainGlobals mg->FnOk l.prog w K mg base CX0 9 fa fd ["script"] (spP Pt cV (spT K pR false 3)):=by
 have e:=hfa.symm.trans (aK5 X G0 a39);cases e;have aF5:=aK4 X G0 aH6;have aF4:=aK4 X G0 aH3;have aGh:=aK4 X G0 aH7;have aF7:=aK4 X G0 aGz;have aH1:=aK4 X G0 aH8;have aGp:=aK4 X G0 aH2;have aGy:=aK4 X G0 aH5;have aGi:=aK4 X G0 aH9;have aFg:=aK4 X G0 aGx;have aG3:=aK4 X G0 aH4;have aG2:=aK4 X G0 aGw;have U0:=bG (st:=nD) l0 cc0 k0;have b0:=U0.binds (ps:=["script","k"]) fun _ _ _ _ _ _ us hl=>ln2 us hl fun _ _=>rfl;have U1:=bG (st:=nI) l1 cc1 k1;have b1:=U1.binds (ps:=["script"]) fun _ _ _ _ _ _ us hl=>ln1 us hl fun _=>rfl;have U2:=bG (st:=nL) l2 cc2 k2;have b2:=U2.binds (ps:=["script","hands"]) fun _ _ _ _ _ _ us hl=>ln2 us hl fun _ _=>rfl;have U3:=bG (st:=nJ) l3 cc3 k3;have b3:=U3.binds (ps:=["group"]) fun _ _ _ _ _ _ us hl=>ln1 us hl fun _=>rfl;have U4:=bG (st:=nM) l4 cc4 k4;have b4:=U4.binds (ps:=["slots","hands","most"]) fun _ _ _ _ _ _ us hl=>ln3 us hl fun _ _ _=>rfl;have U5:=bG (st:=nK) l5 cc5 k5;have b5:=U5.binds (ps:=["slots","hands","most"]) fun _ _ _ _ _ _ us hl=>ln3 us hl fun _ _ _=>rfl;have U6:=bG (st:=nF) l6 cc6 k6;have b6:=U6.binds (ps:=["script","hands"]) fun _ _ _ _ _ _ us hl=>ln2 us hl fun _ _=>rfl;have U7:=bG (st:=nE) l7 cc7 k7;have b7:=U7.binds (ps:=["cell","hands"]) fun _ _ _ _ _ _ us hl=>ln2 us hl fun _ _=>rfl;have U8:=bG (st:=nC) l8 cc8 k8;have b8:=U8.binds (ps:=["table","order"]) fun _ _ _ _ _ _ us hl=>ln2 us hl fun _ _=>rfl;have U9:=bG (st:=nH) l9 cc9 k9;have b9:=U9.binds (ps:=["row","group"]) fun _ _ _ _ _ _ us hl=>ln2 us hl fun _ _=>rfl;have U10:=bG (st:=nN) l10 cc10 k10;have b10:=U10.binds (ps:=["table","shares"]) fun _ _ _ _ _ _ us hl=>ln2 us hl fun _ _=>rfl;have U11:=bG (st:=nB) l11 cc11 k11;have b11:=U11.binds (ps:=["table","shares"]) fun _ _ _ _ _ _ us hl=>ln2 us hl fun _ _=>rfl;have U12:=bG (st:=nG) l12 cc12 k12;have b12:=U12.binds (ps:=["table","hands"]) fun _ _ _ _ _ _ us hl=>ln2 us hl fun _ _=>rfl;have U13:=bG (st:=nV) l13 cc13 k13;have b13:=U13.binds (ps:=["table"]) fun _ _ _ _ _ _ us hl=>ln1 us hl fun _=>rfl;have U14:=bG (st:=pB) l14 cc14 k14;have b14:=U14.binds (ps:=["group"]) fun _ _ _ _ _ _ us hl=>ln1 us hl fun _=>rfl;have U15:=bG (st:=pN) l15 cc15 k15;have b15:=U15.binds (ps:=["table","one","other"]) fun _ _ _ _ _ _ us hl=>ln3 us hl fun _ _ _=>rfl;have U16:=bG (st:=nP) l16 cc16 k16;have b16:=U16.binds (ps:=["table","group"]) fun _ _ _ _ _ _ us hl=>ln2 us hl fun _ _=>rfl;have U17:=bG (st:=nQ) l17 cc17 k17;have b17:=U17.binds (ps:=["table"]) fun _ _ _ _ _ _ us hl=>ln1 us hl fun _=>rfl;have U18:=bG (st:=nW) l18 cc18 k18;have b18:=U18.binds (ps:=["table"]) fun _ _ _ _ _ _ us hl=>ln1 us hl fun _=>rfl;have U19:=bG (st:=pI) l19 cc19 k19;have b19:=U19.binds (ps:=["table"]) fun _ _ _ _ _ _ us hl=>ln1 us hl fun _=>rfl;have U20:=bG (st:=pA) l20 cc20 k20;have b20:=U20.binds (ps:=["table"]) fun _ _ _ _ _ _ us hl=>ln1 us hl fun _=>rfl;have U21:=bG (st:=pK) l21 cc21 k21;have b21:=U21.binds (ps:=["row","group"]) fun _ _ _ _ _ _ us hl=>ln2 us hl fun _ _=>rfl;have U22:=bG (st:=pE) l22 cc22 k22;have b22:=U22.binds (ps:=["table","row"]) fun _ _ _ _ _ _ us hl=>ln2 us hl fun _ _=>rfl;have U23:=bG (st:=pJ) l23 cc23 k23;have b23:=U23.binds (ps:=["table","shares"]) fun _ _ _ _ _ _ us hl=>ln2 us hl fun _ _=>rfl;have U24:=bG (st:=pD) l24 cc24 k24;have b24:=U24.binds (ps:=["table","shares"]) fun _ _ _ _ _ _ us hl=>ln2 us hl fun _ _=>rfl;have U25:=bG (st:=pC) l25 cc25 k25;have b25:=U25.binds (ps:=["table","shares"]) fun _ _ _ _ _ _ us hl=>ln2 us hl fun _ _=>rfl;have U26:=bG (st:=pL) l26 cc26 k26;have b26:=U26.binds (ps:=["many","table"]) fun _ _ _ _ _ _ us hl=>ln2 us hl fun _ _=>rfl;have U27:=bG (st:=nZ) l27 cc27 k27;have b27:=U27.binds (ps:=["table","shares"]) fun _ _ _ _ _ _ us hl=>ln2 us hl fun _ _=>rfl;have U28:=bG (st:=pO) l28 cc28 k28;have b28:=U28.binds (ps:=["one","other"]) fun _ _ _ _ _ _ us hl=>ln2 us hl fun _ _=>rfl;have U29:=bG (st:=pM) l29 cc29 k29;have b29:=U29.binds (ps:=["groups","hand"]) fun _ _ _ _ _ _ us hl=>ln2 us hl fun _ _=>rfl;have U30:=bG (st:=pF) l30 cc30 k30;have b30:=U30.binds (ps:=["group"]) fun _ _ _ _ _ _ us hl=>ln1 us hl fun _=>rfl;have U31:=SY (st:=nU) l31 cc31 k31;have LK:LamK K mg cq Pt bm:=⟨q_code,aK5 X G0 q_blt,⟨_,q_mod⟩,n1,n2⟩;have b31:=U31.fn.binds (ps:=["table","shares"]) fun _ _ _ _ _ _ us hl=>ln2 us hl fun _ _=>rfl;have U32:=bG (st:=nR) l32 cc32 k32;have b32:=U32.binds (ps:=["table","order"]) fun _ _ _ _ _ _ us hl=>ln2 us hl fun _ _=>rfl;have U33:=bG (st:=nY) l33 cc33 k33;have b33:=U33.binds (ps:=["one","other"]) fun _ _ _ _ _ _ us hl=>ln2 us hl fun _ _=>rfl;have U34:=bG (st:=nS) l34 cc34 k34;have b34:=U34.binds (ps:=["one","other"]) fun _ _ _ _ _ _ us hl=>ln2 us hl fun _ _=>rfl;have U35:=bG (st:=nX) l35 cc35 k35;have b35:=U35.binds (ps:=["top","bottom"]) fun _ _ _ _ _ _ us hl=>ln2 us hl fun _ _=>rfl;have U36:=bG (st:=pH) l36 cc36 k36;have b36:=U36.binds (ps:=["table","size","rest","shares"]) fun _ _ _ _ _ _ us hl=>ln4 us hl fun _ _ _ _=>rfl;have U37:=bG (st:=pG) l37 cc37 k37;have b37:=U37.binds (ps:=["table","shares"]) fun _ _ _ _ _ _ us hl=>ln2 us hl fun _ _=>rfl;have U38:=bG (st:=nO) l38 cc38 k38;have b38:=U38.binds (ps:=["table","shares"]) fun _ _ _ _ _ _ us hl=>ln2 us hl fun _ _=>rfl;have U39:=bG (st:=gX) l39 cc39 k39;refine⟨PySem.W.fnOf "law" "law" (defArgs gX) (defBody gX) (defScope gX) .none kV39 dc39 pm39 an39 cd39 ct39,fun s v=>.of_eq rfl,fun base IB GB=>?_⟩;have aFs:=JM IB GB n_NotFalling e_NotFalling;have aGg:=JM IB GB n_NotBase e_NotBase;have aFq:=fA (mg:=mg) IB GB n_NotFalling n_NotFalling j_NotFalling_NotFalling (fA (mg:=mg) IB GB n_NotFalling n_NotBase j_NotFalling_NotBase (qH (mg:=mg) IB GB n_NotFalling));have aGf:=fA (mg:=mg) IB GB n_NotBase n_NotFalling j_NotBase_NotFalling (fA (mg:=mg) IB GB n_NotBase n_NotBase j_NotBase_NotBase (qH (mg:=mg) IB GB n_NotBase));have aGn:=fA (mg:=mg) IB GB n_Unlike n_NotFalling j_Unlike_NotFalling (fA (mg:=mg) IB GB n_Unlike n_NotBase j_Unlike_NotBase (qH (mg:=mg) IB GB n_Unlike));have aG9:=fA (mg:=mg) IB GB n_NotUnder n_NotFalling j_NotUnder_NotFalling (fA (mg:=mg) IB GB n_NotUnder n_NotBase j_NotUnder_NotBase (qH (mg:=mg) IB GB n_NotUnder));have aG0:=fA (mg:=mg) IB GB n_NotRising n_NotFalling j_NotRising_NotFalling (fA (mg:=mg) IB GB n_NotRising n_NotBase j_NotRising_NotBase (qH (mg:=mg) IB GB n_NotRising));have aG8:=fA (mg:=mg) IB GB n_BadTable n_NotFalling j_BadTable_NotFalling (fA (mg:=mg) IB GB n_BadTable n_NotBase j_BadTable_NotBase (qH (mg:=mg) IB GB n_BadTable));have aFr:=HG n_NotFalling v_ValueError_NotFalling (HG n_NotBase v_ValueError_NotBase (VR));have aG1:=LQ (mg:=mg) IB GB n_CostError n_NotFalling e_NotFalling s_CostError_NotFalling (LQ (mg:=mg) IB GB n_CostError n_NotBase e_NotBase s_CostError_NotBase (aEi (mg:=mg) IB GB n_CostError p_CostError q_CostError r_CostError));have aF6:Cal l.prog w K mg base "_law_cell" 1 ["script","k"] bW false 3:=⟨_,_,YW aF5 U0,aK5 X G0 a0,k0,b0⟩;have aFw:Cal l.prog w K mg base "_law_hands" 2 ["script"] kL false 3:=⟨_,_,ZC aF6 U1,aK5 X G0 a1,k1,b1⟩;have aFx:Cal l.prog w K mg base "_law_slots" 1 ["script","hands"] kM true 3:=⟨_,_,ZF aF4 aF5 U2,aK5 X G0 a2,k2,b2⟩;have aFc:Cal l.prog w K mg base "_law_many" 1 ["group"] fJ false 3:=⟨_,_,ZD  U3,aK5 X G0 a3,k3,b3⟩;have aG5:Cal l.prog w K mg base "_law_tied" 2 ["slots","hands","most"] kN true 3:=⟨_,_,ZG aFc aF4 aGh U4,aK5 X G0 a4,k4,b4⟩;have aFm:Cal l.prog w K mg base "_law_noisy" 2 ["slots","hands","most"] jN true 3:=⟨_,_,ZE aFc aF4 U5,aK5 X G0 a5,k5,b5⟩;have aFl:Cal l.prog w K mg base "_law_falling" 3 ["script","hands"] kJ true 3:=⟨_,_,YY aFx aF6 aG5 aFm U6,aK5 X G0 a6,k6,b6⟩;have aFu:Cal l.prog w K mg base "_law_drawn" 1 ["cell","hands"] kI true 3:=⟨_,_,YX aF4 U7,aK5 X G0 a7,k7,b7⟩;have aGj:Cal l.prog w K mg base "_law_by" 1 ["table","order"] kH true 3:=⟨_,_,YV  U8,aK5 X G0 a8,k8,b8⟩;have aFb:Cal l.prog w K mg base "_law_gives" 1 ["row","group"] gD false 3:=⟨_,_,ZB aF5 aF4 U9,aK5 X G0 a9,k9,b9⟩;have aFy:Cal l.prog w K mg base "_law_under" 2 ["table","shares"] kO false 3:=⟨_,_,ZH aFb aF5 aF4 U10,aK5 X G0 a10,k10,b10⟩;have aG4:Cal l.prog w K mg base "_law_base" 3 ["table","shares"] kG false 3:=⟨_,_,YU aFy aFb aF5 U11,aK5 X G0 a11,k11,b11⟩;have aFv:Cal l.prog w K mg base "_law_falls" 1 ["table","hands"] kK false 3:=⟨_,_,YZ aF5 aF4 U12,aK5 X G0 a12,k12,b12⟩;have aFe:Cal l.prog w K mg base "everybody" 1 ["table"] fK false 3:=⟨_,_,ZO aF5 U13,aK5 X G0 a13,k13,b13⟩;have aF9:Cal l.prog w K mg base "hands_in" 1 ["group"] eN true 3:=⟨_,_,ZU aF4 U14,aK5 X G0 a14,k14,b14⟩;have aG7:Cal l.prog w K mg base "two_break" 1 ["table","one","other"] mG false 3:=⟨_,_,aA5  U15,aK5 X G0 a15,k15,b15⟩;have aFn:Cal l.prog w K mg base "break_beside" 2 ["table","group"] kQ false 3:=⟨_,_,ZJ aFe aF9 aG7 aF7 U16,aK5 X G0 a16,k16,b16⟩;have aGb:Cal l.prog w K mg base "break_of" 3 ["table"] kR false 3:=⟨_,_,ZK aFn aF5 aF4 U17,aK5 X G0 a17,k17,b17⟩;have aGr:Cal l.prog w K mg base "falls" 4 ["table"] jO false 3:=⟨_,_,ZP aGb U18,aK5 X G0 a18,k18,b18⟩;have aGa:CalX l.prog w K mg base "must_fall" 5 ["table"] hJ false 3 []:=⟨_,_,YT aGr aFs U19,aK5 X G0 a19,k19,b19⟩;have aFd:Cal l.prog w K mg base "hand_count" 1 ["table"] gE false 3:=⟨_,_,ZT aF5 U20,aK5 X G0 a20,k20,b20⟩;have aFf:Cal l.prog w K mg base "row_gives" 2 ["row","group"] fM false 3:=⟨_,_,aA2 aF9 aH1 U21,aK5 X G0 a21,k21,b21⟩;have aF8:Cal l.prog w K mg base "less_row" 3 ["table","row"] eD true 3:=⟨_,_,ZY aFd aFf aF5 aF7 U22,aK5 X G0 a22,k22,b22⟩;have aGv:Cal l.prog w K mg base "over" 4 ["table","shares"] mE false 3:=⟨_,_,aA1 aF8 aGh U23,aK5 X G0 a23,k23,b23⟩;have aGe:Cal l.prog w K mg base "is_under" 5 ["table","shares"] mC false 3:=⟨_,_,ZW aGv U24,aK5 X G0 a24,k24,b24⟩;have aGk:Cal l.prog w K mg base "is_base" 6 ["table","shares"] hO false 3:=⟨_,_,ZV aFe aGe aFf U25,aK5 X G0 a25,k25,b25⟩;have aFk:Cal l.prog w K mg base "scaled" 1 ["many","table"] gF true 3:=⟨_,_,aA3  U26,aK5 X G0 a26,k26,b26⟩;have aFo:Cal l.prog w K mg base "full_groups" 4 ["table","shares"] kZ true 3:=⟨_,_,ZS aF8 aF7 U27,aK5 X G0 a27,k27,b27⟩;have aGo:Cal l.prog w K mg base "within" 1 ["one","other"] mH false 3:=⟨_,_,aA6  U28,aK5 X G0 a28,k28,b28⟩;have aFp:Cal l.prog w K mg base "shared_with" 2 ["groups","hand"] mF false 3:=⟨_,_,aA4 aGo U29,aK5 X G0 a29,k29,b29⟩;have aGl:Cal l.prog w K mg base "many_in" 2 ["group"] hU false 3:=⟨_,_,ZZ aF9 aF5 U30,aK5 X G0 a30,k30,b30⟩;have aFz:CalP l.prog w K mg base Pt cV "core_order" 6 ["table","shares"] kW true 3:=⟨_,_,ZN LK aFo aFp aGl aF5 aF4 aGp U31,aK5 X G0 a31,k31,b31⟩;have aGc:Cal l.prog w K mg base "by_order" 2 ["table","order"] kT true 3:=⟨_,_,ZL aFd U32,aK5 X G0 a32,k32,b32⟩;have aFj:Cal l.prog w K mg base "fraction_less" 1 ["one","other"] kY false 3:=⟨_,_,ZR  U33,aK5 X G0 a33,k33,b33⟩;have aFi:Cal l.prog w K mg base "common_divisor" 1 ["one","other"] kU false 3:=⟨_,_,ZM aGy U34,aK5 X G0 a34,k34,b34⟩;have aGd:Cal l.prog w K mg base "fraction" 2 ["top","bottom"] kX false 3:=⟨_,_,ZQ aFi U35,aK5 X G0 a35,k35,b35⟩;have aGm:Cal l.prog w K mg base "most_of" 4 ["table","size","rest","shares"] mD false 3:=⟨_,_,aA0 aFk aF8 aFj aGd aGi U36,aK5 X G0 a36,k36,b36⟩;have aGs:CalXP l.prog w K mg base Pt cV "mixed" 7 ["table","shares"] jM false 3 []:=⟨_,_,YS aGk aFk aFz aGc aGm aGa aGg aGi U37,aK5 X G0 a37,k37,b37⟩;have aG6:CalP l.prog w K mg base Pt cV "_law_word" 8 ["table","shares"] kP false 3:=⟨_,_,ZI aGs aFq aGf aGn aG9 aG0 aG8 aFr aG1 aFg aG3 aG2 U38,aK5 X G0 a38,k38,b38⟩;exact ZX aFw aFl aF6 aFu aGj aG4 aFv aG6 aF5 aG3 U39
theorem walk {l:PySem.W.OpenLaw}{q:Program}{loose:List Str}{XP:(Str->Option Value)->Heap->Prop}{YP:World->Heap->Prop}{d:DefRec}{K:Params->PySem.W.Frag}{Pt cq:Addr}(hn:l.most=some 63) (hdf:d.params.defaults=[])
  (hY:∀ (w:World) (h:Heap),YP w h->(K w.params).In h/\h.get? Pt=some (PySem.W.tabObj #[])) (hC:∀ p,PySem.W.codeHdIn (K p) cq Pt=true) (hPK:∀ p,(K p).lookup Pt=none)
  (F:∀ (w:World) (mg:Str->Option Value) (fa:Addr) (h:Heap),(K w.params).In h->h.Ns mainGlobals mg->mg d.name=some (.ref fa) ->
   ∃ fd:FuncData,(∀ (s:Shared) (u:Value),BindsTo s fd ⟨[u],[]⟩ [("script",u)])/\∀ base:Heap,(K w.params).In base->base.Ns mainGlobals mg->FnOk l.prog w (K w.params) mg base CX0 9 fa fd ["script"] (spP Pt cV (spT (K w.params) pR false 3))):
  PySem.W.WalkO q loose XP YP l.row.toRowW d [] (fun f vs=>PySem.call f vs):=
 WV ⟨rfl,by decide,by decide⟩ hn hdf hY hC hPK F NS
set_option maxRecDepth 100000
set_option maxHeartbeats 0
noncomputable def KF (P:Params):PySem.W.Frag:=
 (nat_lit 3,⟨.type "dict",none,.dict #[HD.kE P "__name__" 165 (.str "law_groupcost_k70_no_mix_refused" 523),HD.kE P "__doc__" 166 (.none),HD.kE P "__package__" 167 (.none),HD.kE P "__loader__" 168 (.builtin "__main__.__loader__#opaque"),HD.kE P "__spec__" 169 (.none),HD.kE P "__annotations__" 170 (.ref 6),HD.kE P "__builtins__" 171 (.ref 4),HD.kE P "__file__" 173 (.str "/claim/cut.py" 172),HD.kE P "__cached__" 174 (.none),HD.kE P "CostError" 206 (.ref 24),HD.kE P "BadTable" 222 (.ref 37),HD.kE P "Unlike" 238 (.ref 49),HD.kE P "NotFalling" 254 (.ref 61),HD.kE P "NotRising" 270 (.ref 73),HD.kE P "NotUnder" 286 (.ref 85),HD.kE P "NotBase" 302 (.ref 97),HD.kE P "hands_in" 310 (.ref 104),HD.kE P "many_in" 317 (.ref 111),HD.kE P "within" 325 (.ref 118),HD.kE P "shared_with" 335 (.ref 125),HD.kE P "hand_count" 344 (.ref 132),HD.kE P "everybody" 351 (.ref 139),HD.kE P "row_gives" 357 (.ref 144),HD.kE P "scaled" 363 (.ref 149),HD.kE P "less_row" 369 (.ref 154),HD.kE P "two_break" 380 (.ref 161),HD.kE P "break_beside" 392 (.ref 168),HD.kE P "break_of" 401 (.ref 175),HD.kE P "falls" 408 (.ref 182),HD.kE P "must_fall" 415 (.ref 189),HD.kE P "common_divisor" 428 (.ref 196),HD.kE P "fraction" 437 (.ref 203),HD.kE P "fraction_less" 445 (.ref 210),HD.kE P "over" 457 (.ref 217),HD.kE P "is_under" 465 (.ref 224),HD.kE P "is_base" 474 (.ref 231),HD.kE P "full_groups" 480 (.ref 236),HD.kE P "by_order" 494 (.ref 243),HD.kE P "core_order" 502 (.ref 248),HD.kE P "most_of" 516 (.ref 255),HD.kE P "mixed" 522 (.ref 260),HD.kE P "_law_cell" 532 (.ref 267),HD.kE P "_law_whole" 539 (.ref 274),HD.kE P "_law_hands" 546 (.ref 281),HD.kE P "_law_many" 554 (.ref 288),HD.kE P "_law_slots" 560 (.ref 293),HD.kE P "_law_noisy" 573 (.ref 300),HD.kE P "_law_tied" 579 (.ref 305),HD.kE P "_law_falling" 585 (.ref 310),HD.kE P "_law_by" 591 (.ref 315),HD.kE P "_law_drawn" 601 (.ref 322),HD.kE P "_law_gives" 611 (.ref 329),HD.kE P "_law_under" 620 (.ref 336),HD.kE P "_law_base" 628 (.ref 343),HD.kE P "_law_falls" 634 (.ref 348),HD.kE P "_law_word" 647 (.ref 355),HD.kE P "law" 662 (.ref 362)] 57,#[]⟩) ::
 (nat_lit 4,⟨.type "module",some 0,.plain,#[]⟩) ::
 (nat_lit 15,⟨.type "tuple",none,.seq #[.type "ValueError"] 0,#[]⟩) ::
 (nat_lit 22,⟨.type "tuple",none,.seq #[] 0,#[]⟩) ::
 (nat_lit 23,⟨.type "dict",none,.dict #[HD.kE P "__module__" 196 (.str "groupcost.errors" 187),HD.kE P "__firstlineno__" 200 (.int (2) 199),HD.kE P "__static_attributes__" 201 (.ref 22),HD.kE P "__weakref__" 203 (.ref 25),HD.kE P "__doc__" 204 (.none)] 3,#[]⟩) ::
 (nat_lit 24,⟨.type "type",none,.cls ⟨"CostError",[.type "ValueError"],[.ref 24,.type "ValueError",.type "Exception",.type "BaseException",.type "object"],23,"CostError",true,[],[.ref 37,.ref 49,.ref 61,.ref 73,.ref 85,.ref 97],false,none,false⟩,#[some (.ref 15),none,some (.str "CostError" 189),some (.str "CostError" 197),some (.builtin "ValueError.__new__"),some (.bool true)]⟩) ::
 (nat_lit 25,⟨.type "getset_descriptor",none,.fields #[.str "__weakref__" 202,.ref 24,.builtin "ExceptionGroup.__weakref__",.none],#[]⟩) ::
 (nat_lit 28,⟨.type "tuple",none,.seq #[.ref 24] 0,#[]⟩) ::
 (nat_lit 35,⟨.type "tuple",none,.seq #[] 0,#[]⟩) ::
 (nat_lit 36,⟨.type "dict",none,.dict #[HD.kE P "__module__" 214 (.str "groupcost.errors" 187),HD.kE P "__firstlineno__" 218 (.int (4) 217),HD.kE P "__static_attributes__" 219 (.ref 35),HD.kE P "__doc__" 220 (.none)] 2,#[]⟩) ::
 (nat_lit 37,⟨.type "type",none,.cls ⟨"BadTable",[.ref 24],[.ref 37,.ref 24,.type "ValueError",.type "Exception",.type "BaseException",.type "object"],36,"BadTable",true,[],[],false,none,false⟩,#[some (.ref 28),none,some (.str "BadTable" 207),some (.str "BadTable" 215),some (.builtin "ValueError.__new__"),some (.bool true)]⟩) ::
 (nat_lit 40,⟨.type "tuple",none,.seq #[.ref 24] 0,#[]⟩) ::
 (nat_lit 47,⟨.type "tuple",none,.seq #[] 0,#[]⟩) ::
 (nat_lit 48,⟨.type "dict",none,.dict #[HD.kE P "__module__" 230 (.str "groupcost.errors" 187),HD.kE P "__firstlineno__" 234 (.int (6) 233),HD.kE P "__static_attributes__" 235 (.ref 47),HD.kE P "__doc__" 236 (.none)] 2,#[]⟩) ::
 (nat_lit 49,⟨.type "type",none,.cls ⟨"Unlike",[.ref 24],[.ref 49,.ref 24,.type "ValueError",.type "Exception",.type "BaseException",.type "object"],48,"Unlike",true,[],[],false,none,false⟩,#[some (.ref 40),none,some (.str "Unlike" 223),some (.str "Unlike" 231),some (.builtin "ValueError.__new__"),some (.bool true)]⟩) ::
 (nat_lit 52,⟨.type "tuple",none,.seq #[.ref 24] 0,#[]⟩) ::
 (nat_lit 59,⟨.type "tuple",none,.seq #[] 0,#[]⟩) ::
 (nat_lit 60,⟨.type "dict",none,.dict #[HD.kE P "__module__" 246 (.str "groupcost.errors" 187),HD.kE P "__firstlineno__" 250 (.int (8) 249),HD.kE P "__static_attributes__" 251 (.ref 59),HD.kE P "__doc__" 252 (.none)] 2,#[]⟩) ::
 (nat_lit 61,⟨.type "type",none,.cls ⟨"NotFalling",[.ref 24],[.ref 61,.ref 24,.type "ValueError",.type "Exception",.type "BaseException",.type "object"],60,"NotFalling",true,[],[],false,none,false⟩,#[some (.ref 52),none,some (.str "NotFalling" 239),some (.str "NotFalling" 247),some (.builtin "ValueError.__new__"),some (.bool true)]⟩) ::
 (nat_lit 64,⟨.type "tuple",none,.seq #[.ref 24] 0,#[]⟩) ::
 (nat_lit 71,⟨.type "tuple",none,.seq #[] 0,#[]⟩) ::
 (nat_lit 72,⟨.type "dict",none,.dict #[HD.kE P "__module__" 262 (.str "groupcost.errors" 187),HD.kE P "__firstlineno__" 266 (.int (10) 265),HD.kE P "__static_attributes__" 267 (.ref 71),HD.kE P "__doc__" 268 (.none)] 2,#[]⟩) ::
 (nat_lit 73,⟨.type "type",none,.cls ⟨"NotRising",[.ref 24],[.ref 73,.ref 24,.type "ValueError",.type "Exception",.type "BaseException",.type "object"],72,"NotRising",true,[],[],false,none,false⟩,#[some (.ref 64),none,some (.str "NotRising" 255),some (.str "NotRising" 263),some (.builtin "ValueError.__new__"),some (.bool true)]⟩) ::
 (nat_lit 76,⟨.type "tuple",none,.seq #[.ref 24] 0,#[]⟩) ::
 (nat_lit 83,⟨.type "tuple",none,.seq #[] 0,#[]⟩) ::
 (nat_lit 84,⟨.type "dict",none,.dict #[HD.kE P "__module__" 278 (.str "groupcost.errors" 187),HD.kE P "__firstlineno__" 282 (.int (12) 281),HD.kE P "__static_attributes__" 283 (.ref 83),HD.kE P "__doc__" 284 (.none)] 2,#[]⟩) ::
 (nat_lit 85,⟨.type "type",none,.cls ⟨"NotUnder",[.ref 24],[.ref 85,.ref 24,.type "ValueError",.type "Exception",.type "BaseException",.type "object"],84,"NotUnder",true,[],[],false,none,false⟩,#[some (.ref 76),none,some (.str "NotUnder" 271),some (.str "NotUnder" 279),some (.builtin "ValueError.__new__"),some (.bool true)]⟩) ::
 (nat_lit 88,⟨.type "tuple",none,.seq #[.ref 24] 0,#[]⟩) ::
 (nat_lit 95,⟨.type "tuple",none,.seq #[] 0,#[]⟩) ::
 (nat_lit 96,⟨.type "dict",none,.dict #[HD.kE P "__module__" 294 (.str "groupcost.errors" 187),HD.kE P "__firstlineno__" 298 (.int (14) 297),HD.kE P "__static_attributes__" 299 (.ref 95),HD.kE P "__doc__" 300 (.none)] 2,#[]⟩) ::
 (nat_lit 97,⟨.type "type",none,.cls ⟨"NotBase",[.ref 24],[.ref 97,.ref 24,.type "ValueError",.type "Exception",.type "BaseException",.type "object"],96,"NotBase",true,[],[],false,none,false⟩,#[some (.ref 88),none,some (.str "NotBase" 287),some (.str "NotBase" 295),some (.builtin "ValueError.__new__"),some (.bool true)]⟩) ::
 (nat_lit 103,HD.kC "hands_in" 305 17 1 3 100 true 181 101 (.none) (.none) (.none) (.ref 102) 308) ::
 (nat_lit 104,⟨.type "function",none,.func (PySem.W.fnOf "hands_in" "hands_in" (L2.defArgs (top 9)) (L2.defBody (top 9)) (L2.defScope (top 9)) (.none) (.none) (.none) (.str "groupcost.masks" 303) (none) (.ref 103) (.none)),#[]⟩) ::
 (nat_lit 110,HD.kC "many_in" 311 19 1 3 105 true 181 106 (.none) (.ref 107) (.ref 108) (.ref 109) 315) ::
 (nat_lit 111,⟨.type "function",none,.func (PySem.W.fnOf "many_in" "many_in" (L2.defArgs (top 10)) (L2.defBody (top 10)) (L2.defScope (top 10)) (.none) (.none) (.none) (.str "groupcost.masks" 303) (none) (.ref 110) (.none)),#[]⟩) ::
 (nat_lit 117,HD.kC "within" 318 21 2 3 112 true 181 113 (.none) (.ref 114) (.ref 115) (.ref 116) 323) ::
 (nat_lit 118,⟨.type "function",none,.func (PySem.W.fnOf "within" "within" (L2.defArgs (top 11)) (L2.defBody (top 11)) (L2.defScope (top 11)) (.none) (.none) (.none) (.str "groupcost.masks" 303) (none) (.ref 117) (.none)),#[]⟩) ::
 (nat_lit 124,HD.kC "shared_with" 326 23 2 3 119 true 181 120 (.none) (.ref 121) (.ref 122) (.ref 123) 333) ::
 (nat_lit 125,⟨.type "function",none,.func (PySem.W.fnOf "shared_with" "shared_with" (L2.defArgs (top 12)) (L2.defBody (top 12)) (L2.defScope (top 12)) (.none) (.none) (.none) (.str "groupcost.masks" 303) (none) (.ref 124) (.none)),#[]⟩) ::
 (nat_lit 131,HD.kC "hand_count" 338 30 1 3 126 true 181 127 (.none) (.ref 128) (.ref 129) (.ref 130) 342) ::
 (nat_lit 132,⟨.type "function",none,.func (PySem.W.fnOf "hand_count" "hand_count" (L2.defArgs (top 14)) (L2.defBody (top 14)) (L2.defScope (top 14)) (.none) (.none) (.none) (.str "groupcost.tables" 336) (none) (.ref 131) (.none)),#[]⟩) ::
 (nat_lit 138,HD.kC "everybody" 345 32 1 3 133 true 181 134 (.none) (.ref 135) (.ref 136) (.ref 137) 349) ::
 (nat_lit 139,⟨.type "function",none,.func (PySem.W.fnOf "everybody" "everybody" (L2.defArgs (top 15)) (L2.defBody (top 15)) (L2.defScope (top 15)) (.none) (.none) (.none) (.str "groupcost.tables" 336) (none) (.ref 138) (.none)),#[]⟩) ::
 (nat_lit 143,HD.kC "row_gives" 352 34 2 3 140 true 181 141 (.none) (.none) (.none) (.ref 142) 355) ::
 (nat_lit 144,⟨.type "function",none,.func (PySem.W.fnOf "row_gives" "row_gives" (L2.defArgs (top 16)) (L2.defBody (top 16)) (L2.defScope (top 16)) (.none) (.none) (.none) (.str "groupcost.tables" 336) (none) (.ref 143) (.none)),#[]⟩) ::
 (nat_lit 148,HD.kC "scaled" 358 36 2 3 145 true 181 146 (.none) (.none) (.none) (.ref 147) 361) ::
 (nat_lit 149,⟨.type "function",none,.func (PySem.W.fnOf "scaled" "scaled" (L2.defArgs (top 17)) (L2.defBody (top 17)) (L2.defScope (top 17)) (.none) (.none) (.none) (.str "groupcost.tables" 336) (none) (.ref 148) (.none)),#[]⟩) ::
 (nat_lit 153,HD.kC "less_row" 364 38 2 3 150 true 181 151 (.none) (.none) (.none) (.ref 152) 367) ::
 (nat_lit 154,⟨.type "function",none,.func (PySem.W.fnOf "less_row" "less_row" (L2.defArgs (top 18)) (L2.defBody (top 18)) (L2.defScope (top 18)) (.none) (.none) (.none) (.str "groupcost.tables" 336) (none) (.ref 153) (.none)),#[]⟩) ::
 (nat_lit 160,HD.kC "two_break" 372 43 3 3 155 true 181 156 (.none) (.ref 157) (.ref 158) (.ref 159) 378) ::
 (nat_lit 161,⟨.type "function",none,.func (PySem.W.fnOf "two_break" "two_break" (L2.defArgs (top 20)) (L2.defBody (top 20)) (L2.defScope (top 20)) (.none) (.none) (.none) (.str "groupcost.falling" 370) (none) (.ref 160) (.none)),#[]⟩) ::
 (nat_lit 167,HD.kC "break_beside" 381 45 2 3 162 true 181 163 (.none) (.ref 164) (.ref 165) (.ref 166) 390) ::
 (nat_lit 168,⟨.type "function",none,.func (PySem.W.fnOf "break_beside" "break_beside" (L2.defArgs (top 21)) (L2.defBody (top 21)) (L2.defScope (top 21)) (.none) (.none) (.none) (.str "groupcost.falling" 370) (none) (.ref 167) (.none)),#[]⟩) ::
 (nat_lit 174,HD.kC "break_of" 393 52 1 3 169 true 181 170 (.none) (.ref 171) (.ref 172) (.ref 173) 399) ::
 (nat_lit 175,⟨.type "function",none,.func (PySem.W.fnOf "break_of" "break_of" (L2.defArgs (top 22)) (L2.defBody (top 22)) (L2.defScope (top 22)) (.none) (.none) (.none) (.str "groupcost.falling" 370) (none) (.ref 174) (.none)),#[]⟩) ::
 (nat_lit 181,HD.kC "falls" 402 58 1 3 176 true 181 177 (.none) (.ref 178) (.ref 179) (.ref 180) 406) ::
 (nat_lit 182,⟨.type "function",none,.func (PySem.W.fnOf "falls" "falls" (L2.defArgs (top 23)) (L2.defBody (top 23)) (L2.defScope (top 23)) (.none) (.none) (.none) (.str "groupcost.falling" 370) (none) (.ref 181) (.none)),#[]⟩) ::
 (nat_lit 188,HD.kC "must_fall" 409 60 1 3 183 true 181 184 (.none) (.ref 185) (.ref 186) (.ref 187) 413) ::
 (nat_lit 189,⟨.type "function",none,.func (PySem.W.fnOf "must_fall" "must_fall" (L2.defArgs (top 24)) (L2.defBody (top 24)) (L2.defScope (top 24)) (.none) (.none) (.none) (.str "groupcost.falling" 370) (none) (.ref 188) (.none)),#[]⟩) ::
 (nat_lit 195,HD.kC "common_divisor" 418 64 2 3 190 true 181 191 (.none) (.ref 192) (.ref 193) (.ref 194) 426) ::
 (nat_lit 196,⟨.type "function",none,.func (PySem.W.fnOf "common_divisor" "common_divisor" (L2.defArgs (top 26)) (L2.defBody (top 26)) (L2.defScope (top 26)) (.none) (.none) (.none) (.str "groupcost.fractions" 416) (none) (.ref 195) (.none)),#[]⟩) ::
 (nat_lit 202,HD.kC "fraction" 429 72 2 3 197 true 181 198 (.none) (.ref 199) (.ref 200) (.ref 201) 435) ::
 (nat_lit 203,⟨.type "function",none,.func (PySem.W.fnOf "fraction" "fraction" (L2.defArgs (top 27)) (L2.defBody (top 27)) (L2.defScope (top 27)) (.none) (.none) (.none) (.str "groupcost.fractions" 416) (none) (.ref 202) (.none)),#[]⟩) ::
 (nat_lit 209,HD.kC "fraction_less" 438 77 2 3 204 true 181 205 (.none) (.ref 206) (.ref 207) (.ref 208) 443) ::
 (nat_lit 210,⟨.type "function",none,.func (PySem.W.fnOf "fraction_less" "fraction_less" (L2.defArgs (top 28)) (L2.defBody (top 28)) (L2.defScope (top 28)) (.none) (.none) (.none) (.str "groupcost.fractions" 416) (none) (.ref 209) (.none)),#[]⟩) ::
 (nat_lit 216,HD.kC "over" 448 80 2 3 211 true 181 212 (.none) (.ref 213) (.ref 214) (.ref 215) 455) ::
 (nat_lit 217,⟨.type "function",none,.func (PySem.W.fnOf "over" "over" (L2.defArgs (top 30)) (L2.defBody (top 30)) (L2.defScope (top 30)) (.none) (.none) (.none) (.str "groupcost.shares" 446) (none) (.ref 216) (.none)),#[]⟩) ::
 (nat_lit 223,HD.kC "is_under" 458 84 2 3 218 true 181 219 (.none) (.ref 220) (.ref 221) (.ref 222) 463) ::
 (nat_lit 224,⟨.type "function",none,.func (PySem.W.fnOf "is_under" "is_under" (L2.defArgs (top 31)) (L2.defBody (top 31)) (L2.defScope (top 31)) (.none) (.none) (.none) (.str "groupcost.shares" 446) (none) (.ref 223) (.none)),#[]⟩) ::
 (nat_lit 230,HD.kC "is_base" 466 86 2 3 225 true 181 226 (.none) (.ref 227) (.ref 228) (.ref 229) 472) ::
 (nat_lit 231,⟨.type "function",none,.func (PySem.W.fnOf "is_base" "is_base" (L2.defArgs (top 32)) (L2.defBody (top 32)) (L2.defScope (top 32)) (.none) (.none) (.none) (.str "groupcost.shares" 446) (none) (.ref 230) (.none)),#[]⟩) ::
 (nat_lit 235,HD.kC "full_groups" 475 89 2 3 232 true 181 233 (.none) (.none) (.none) (.ref 234) 478) ::
 (nat_lit 236,⟨.type "function",none,.func (PySem.W.fnOf "full_groups" "full_groups" (L2.defArgs (top 33)) (L2.defBody (top 33)) (L2.defScope (top 33)) (.none) (.none) (.none) (.str "groupcost.shares" 446) (none) (.ref 235) (.none)),#[]⟩) ::
 (nat_lit 242,HD.kC "by_order" 483 92 2 3 237 true 181 238 (.none) (.ref 239) (.ref 240) (.ref 241) 492) ::
 (nat_lit 243,⟨.type "function",none,.func (PySem.W.fnOf "by_order" "by_order" (L2.defArgs (top 35)) (L2.defBody (top 35)) (L2.defScope (top 35)) (.none) (.none) (.none) (.str "groupcost.orders" 481) (none) (.ref 242) (.none)),#[]⟩) ::
 (nat_lit 247,HD.kC "core_order" 497 101 2 3 244 true 181 245 (.none) (.none) (.none) (.ref 246) 500) ::
 (nat_lit 248,⟨.type "function",none,.func (PySem.W.fnOf "core_order" "core_order" (L2.defArgs (top 37)) (L2.defBody (top 37)) (L2.defScope (top 37)) (.none) (.none) (.none) (.str "groupcost.mixes" 495) (none) (.ref 247) (.none)),#[]⟩) ::
 (nat_lit 254,HD.kC "most_of" 503 105 4 3 249 true 181 250 (.none) (.ref 251) (.ref 252) (.ref 253) 514) ::
 (nat_lit 255,⟨.type "function",none,.func (PySem.W.fnOf "most_of" "most_of" (L2.defArgs (top 38)) (L2.defBody (top 38)) (L2.defScope (top 38)) (.none) (.none) (.none) (.str "groupcost.mixes" 495) (none) (.ref 254) (.none)),#[]⟩) ::
 (nat_lit 259,HD.kC "mixed" 517 112 2 3 256 true 181 257 (.none) (.none) (.none) (.ref 258) 520) ::
 (nat_lit 260,⟨.type "function",none,.func (PySem.W.fnOf "mixed" "mixed" (L2.defArgs (top 39)) (L2.defBody (top 39)) (L2.defScope (top 39)) (.none) (.none) (.none) (.str "groupcost.mixes" 495) (none) (.ref 259) (.none)),#[]⟩) ::
 (nat_lit 266,HD.kC "_law_cell" 525 128 2 3 261 true 181 262 (.none) (.ref 263) (.ref 264) (.ref 265) 530) ::
 (nat_lit 267,⟨.type "function",none,.func (PySem.W.fnOf "_law_cell" "_law_cell" (L2.defArgs (top 41)) (L2.defBody (top 41)) (L2.defScope (top 41)) (.none) (.none) (.none) (.str "law_groupcost_k70_no_mix_refused" 523) (none) (.ref 266) (.none)),#[]⟩) ::
 (nat_lit 280,HD.kC "_law_hands" 540 134 1 3 275 true 181 276 (.none) (.ref 277) (.ref 278) (.ref 279) 544) ::
 (nat_lit 281,⟨.type "function",none,.func (PySem.W.fnOf "_law_hands" "_law_hands" (L2.defArgs (top 43)) (L2.defBody (top 43)) (L2.defScope (top 43)) (.none) (.none) (.none) (.str "law_groupcost_k70_no_mix_refused" 523) (none) (.ref 280) (.none)),#[]⟩) ::
 (nat_lit 287,HD.kC "_law_many" 547 136 1 3 282 true 181 283 (.none) (.ref 284) (.ref 285) (.ref 286) 552) ::
 (nat_lit 288,⟨.type "function",none,.func (PySem.W.fnOf "_law_many" "_law_many" (L2.defArgs (top 44)) (L2.defBody (top 44)) (L2.defScope (top 44)) (.none) (.none) (.none) (.str "law_groupcost_k70_no_mix_refused" 523) (none) (.ref 287) (.none)),#[]⟩) ::
 (nat_lit 292,HD.kC "_law_slots" 555 142 2 3 289 true 181 290 (.none) (.none) (.none) (.ref 291) 558) ::
 (nat_lit 293,⟨.type "function",none,.func (PySem.W.fnOf "_law_slots" "_law_slots" (L2.defArgs (top 45)) (L2.defBody (top 45)) (L2.defScope (top 45)) (.none) (.none) (.none) (.str "law_groupcost_k70_no_mix_refused" 523) (none) (.ref 292) (.none)),#[]⟩) ::
 (nat_lit 299,HD.kC "_law_noisy" 561 149 3 3 294 true 181 295 (.none) (.ref 296) (.ref 297) (.ref 298) 571) ::
 (nat_lit 300,⟨.type "function",none,.func (PySem.W.fnOf "_law_noisy" "_law_noisy" (L2.defArgs (top 46)) (L2.defBody (top 46)) (L2.defScope (top 46)) (.none) (.none) (.none) (.str "law_groupcost_k70_no_mix_refused" 523) (none) (.ref 299) (.none)),#[]⟩) ::
 (nat_lit 304,HD.kC "_law_tied" 574 156 3 3 301 true 181 302 (.none) (.none) (.none) (.ref 303) 577) ::
 (nat_lit 305,⟨.type "function",none,.func (PySem.W.fnOf "_law_tied" "_law_tied" (L2.defArgs (top 47)) (L2.defBody (top 47)) (L2.defScope (top 47)) (.none) (.none) (.none) (.str "law_groupcost_k70_no_mix_refused" 523) (none) (.ref 304) (.none)),#[]⟩) ::
 (nat_lit 309,HD.kC "_law_falling" 580 172 2 3 306 true 181 307 (.none) (.none) (.none) (.ref 308) 583) ::
 (nat_lit 310,⟨.type "function",none,.func (PySem.W.fnOf "_law_falling" "_law_falling" (L2.defArgs (top 48)) (L2.defBody (top 48)) (L2.defScope (top 48)) (.none) (.none) (.none) (.str "law_groupcost_k70_no_mix_refused" 523) (none) (.ref 309) (.none)),#[]⟩) ::
 (nat_lit 314,HD.kC "_law_by" 586 183 2 3 311 true 181 312 (.none) (.none) (.none) (.ref 313) 589) ::
 (nat_lit 315,⟨.type "function",none,.func (PySem.W.fnOf "_law_by" "_law_by" (L2.defArgs (top 49)) (L2.defBody (top 49)) (L2.defScope (top 49)) (.none) (.none) (.none) (.str "law_groupcost_k70_no_mix_refused" 523) (none) (.ref 314) (.none)),#[]⟩) ::
 (nat_lit 321,HD.kC "_law_drawn" 592 190 2 3 316 true 181 317 (.none) (.ref 318) (.ref 319) (.ref 320) 599) ::
 (nat_lit 322,⟨.type "function",none,.func (PySem.W.fnOf "_law_drawn" "_law_drawn" (L2.defArgs (top 50)) (L2.defBody (top 50)) (L2.defScope (top 50)) (.none) (.none) (.none) (.str "law_groupcost_k70_no_mix_refused" 523) (none) (.ref 321) (.none)),#[]⟩) ::
 (nat_lit 328,HD.kC "_law_gives" 602 196 2 3 323 true 181 324 (.none) (.ref 325) (.ref 326) (.ref 327) 609) ::
 (nat_lit 329,⟨.type "function",none,.func (PySem.W.fnOf "_law_gives" "_law_gives" (L2.defArgs (top 51)) (L2.defBody (top 51)) (L2.defScope (top 51)) (.none) (.none) (.none) (.str "law_groupcost_k70_no_mix_refused" 523) (none) (.ref 328) (.none)),#[]⟩) ::
 (nat_lit 335,HD.kC "_law_under" 612 202 2 3 330 true 181 331 (.none) (.ref 332) (.ref 333) (.ref 334) 618) ::
 (nat_lit 336,⟨.type "function",none,.func (PySem.W.fnOf "_law_under" "_law_under" (L2.defArgs (top 52)) (L2.defBody (top 52)) (L2.defScope (top 52)) (.none) (.none) (.none) (.str "law_groupcost_k70_no_mix_refused" 523) (none) (.ref 335) (.none)),#[]⟩) ::
 (nat_lit 342,HD.kC "_law_base" 621 207 2 3 337 true 181 338 (.none) (.ref 339) (.ref 340) (.ref 341) 626) ::
 (nat_lit 343,⟨.type "function",none,.func (PySem.W.fnOf "_law_base" "_law_base" (L2.defArgs (top 53)) (L2.defBody (top 53)) (L2.defScope (top 53)) (.none) (.none) (.none) (.str "law_groupcost_k70_no_mix_refused" 523) (none) (.ref 342) (.none)),#[]⟩) ::
 (nat_lit 347,HD.kC "_law_falls" 629 209 2 3 344 true 181 345 (.none) (.none) (.none) (.ref 346) 632) ::
 (nat_lit 348,⟨.type "function",none,.func (PySem.W.fnOf "_law_falls" "_law_falls" (L2.defArgs (top 54)) (L2.defBody (top 54)) (L2.defScope (top 54)) (.none) (.none) (.none) (.str "law_groupcost_k70_no_mix_refused" 523) (none) (.ref 347) (.none)),#[]⟩) ::
 (nat_lit 354,HD.kC "_law_word" 635 218 2 3 349 true 181 350 (.none) (.ref 351) (.ref 352) (.ref 353) 645) ::
 (nat_lit 355,⟨.type "function",none,.func (PySem.W.fnOf "_law_word" "_law_word" (L2.defArgs (top 55)) (L2.defBody (top 55)) (L2.defScope (top 55)) (.none) (.none) (.none) (.str "law_groupcost_k70_no_mix_refused" 523) (none) (.ref 354) (.none)),#[]⟩) ::
 (nat_lit 361,HD.kC "law" 648 231 1 3 356 true 181 357 (.none) (.ref 358) (.ref 359) (.ref 360) 660) ::
 (nat_lit 362,⟨.type "function",none,.func (PySem.W.fnOf "law" "law" (L2.defArgs (top 56)) (L2.defBody (top 56)) (L2.defScope (top 56)) (.none) (.none) (.none) (.str "law_groupcost_k70_no_mix_refused" 523) (none) (.ref 361) (.none)),#[]⟩)::[]
def KA:List Nat:=[3,4,15,22,23,24,25,28,35,36,37,40,47,48,49,52,59,60,61,64,71,72,73,76,83,84,85,88,95,96,97,103,104,110,111,117,118,124,125,131,132,138,139,143,144,148,149,153,154,160,161,167,168,174,175,181,182,188,189,195,196,202,203,209,210,216,217,223,224,230,231,235,236,242,243,247,248,254,255,259,260,266,267,280,281,287,288,292,293,299,300,304,305,309,310,314,315,321,322,328,329,335,336,342,343,347,348,354,355,361,362]
theorem KE (P:Params):KA=(KF P).map (·.1):=by kernel_rfl
noncomputable abbrev qq:Program:=PySem.W.view PySem.Challenge.pw_groupcost_k70_no_mix_refused [56]
noncomputable abbrev lo:List Str:=(["CostError","BadTable","Unlike","NotFalling","NotRising","NotUnder","NotBase","hands_in","many_in","within","shared_with","hand_count","everybody","row_gives","scaled","less_row","two_break","break_beside","break_of","falls","must_fall","common_divisor","fraction","fraction_less","over","is_under","is_base","full_groups","by_order","core_order","most_of","mixed","_law_cell","_law_whole","_law_hands","_law_many","_law_slots","_law_noisy","_law_tied","_law_falling","_law_by","_law_drawn","_law_gives","_law_under","_law_base","_law_falls","_law_word"]:List String).map Str.ofString
noncomputable abbrev Xt (s:Shared):Bool:=PySem.W.xlAt qq [] s&&PySem.W.recOk (PySem.W.RowW.records (PySem.W.OpenRow.toRowW PySem.Challenge.rw_groupcost_k70_no_mix_refused.row)) s
theorem left:PySem.W.LeftO PySem.Challenge.pw_groupcost_k70_no_mix_refused qq lo Xt (PySem.W.Hook.obs (PySem.W.kmHook KF KA KE [245])) (PySem.W.Hook.val (PySem.W.kmHook KF KA KE [245])) 6260:=
 HD.left_of (PySem.W.boot_open (by kernel_rfl) (by kernel_rfl) (fun s=>by kernel_rfl)) fun w os=>by kernel_rfl
end My
open PySem PySem.W PyProof.Rows
set_option maxRecDepth 100000 in
set_option maxHeartbeats 0 in
theorem PySem.Challenge.cw_groupcost_k70_no_mix_refused_holds : PySem.Challenge.rw_groupcost_k70_no_mix_refused.Holds := by
 w_on
 refine holds_law (HD.said_of (by kernel_rfl)) fun said => ?_;refine holds_open (q := My.qq) (loose := My.lo) (Xt := My.Xt) (XP := XL My.qq []) (YP := Hook.says (kmHook My.KF My.KA My.KE [245])) My.left (Hook.of (kmHook My.KF My.KA My.KE [245])) (Hook.keeps (kmHook My.KF My.KA My.KE [245])) (fun s e => xl_of s (aHo.mp e).1) XL.keeps (by rfl) (by rfl) (by rfl) (fun s e => recFacts_of (aHo.mp e).2) (by rfl) said (by decide +kernel) ⟨rfl, rfl, rfl, rfl, rfl, by decide +kernel⟩ ?hw ?hc
 case hw => w_witness2
 k_fill
 refine My.walk (l := PySem.Challenge.rw_groupcost_k70_no_mix_refused) (Pt := 245) (cq := 247) rfl rfl (fun w h Y => ⟨PySem.W.km_in_of Y, PySem.W.km_tabs_of Y 245 (by simp)⟩) (fun p => by kernel_rfl) (fun p => by kernel_rfl) ?F
 case F =>
  intro w mg fa h KX G hmg;refine' My.all_mk (Pt := 245) (cq := 247) (bm := 4) KX G hmg ?a0 ?l0 ?cc0 ?k0 ?a1 ?l1 ?cc1 ?k1 ?a2 ?l2 ?cc2 ?k2 ?a3 ?l3 ?cc3 ?k3 ?a4 ?l4 ?cc4 ?k4 ?a5 ?l5 ?cc5 ?k5 ?a6 ?l6 ?cc6 ?k6 ?a7 ?l7 ?cc7 ?k7 ?a8 ?l8 ?cc8 ?k8 ?a9 ?l9 ?cc9 ?k9 ?a10 ?l10 ?cc10 ?k10 ?a11 ?l11 ?cc11 ?k11 ?a12 ?l12 ?cc12 ?k12 ?a13 ?l13 ?cc13 ?k13 ?a14 ?l14 ?cc14 ?k14 ?a15 ?l15 ?cc15 ?k15 ?a16 ?l16 ?cc16 ?k16 ?a17 ?l17 ?cc17 ?k17 ?a18 ?l18 ?cc18 ?k18 ?a19 ?l19 ?cc19 ?k19 ?a20 ?l20 ?cc20 ?k20 ?a21 ?l21 ?cc21 ?k21 ?a22 ?l22 ?cc22 ?k22 ?a23 ?l23 ?cc23 ?k23 ?a24 ?l24 ?cc24 ?k24 ?a25 ?l25 ?cc25 ?k25 ?a26 ?l26 ?cc26 ?k26 ?a27 ?l27 ?cc27 ?k27 ?a28 ?l28 ?cc28 ?k28 ?a29 ?l29 ?cc29 ?k29 ?a30 ?l30 ?cc30 ?k30 ?a31 ?l31 ?cc31 ?k31 ?a32 ?l32 ?cc32 ?k32 ?a33 ?l33 ?cc33 ?k33 ?a34 ?l34 ?cc34 ?k34 ?a35 ?l35 ?cc35 ?k35 ?a36 ?l36 ?cc36 ?k36 ?a37 ?l37 ?cc37 ?k37 ?a38 ?l38 ?cc38 ?k38 ?a39 ?l39 ?cc39 ?k39 ?q_code ?q_blt ?q_mod ?n1 ?n2 ?aH6 ?aH3 ?aH7 ?aGz ?aH8 ?aH2 ?aH5 ?aH9 ?aGx ?aH4 ?aGw ?n_NotFalling ?n_NotBase ?n_Unlike ?n_NotUnder ?n_NotRising ?n_BadTable ?n_CostError ?e_NotFalling ?e_NotBase ?j_NotFalling_NotFalling ?j_NotFalling_NotBase ?j_NotBase_NotFalling ?j_NotBase_NotBase ?j_Unlike_NotFalling ?j_Unlike_NotBase ?j_NotUnder_NotFalling ?j_NotUnder_NotBase ?j_NotRising_NotFalling ?j_NotRising_NotBase ?j_BadTable_NotFalling ?j_BadTable_NotBase ?v_ValueError_NotFalling ?v_ValueError_NotBase ?p_CostError ?q_CostError ?r_CostError ?s_CostError_NotFalling ?s_CostError_NotBase
  case n1 => decide
  case n2 => decide
  case q_code => kernel_rfl
  any_goals (show _ = _; first | k_is | kernel_rfl)
